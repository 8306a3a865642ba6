/- A step of the model, for every good processor. What the model's GoodCpu answers, for every processor. What the model's StepCpu answers, for every processor. -/
import Derived.Test.YtblddehlkaolbaaGreatDoorJA21
import Derived.Test.YtblddehlkaolbaaGreatDoorJA4
import Derived.Test.YtblddehlkaolbaaGreatDoorJA2
namespace Go.Proofs.YtblddehlkaolbaaGreatDoor
open Go.RowKit
set_option linter.unusedVariables false
set_option maxRecDepth 100000 in
set_option maxHeartbeats 8000000 in
theorem mStep_sup (w : World) (c : Pl.Cp) (a b e q : Option Addr) (ca cb ce cq : Nat) (ha : IRow w a c.r.xs) (hb : IRow w b c.r.ys) (he : IRow w e c.bx) (hq : IRow w q c.bl) (hok : Pl.cpOk c = true) (hl : c.bl.length = 5 * c.bm) (hf : (Pl.Mc.ofC c).fetch.fine = true) (hp : Pl.priv (Pl.Mc.ofC c).fetI = true) (hs : (Pl.Mc.ofC c).fetch.r.s = true) (hfs : (((Pl.Mc.ofC c).fetch.setP (((Pl.Mc.ofC c).r.p + 2 * (Pl.Mc.ofC c).fetN) % 65536)).doI (Pl.Mc.ofC c).fetI (Pl.Mc.ofC c).r.p).fine = true) :
    Calls Tryz.prog 18 #[.agg #[.slice a 4 ca, .slice b 4 cb, .int .i64 c.r.o, .int .i64 c.r.p, .int .i64 c.r.f, .int .i64 c.r.m, .bool c.r.s, .bool c.r.t, .slice e 512 ce, .slice q c.bm cq, .bool c.st, .bool c.ha]] w fun r w' => ∃ gd cd ga cA g1 c1 g2 c2 mid : Nat, r = .returned (.tuple #[.agg (cpuC (Pl.stepC c) gd cd ga cA g1 c1 g2 c2), .agg (ftC (Pl.stepF c))]) ∧ CO w' w.heap.size mid (Pl.stepC c) gd ga g1 g2 c2 ∧ Kept 0 0 w w' := by
  have HG := hide (Pl.GM.of hok hl c.st)
  have h4 := HG.out.g.d4
  have h5 := HG.out.g.a4
  have hbx := HG.out.bx
  have hbm := HG.out.bm
  have K0 := hide (kept_new (kept_new (kept_alloc w (.cells #[.slice a 4 ca, .slice b 4 cb, .int .i64 c.r.o, .int .i64 c.r.p, .int .i64 c.r.f, .int .i64 c.r.m, .bool c.r.s, .bool c.r.t, .slice e 512 ce, .slice q c.bm cq, .bool c.st, .bool c.ha] 36)) (.cells #[.slice none 0 0, .slice none 0 0, .int .i64 0, .int .i64 0, .int .i64 0, .int .i64 0, .bool false, .bool false, .slice none 0 0, .slice none 0 0, .bool false, .bool false] 36)) (.cells #[.int .i64 0, .int .i64 0, .int .i64 0, .int .i64 0, .bool false] 38))
  have B0 := ((Blk.new w #[.slice a 4 ca, .slice b 4 cb, .int .i64 c.r.o, .int .i64 c.r.p, .int .i64 c.r.f, .int .i64 c.r.m, .bool c.r.s, .bool c.r.t, .slice e 512 ce, .slice q c.bm cq, .bool c.st, .bool c.ha] 36).alloc (.cells #[.slice none 0 0, .slice none 0 0, .int .i64 0, .int .i64 0, .int .i64 0, .int .i64 0, .bool false, .bool false, .slice none 0 0, .slice none 0 0, .bool false, .bool false] 36)).alloc (.cells #[.int .i64 0, .int .i64 0, .int .i64 0, .int .i64 0, .bool false] 38)
  have B1 := (Blk.new (w.alloc (.cells #[.slice a 4 ca, .slice b 4 cb, .int .i64 c.r.o, .int .i64 c.r.p, .int .i64 c.r.f, .int .i64 c.r.m, .bool c.r.s, .bool c.r.t, .slice e 512 ce, .slice q c.bm cq, .bool c.st, .bool c.ha] 36)) #[.slice none 0 0, .slice none 0 0, .int .i64 0, .int .i64 0, .int .i64 0, .int .i64 0, .bool false, .bool false, .slice none 0 0, .slice none 0 0, .bool false, .bool false] 36).alloc (.cells #[.int .i64 0, .int .i64 0, .int .i64 0, .int .i64 0, .bool false] 38)
  have B2 := Blk.new ((w.alloc (.cells #[.slice a 4 ca, .slice b 4 cb, .int .i64 c.r.o, .int .i64 c.r.p, .int .i64 c.r.f, .int .i64 c.r.m, .bool c.r.s, .bool c.r.t, .slice e 512 ce, .slice q c.bm cq, .bool c.st, .bool c.ha] 36)).alloc (.cells #[.slice none 0 0, .slice none 0 0, .int .i64 0, .int .i64 0, .int .i64 0, .int .i64 0, .bool false, .bool false, .slice none 0 0, .slice none 0 0, .bool false, .bool false] 36)) #[.int .i64 0, .int .i64 0, .int .i64 0, .int .i64 0, .bool false] 38
  simp only [World.size_alloc] at B1 B2
  obtain ⟨X, hX⟩ : ∃ X : World, ((w.alloc (.cells #[.slice a 4 ca, .slice b 4 cb, .int .i64 c.r.o, .int .i64 c.r.p, .int .i64 c.r.f, .int .i64 c.r.m, .bool c.r.s, .bool c.r.t, .slice e 512 ce, .slice q c.bm cq, .bool c.st, .bool c.ha] 36)).alloc (.cells #[.slice none 0 0, .slice none 0 0, .int .i64 0, .int .i64 0, .int .i64 0, .int .i64 0, .bool false, .bool false, .slice none 0 0, .slice none 0 0, .bool false, .bool false] 36)).alloc (.cells #[.int .i64 0, .int .i64 0, .int .i64 0, .int .i64 0, .bool false] 38) = X := ⟨_, rfl⟩
  rw [hX] at K0 B0 B1 B2
  have hxs : X.heap.size = w.heap.size + 3 := by rw [← hX]; simp
  have HXS := hide hxs
  have HB0 := hide B0
  have HB1 := hide B1
  have HB2 := hide B2
  have HA := hide (ha.keptS K0.out)
  have HB := hide (hb.keptS K0.out)
  have HE := hide (he.keptS K0.out)
  have HQ := hide (hq.keptS K0.out)
  have HAw := hide ha
  have HBw := hide hb
  clear B0 B1 B2 ha hb he hq hxs
  have i0 := HB0.out.cell (i := 0) rfl
  have i1 := HB0.out.cell (i := 1) rfl
  have i2 := HB0.out.cell (i := 2) rfl
  have i3 := HB0.out.cell (i := 3) rfl
  have i4 := HB0.out.cell (i := 4) rfl
  have i5 := HB0.out.cell (i := 5) rfl
  have i6 := HB0.out.cell (i := 6) rfl
  have i7 := HB0.out.cell (i := 7) rfl
  have i8 := HB0.out.cell (i := 8) rfl
  have i9 := HB0.out.cell (i := 9) rfl
  have i10 := HB0.out.cell (i := 10) rfl
  have i11 := HB0.out.cell (i := 11) rfl
  obtain ⟨hin, hfn⟩ := Pl.fetch_ok hf
  have hpp0 : 0 ≤ (Pl.Mc.ofC c).r.p := HG.out.p0
  have hpp1 : (Pl.Mc.ofC c).r.p ≤ 65535 := HG.out.p1
  have HGd : Hid (Pl.GM ((Pl.Mc.ofC c).fetch.setP (((Pl.Mc.ofC c).r.p + 2 * (Pl.Mc.ofC c).fetN) % 65536))) := hide ((Pl.GM.fetch HG.out).setP (by omega) (by omega))
  have hfd : ((Pl.Mc.ofC c).fetch.setP (((Pl.Mc.ofC c).r.p + 2 * (Pl.Mc.ofC c).fetN) % 65536)).fine = true := hf
  have HGs := hide (HGd.out.doI hin (Pl.Mc.ofC c).r.p)
  have HDO := fun w9 mid hi p g3 h9 => mDo w9 X.heap.size mid hi p g3 ((Pl.Mc.ofC c).fetch.setP (((Pl.Mc.ofC c).r.p + 2 * (Pl.Mc.ofC c).fetN) % 65536)) (Pl.Mc.ofC c).fetI (Pl.Mc.ofC c).r.p h9 HGd.out hin hpp0 hpp1 hfd
  have ES : Pl.stepM c = ((Pl.Mc.ofC c).fetch.setP (((Pl.Mc.ofC c).r.p + 2 * (Pl.Mc.ofC c).fetN) % 65536)).doI (Pl.Mc.ofC c).fetI (Pl.Mc.ofC c).r.p := by
    have e1 : (Pl.Mc.ofC c).s1 = (Pl.Mc.ofC c).fetch := by unfold Pl.Mc.s1; rw [hf, hp, hs]; rfl
    unfold Pl.stepM Pl.Mc.s2; rw [e1, hf]; rfl
  obtain ⟨sd, hsd⟩ : ∃ s, ((Pl.Mc.ofC c).fetch.setP (((Pl.Mc.ofC c).r.p + 2 * (Pl.Mc.ofC c).fetN) % 65536)).doI (Pl.Mc.ofC c).fetI (Pl.Mc.ofC c).r.p = s := ⟨_, rfl⟩
  rw [hsd] at HGs hfs ES
  simp only [hsd] at HDO
  clear hsd
  have EC : Hid (Pl.stepC c = sd.cpu false) := hide (by unfold Pl.stepC; rw [ES, hfs]; rfl)
  have EF : Hid (Pl.stepF c = Pl.ftNo) := hide (by unfold Pl.stepF; rw [ES, hfs]; rfl)
  have HBL : Hid (w.heap.size < X.heap.size) := hide (by have := HXS.out; omega)
  have HB1L : Hid (w.heap.size + 1 < X.heap.size) := hide (by have := HXS.out; omega)
  have HB2L : Hid (w.heap.size + 1 + 1 < X.heap.size) := hide (by have := HXS.out; omega)
  have HPV : Hid (Pl.priv ⟨(Pl.Mc.ofC c).fetI.op, (Pl.Mc.ofC c).fetI.z, (Pl.Mc.ofC c).fetI.r, (Pl.Mc.ofC c).fetI.m, (Pl.Mc.ofC c).fetI.k, (Pl.Mc.ofC c).fetI.e, (Pl.Mc.ofC c).fetI.s⟩ = true) := hide hp
  have hmk := mask16 ((Pl.Mc.ofC c).r.p + 2 * (Pl.Mc.ofC c).fetN)
  have hn0 : 1 ≤ (Pl.Mc.ofC c).fetN := by omega
  have hn1 : (Pl.Mc.ofC c).fetN ≤ 2 := by omega
  clear ES hp hfn hin hfd
  go_enter Tryz.func18, Tryz.ntmps18
  go_wp2_with (first | (go_at_call 41; have z9 := HM6; refine (mFine _ X.heap.size mid W1.heap.size p g6 _ HM6.out).mono ?_; rintro e9 w9 ⟨rfl, hw⟩; have hw2 := hw.symm; clear hw; subst hw2; rw [hfs]) | (go_at_call 43; have z9 := HMd; refine (HDO _ mid W1.heap.size p g3 HMd.out).mono ?_; rintro e9 W6 ⟨rfl, g6, hm9, hb9⟩; have HM6 := hide hm9; have HL6 := hide (HLd.out.trans (below_since hb9 HMd.out.logLo HLd.out.size)); have HK6 := hide (kept_lower K0.out HL6.out K0.out.size); have HZ6 := hide (HB0.out.below HL6.out HBL.out); clear hb9 x0 x1 x2 x3 x4 x5 x6 t3 t6 t11 f3 f11 i0 i1 i2 i3 i4 i5 i6 i7 i8 i9 i10 i11; have i0 := HZ6.out.cell (i := 0) rfl; have i1 := HZ6.out.cell (i := 1) rfl; have i2 := HZ6.out.cell (i := 2) rfl; have i3 := HZ6.out.cell (i := 3) rfl; have i4 := HZ6.out.cell (i := 4) rfl; have i5 := HZ6.out.cell (i := 5) rfl; have i6 := HZ6.out.cell (i := 6) rfl; have i7 := HZ6.out.cell (i := 7) rfl; have i8 := HZ6.out.cell (i := 8) rfl; have i9 := HZ6.out.cell (i := 9) rfl; have i10 := HZ6.out.cell (i := 10) rfl; have i11 := HZ6.out.cell (i := 11) rfl; obtain ⟨gd6, cd6, ga6, ca6, g16, c16, c26, hB9, hO9⟩ := hm9; have HB6 := hide hB9; have HO6 := hide hO9; have hpw6 := hB9.lt; clear hB9 hO9) | (go_at_call 41; have z9 := HMd; refine (mFine _ X.heap.size mid W1.heap.size p g3 _ HM5.out).mono ?_; rintro e9 w9 ⟨rfl, hw⟩; have hw2 := hw.symm; clear hw; subst hw2; rw [hf]) | (go_at_call 41; have z9 := HBm; refine (mFine _ X.heap.size mid W1.heap.size p g3 _ HMZ.out).mono ?_; rintro e9 w9 ⟨rfl, hw⟩; have hw2 := hw.symm; clear hw; subst hw2; rw [hf]) | (go_at_call 39; refine (mStart _ c a b e q ca cb ce cq HA.out HB.out HE.out HQ.out h4 h5 hbx hl hbm).mono ?_; rintro e9 W1 ⟨mid, p, g2, rfl, hm9, hp9, k9⟩; have HM1 := hide hm9; have HK1 := hide k9; have HP1 := hide hp9; have HL1 := hide (below_kpt k9 (Nat.le_refl X.heap.size)); obtain ⟨_, _, _, _, _, _, _, hB9, _⟩ := hm9; have hpw1 := hB9.lt; have t3 := (MB.cells hB9).2.2.2.1; clear hp9 k9 hB9) | (go_at_call 40; refine (mFetch _ X.heap.size mid W1.heap.size p g2 (Pl.Mc.ofC c) HM1.out HG.out).mono ?_; rintro e9 W2 ⟨rfl, g3, hm9, hb9⟩; have HM2 := hide hm9; have HS2 := hide hb9; have HL2 := hide (HL1.out.trans (below_since hb9 HM1.out.logLo HL1.out.size)); clear hm9 hb9 t3; unfold insC; have KZ := kept_alloc W2 (.cells #[.int .i64 (Pl.Mc.ofC c).fetI.op, .int .i64 (Pl.Mc.ofC c).fetI.z, .int .i64 (Pl.Mc.ofC c).fetI.r, .int .i64 (Pl.Mc.ofC c).fetI.m, .int .i64 (Pl.Mc.ofC c).fetI.k, .int .i64 (Pl.Mc.ofC c).fetI.e, .int .i64 (Pl.Mc.ofC c).fetI.s] 79); have BZ := Blk.new W2 #[.int .i64 (Pl.Mc.ofC c).fetI.op, .int .i64 (Pl.Mc.ofC c).fetI.z, .int .i64 (Pl.Mc.ofC c).fetI.r, .int .i64 (Pl.Mc.ofC c).fetI.m, .int .i64 (Pl.Mc.ofC c).fetI.k, .int .i64 (Pl.Mc.ofC c).fetI.e, .int .i64 (Pl.Mc.ofC c).fetI.s] 79; obtain ⟨Z, hZ⟩ : ∃ Z : World, W2.alloc (.cells #[.int .i64 (Pl.Mc.ofC c).fetI.op, .int .i64 (Pl.Mc.ofC c).fetI.z, .int .i64 (Pl.Mc.ofC c).fetI.r, .int .i64 (Pl.Mc.ofC c).fetI.m, .int .i64 (Pl.Mc.ofC c).fetI.k, .int .i64 (Pl.Mc.ofC c).fetI.e, .int .i64 (Pl.Mc.ofC c).fetI.s] 79) = Z := ⟨_, rfl⟩; rw [hZ] at KZ BZ; have HBZ := hide BZ; have HMZ := hide (HM2.out.any KZ); have HLZ := hide (HL2.out.trans (below_kpt KZ (Nat.le_trans (Nat.le_refl X.heap.size) HL2.out.size))); have HKZ := hide (kept_lower K0.out HLZ.out K0.out.size); clear KZ BZ; have HZB := hide (HB0.out.below HLZ.out HBL.out); clear i0 i1 i2 i3 i4 i5 i6 i7 i8 i9 i10 i11; have i0 := HZB.out.cell (i := 0) rfl; have i1 := HZB.out.cell (i := 1) rfl; have i2 := HZB.out.cell (i := 2) rfl; have i3 := HZB.out.cell (i := 3) rfl; have i4 := HZB.out.cell (i := 4) rfl; have i5 := HZB.out.cell (i := 5) rfl; have i6 := HZB.out.cell (i := 6) rfl; have i7 := HZB.out.cell (i := 7) rfl; have i8 := HZB.out.cell (i := 8) rfl; have i9 := HZB.out.cell (i := 9) rfl; have i10 := HZB.out.cell (i := 10) rfl; have i11 := HZB.out.cell (i := 11) rfl; have hzm := HMZ.out; obtain ⟨gd, cd, ga, cA, g1, c1, c2, hB9, hO9⟩ := hzm; have HBm := hide hB9; have HOm := hide hO9; have hpz := hB9.lt; clear hB9 hO9; have x0 := HBZ.out.cell (i := 0) rfl; have x1 := HBZ.out.cell (i := 1) rfl; have x2 := HBZ.out.cell (i := 2) rfl; have x3 := HBZ.out.cell (i := 3) rfl; have x4 := HBZ.out.cell (i := 4) rfl; have x5 := HBZ.out.cell (i := 5) rfl; have x6 := HBZ.out.cell (i := 6) rfl; have hzx := HBZ.out.lt) | (go_at_call 42; have z9 := HBm; refine (specPriv _ (Pl.Mc.ofC c).fetI.op (Pl.Mc.ofC c).fetI.z (Pl.Mc.ofC c).fetI.r (Pl.Mc.ofC c).fetI.m (Pl.Mc.ofC c).fetI.k (Pl.Mc.ofC c).fetI.e (Pl.Mc.ofC c).fetI.s).mono ?_; rintro e9 W5 ⟨rfl, k9⟩; rw [HPV.out]; have HM5 := hide (HMZ.out.any k9); have HB5 := hide (HBm.out.any k9); have HO5 := hide (HOm.out.any k9); have HZ5 := hide (HZB.out.kept0 k9); have HL5 := hide (HLZ.out.trans (below_kpt k9 (Nat.le_trans (Nat.le_refl X.heap.size) HLZ.out.size))); have HK5 := hide (HKZ.out.trans k9); have HX5 := hide (HBZ.out.kept0 k9); clear k9 x0 x1 x2 x3 x4 x5 x6 i0 i1 i2 i3 i4 i5 i6 i7 i8 i9 i10 i11; have i0 := HZ5.out.cell (i := 0) rfl; have i1 := HZ5.out.cell (i := 1) rfl; have i2 := HZ5.out.cell (i := 2) rfl; have i3 := HZ5.out.cell (i := 3) rfl; have i4 := HZ5.out.cell (i := 4) rfl; have i5 := HZ5.out.cell (i := 5) rfl; have i6 := HZ5.out.cell (i := 6) rfl; have i7 := HZ5.out.cell (i := 7) rfl; have i8 := HZ5.out.cell (i := 8) rfl; have i9 := HZ5.out.cell (i := 9) rfl; have i10 := HZ5.out.cell (i := 10) rfl; have i11 := HZ5.out.cell (i := 11) rfl; have x0 := HX5.out.cell (i := 0) rfl; have x1 := HX5.out.cell (i := 1) rfl; have x2 := HX5.out.cell (i := 2) rfl; have x3 := HX5.out.cell (i := 3) rfl; have x4 := HX5.out.cell (i := 4) rfl; have x5 := HX5.out.cell (i := 5) rfl; have x6 := HX5.out.cell (i := 6) rfl; obtain ⟨t0, t1, t2, t3, t4, t5, t6, t7, t8, t9, t10, t11, _⟩ := HB5.out.cells; have f11 := HB5.out.frozen 11; have f3 := HB5.out.frozen 3; have hpw5 := HB5.out.lt; clear t0 t1 t2 t4 t5 t7 t8 t9 t10; rw [hs] at t6; have HMd : Hid (MAt (W5.setCell ⟨p, 3, none⟩ (.int .i64 (((Pl.Mc.ofC c).r.p + 2 * (Pl.Mc.ofC c).fetN) % 65536))) X.heap.size mid W1.heap.size p g3 ((Pl.Mc.ofC c).fetch.setP (((Pl.Mc.ofC c).r.p + 2 * (Pl.Mc.ofC c).fetN) % 65536))) := hide (HM5.out.cP (((Pl.Mc.ofC c).r.p + 2 * (Pl.Mc.ofC c).fetN) % 65536)); have HLd := hide (HL5.out.setCell (p := ⟨p, 3, none⟩) HP1.out (.int .i64 (((Pl.Mc.ofC c).r.p + 2 * (Pl.Mc.ofC c).fetN) % 65536))); have hpx : p < W2.heap.size := HM2.out.lo.2.2.2.2.1) | (go_at_call 44; refine (mCpu _ X.heap.size mid W1.heap.size p g6 sd HM6.out HGs.out).mono ?_; unfold cpuC; rintro e9 W4 ⟨gd4, cd4, ga4, ca4, g14, c14, g24, c24, mid4, rfl, hc9, k9⟩; have HC := hide hc9; have HK4 := hide (HK6.out.trans k9); have HO14 := hide ((HB1.out.below HL6.out HB1L.out).kept0 k9); have HO24 := hide ((HB2.out.below HL6.out HB2L.out).kept0 k9); have hs4 := HO24.out.lt; clear hc9 k9; have o0 := HO14.out.cell (i := 0) rfl; have of0 := HO14.out.frozen 0; have o1 := HO14.out.cell (i := 1) rfl; have of1 := HO14.out.frozen 1; have o2 := HO14.out.cell (i := 2) rfl; have of2 := HO14.out.frozen 2; have o3 := HO14.out.cell (i := 3) rfl; have of3 := HO14.out.frozen 3; have o4 := HO14.out.cell (i := 4) rfl; have of4 := HO14.out.frozen 4; have o5 := HO14.out.cell (i := 5) rfl; have of5 := HO14.out.frozen 5; have o6 := HO14.out.cell (i := 6) rfl; have of6 := HO14.out.frozen 6; have o7 := HO14.out.cell (i := 7) rfl; have of7 := HO14.out.frozen 7; have o8 := HO14.out.cell (i := 8) rfl; have of8 := HO14.out.frozen 8; have o9 := HO14.out.cell (i := 9) rfl; have of9 := HO14.out.frozen 9; have o10 := HO14.out.cell (i := 10) rfl; have of10 := HO14.out.frozen 10; have o11 := HO14.out.cell (i := 11) rfl; have of11 := HO14.out.frozen 11; have y0 := HO24.out.cell (i := 0) rfl; have yf0 := HO24.out.frozen 0; have y1 := HO24.out.cell (i := 1) rfl; have yf1 := HO24.out.frozen 1; have y2 := HO24.out.cell (i := 2) rfl; have yf2 := HO24.out.frozen 2; have y3 := HO24.out.cell (i := 3) rfl; have yf3 := HO24.out.frozen 3; have y4 := HO24.out.cell (i := 4) rfl; have yf4 := HO24.out.frozen 4))
  have hxs := HXS.out
  have hl6 := HL6.out.size
  refine bodyPost_ret (v := .tuple #[.agg (cpuC (Pl.stepC c) gd4 cd4 ga4 ca4 g14 c14 g24 c24), .agg (ftC (Pl.stepF c))]) ?_ rfl ⟨gd4, cd4, ga4, ca4, g14, c14, g24, c24, mid4, rfl, ?co, ?kw⟩
  case co =>
    rw [EC.out]
    refine HC.out.pastS (x := w.heap.size + 1) (y := w.heap.size + 3) (by omega) (by omega) ?_
    repeat (first | with_reducible exact Kept.refl _ _ _ | refine kept_set ?_ _ _ _ (.inl (by omega)))
  case kw => repeat (first | with_reducible exact HK4.out | refine kept_set ?_ _ _ _ (.inr (by omega)))
  rw [results_cell2 rfl, EC.out, EF.out]; go_simp; exact ⟨rfl, rfl⟩
set_option maxRecDepth 100000 in
set_option maxHeartbeats 8000000 in
theorem mStep_supf (w : World) (c : Pl.Cp) (a b e q : Option Addr) (ca cb ce cq : Nat) (ha : IRow w a c.r.xs) (hb : IRow w b c.r.ys) (he : IRow w e c.bx) (hq : IRow w q c.bl) (hok : Pl.cpOk c = true) (hl : c.bl.length = 5 * c.bm) (hf : (Pl.Mc.ofC c).fetch.fine = true) (hp : Pl.priv (Pl.Mc.ofC c).fetI = true) (hs : (Pl.Mc.ofC c).fetch.r.s = true) (hfs : (((Pl.Mc.ofC c).fetch.setP (((Pl.Mc.ofC c).r.p + 2 * (Pl.Mc.ofC c).fetN) % 65536)).doI (Pl.Mc.ofC c).fetI (Pl.Mc.ofC c).r.p).fine = false) :
    Calls Tryz.prog 18 #[.agg #[.slice a 4 ca, .slice b 4 cb, .int .i64 c.r.o, .int .i64 c.r.p, .int .i64 c.r.f, .int .i64 c.r.m, .bool c.r.s, .bool c.r.t, .slice e 512 ce, .slice q c.bm cq, .bool c.st, .bool c.ha]] w fun r w' => ∃ gd cd ga cA g1 c1 g2 c2 mid : Nat, r = .returned (.tuple #[.agg (cpuC (Pl.stepC c) gd cd ga cA g1 c1 g2 c2), .agg (ftC (Pl.stepF c))]) ∧ CO w' w.heap.size mid (Pl.stepC c) gd ga g1 g2 c2 ∧ Kept 0 0 w w' := by
  have HG := hide (Pl.GM.of hok hl c.st)
  have h4 := HG.out.g.d4
  have h5 := HG.out.g.a4
  have hbx := HG.out.bx
  have hbm := HG.out.bm
  have K0 := hide (kept_new (kept_new (kept_alloc w (.cells #[.slice a 4 ca, .slice b 4 cb, .int .i64 c.r.o, .int .i64 c.r.p, .int .i64 c.r.f, .int .i64 c.r.m, .bool c.r.s, .bool c.r.t, .slice e 512 ce, .slice q c.bm cq, .bool c.st, .bool c.ha] 36)) (.cells #[.slice none 0 0, .slice none 0 0, .int .i64 0, .int .i64 0, .int .i64 0, .int .i64 0, .bool false, .bool false, .slice none 0 0, .slice none 0 0, .bool false, .bool false] 36)) (.cells #[.int .i64 0, .int .i64 0, .int .i64 0, .int .i64 0, .bool false] 38))
  have B0 := ((Blk.new w #[.slice a 4 ca, .slice b 4 cb, .int .i64 c.r.o, .int .i64 c.r.p, .int .i64 c.r.f, .int .i64 c.r.m, .bool c.r.s, .bool c.r.t, .slice e 512 ce, .slice q c.bm cq, .bool c.st, .bool c.ha] 36).alloc (.cells #[.slice none 0 0, .slice none 0 0, .int .i64 0, .int .i64 0, .int .i64 0, .int .i64 0, .bool false, .bool false, .slice none 0 0, .slice none 0 0, .bool false, .bool false] 36)).alloc (.cells #[.int .i64 0, .int .i64 0, .int .i64 0, .int .i64 0, .bool false] 38)
  have B1 := (Blk.new (w.alloc (.cells #[.slice a 4 ca, .slice b 4 cb, .int .i64 c.r.o, .int .i64 c.r.p, .int .i64 c.r.f, .int .i64 c.r.m, .bool c.r.s, .bool c.r.t, .slice e 512 ce, .slice q c.bm cq, .bool c.st, .bool c.ha] 36)) #[.slice none 0 0, .slice none 0 0, .int .i64 0, .int .i64 0, .int .i64 0, .int .i64 0, .bool false, .bool false, .slice none 0 0, .slice none 0 0, .bool false, .bool false] 36).alloc (.cells #[.int .i64 0, .int .i64 0, .int .i64 0, .int .i64 0, .bool false] 38)
  have B2 := Blk.new ((w.alloc (.cells #[.slice a 4 ca, .slice b 4 cb, .int .i64 c.r.o, .int .i64 c.r.p, .int .i64 c.r.f, .int .i64 c.r.m, .bool c.r.s, .bool c.r.t, .slice e 512 ce, .slice q c.bm cq, .bool c.st, .bool c.ha] 36)).alloc (.cells #[.slice none 0 0, .slice none 0 0, .int .i64 0, .int .i64 0, .int .i64 0, .int .i64 0, .bool false, .bool false, .slice none 0 0, .slice none 0 0, .bool false, .bool false] 36)) #[.int .i64 0, .int .i64 0, .int .i64 0, .int .i64 0, .bool false] 38
  simp only [World.size_alloc] at B1 B2
  obtain ⟨X, hX⟩ : ∃ X : World, ((w.alloc (.cells #[.slice a 4 ca, .slice b 4 cb, .int .i64 c.r.o, .int .i64 c.r.p, .int .i64 c.r.f, .int .i64 c.r.m, .bool c.r.s, .bool c.r.t, .slice e 512 ce, .slice q c.bm cq, .bool c.st, .bool c.ha] 36)).alloc (.cells #[.slice none 0 0, .slice none 0 0, .int .i64 0, .int .i64 0, .int .i64 0, .int .i64 0, .bool false, .bool false, .slice none 0 0, .slice none 0 0, .bool false, .bool false] 36)).alloc (.cells #[.int .i64 0, .int .i64 0, .int .i64 0, .int .i64 0, .bool false] 38) = X := ⟨_, rfl⟩
  rw [hX] at K0 B0 B1 B2
  have hxs : X.heap.size = w.heap.size + 3 := by rw [← hX]; simp
  have HXS := hide hxs
  have HB0 := hide B0
  have HB1 := hide B1
  have HB2 := hide B2
  have HA := hide (ha.keptS K0.out)
  have HB := hide (hb.keptS K0.out)
  have HE := hide (he.keptS K0.out)
  have HQ := hide (hq.keptS K0.out)
  have HAw := hide ha
  have HBw := hide hb
  clear B0 B1 B2 ha hb he hq hxs
  have i0 := HB0.out.cell (i := 0) rfl
  have i1 := HB0.out.cell (i := 1) rfl
  have i2 := HB0.out.cell (i := 2) rfl
  have i3 := HB0.out.cell (i := 3) rfl
  have i4 := HB0.out.cell (i := 4) rfl
  have i5 := HB0.out.cell (i := 5) rfl
  have i6 := HB0.out.cell (i := 6) rfl
  have i7 := HB0.out.cell (i := 7) rfl
  have i8 := HB0.out.cell (i := 8) rfl
  have i9 := HB0.out.cell (i := 9) rfl
  have i10 := HB0.out.cell (i := 10) rfl
  have i11 := HB0.out.cell (i := 11) rfl
  obtain ⟨hin, hfn⟩ := Pl.fetch_ok hf
  have hpp0 : 0 ≤ (Pl.Mc.ofC c).r.p := HG.out.p0
  have hpp1 : (Pl.Mc.ofC c).r.p ≤ 65535 := HG.out.p1
  have HGd : Hid (Pl.GM ((Pl.Mc.ofC c).fetch.setP (((Pl.Mc.ofC c).r.p + 2 * (Pl.Mc.ofC c).fetN) % 65536))) := hide ((Pl.GM.fetch HG.out).setP (by omega) (by omega))
  have hfd : ((Pl.Mc.ofC c).fetch.setP (((Pl.Mc.ofC c).r.p + 2 * (Pl.Mc.ofC c).fetN) % 65536)).fine = true := hf
  have HGs := hide (HGd.out.doI hin (Pl.Mc.ofC c).r.p)
  have HDO := fun w9 mid hi p g3 h9 => mDo w9 X.heap.size mid hi p g3 ((Pl.Mc.ofC c).fetch.setP (((Pl.Mc.ofC c).r.p + 2 * (Pl.Mc.ofC c).fetN) % 65536)) (Pl.Mc.ofC c).fetI (Pl.Mc.ofC c).r.p h9 HGd.out hin hpp0 hpp1 hfd
  have ES : Pl.stepM c = ((Pl.Mc.ofC c).fetch.setP (((Pl.Mc.ofC c).r.p + 2 * (Pl.Mc.ofC c).fetN) % 65536)).doI (Pl.Mc.ofC c).fetI (Pl.Mc.ofC c).r.p := by
    have e1 : (Pl.Mc.ofC c).s1 = (Pl.Mc.ofC c).fetch := by unfold Pl.Mc.s1; rw [hf, hp, hs]; rfl
    unfold Pl.stepM Pl.Mc.s2; rw [e1, hf]; rfl
  obtain ⟨sd, hsd⟩ : ∃ s, ((Pl.Mc.ofC c).fetch.setP (((Pl.Mc.ofC c).r.p + 2 * (Pl.Mc.ofC c).fetN) % 65536)).doI (Pl.Mc.ofC c).fetI (Pl.Mc.ofC c).r.p = s := ⟨_, rfl⟩
  rw [hsd] at HGs hfs ES
  simp only [hsd] at HDO
  clear hsd
  have EC : Hid (Pl.stepC c = Pl.Mc.cpu { (sd.setR c.r) with st := c.st } false) := hide (by unfold Pl.stepC; rw [ES, hfs]; rfl)
  have EF : Hid (Pl.stepF c = sd.f) := hide (by unfold Pl.stepF; rw [ES, hfs]; rfl)
  have HBL : Hid (w.heap.size < X.heap.size) := hide (by have := HXS.out; omega)
  have HPV : Hid (Pl.priv ⟨(Pl.Mc.ofC c).fetI.op, (Pl.Mc.ofC c).fetI.z, (Pl.Mc.ofC c).fetI.r, (Pl.Mc.ofC c).fetI.m, (Pl.Mc.ofC c).fetI.k, (Pl.Mc.ofC c).fetI.e, (Pl.Mc.ofC c).fetI.s⟩ = true) := hide hp
  have hmk := mask16 ((Pl.Mc.ofC c).r.p + 2 * (Pl.Mc.ofC c).fetN)
  have hn0 : 1 ≤ (Pl.Mc.ofC c).fetN := by omega
  have hn1 : (Pl.Mc.ofC c).fetN ≤ 2 := by omega
  clear ES hp hfn hin hfd
  go_enter Tryz.func18, Tryz.ntmps18
  go_wp2_with (first | (go_at_call 41; have z9 := HM6; refine (mFine _ X.heap.size mid W1.heap.size p g6 _ HM6.out).mono ?_; rintro e9 w9 ⟨rfl, hw⟩; have hw2 := hw.symm; clear hw; subst hw2; rw [hfs]) | (go_at_call 43; have z9 := HMd; refine (HDO _ mid W1.heap.size p g3 HMd.out).mono ?_; rintro e9 W6 ⟨rfl, g6, hm9, hb9⟩; have HM6 := hide hm9; have HL6 := hide (HLd.out.trans (below_since hb9 HMd.out.logLo HLd.out.size)); have HK6 := hide (kept_lower K0.out HL6.out K0.out.size); have HZ6 := hide (HB0.out.below HL6.out HBL.out); clear hb9 x0 x1 x2 x3 x4 x5 x6 t3 t6 t11 f3 f11 i0 i1 i2 i3 i4 i5 i6 i7 i8 i9 i10 i11; have i0 := HZ6.out.cell (i := 0) rfl; have i1 := HZ6.out.cell (i := 1) rfl; have i2 := HZ6.out.cell (i := 2) rfl; have i3 := HZ6.out.cell (i := 3) rfl; have i4 := HZ6.out.cell (i := 4) rfl; have i5 := HZ6.out.cell (i := 5) rfl; have i6 := HZ6.out.cell (i := 6) rfl; have i7 := HZ6.out.cell (i := 7) rfl; have i8 := HZ6.out.cell (i := 8) rfl; have i9 := HZ6.out.cell (i := 9) rfl; have i10 := HZ6.out.cell (i := 10) rfl; have i11 := HZ6.out.cell (i := 11) rfl; obtain ⟨gd6, cd6, ga6, ca6, g16, c16, c26, hB9, hO9⟩ := hm9; have HB6 := hide hB9; have HO6 := hide hO9; have hpw6 := hB9.lt; clear hB9 hO9) | (go_at_call 41; have z9 := HMd; refine (mFine _ X.heap.size mid W1.heap.size p g3 _ HM5.out).mono ?_; rintro e9 w9 ⟨rfl, hw⟩; have hw2 := hw.symm; clear hw; subst hw2; rw [hf]) | (go_at_call 41; have z9 := HBm; refine (mFine _ X.heap.size mid W1.heap.size p g3 _ HMZ.out).mono ?_; rintro e9 w9 ⟨rfl, hw⟩; have hw2 := hw.symm; clear hw; subst hw2; rw [hf]) | (go_at_call 39; refine (mStart _ c a b e q ca cb ce cq HA.out HB.out HE.out HQ.out h4 h5 hbx hl hbm).mono ?_; rintro e9 W1 ⟨mid, p, g2, rfl, hm9, hp9, k9⟩; have HM1 := hide hm9; have HK1 := hide k9; have HP1 := hide hp9; have HL1 := hide (below_kpt k9 (Nat.le_refl X.heap.size)); obtain ⟨_, _, _, _, _, _, _, hB9, _⟩ := hm9; have hpw1 := hB9.lt; have t3 := (MB.cells hB9).2.2.2.1; clear hp9 k9 hB9) | (go_at_call 40; refine (mFetch _ X.heap.size mid W1.heap.size p g2 (Pl.Mc.ofC c) HM1.out HG.out).mono ?_; rintro e9 W2 ⟨rfl, g3, hm9, hb9⟩; have HM2 := hide hm9; have HS2 := hide hb9; have HL2 := hide (HL1.out.trans (below_since hb9 HM1.out.logLo HL1.out.size)); clear hm9 hb9 t3; unfold insC; have KZ := kept_alloc W2 (.cells #[.int .i64 (Pl.Mc.ofC c).fetI.op, .int .i64 (Pl.Mc.ofC c).fetI.z, .int .i64 (Pl.Mc.ofC c).fetI.r, .int .i64 (Pl.Mc.ofC c).fetI.m, .int .i64 (Pl.Mc.ofC c).fetI.k, .int .i64 (Pl.Mc.ofC c).fetI.e, .int .i64 (Pl.Mc.ofC c).fetI.s] 79); have BZ := Blk.new W2 #[.int .i64 (Pl.Mc.ofC c).fetI.op, .int .i64 (Pl.Mc.ofC c).fetI.z, .int .i64 (Pl.Mc.ofC c).fetI.r, .int .i64 (Pl.Mc.ofC c).fetI.m, .int .i64 (Pl.Mc.ofC c).fetI.k, .int .i64 (Pl.Mc.ofC c).fetI.e, .int .i64 (Pl.Mc.ofC c).fetI.s] 79; obtain ⟨Z, hZ⟩ : ∃ Z : World, W2.alloc (.cells #[.int .i64 (Pl.Mc.ofC c).fetI.op, .int .i64 (Pl.Mc.ofC c).fetI.z, .int .i64 (Pl.Mc.ofC c).fetI.r, .int .i64 (Pl.Mc.ofC c).fetI.m, .int .i64 (Pl.Mc.ofC c).fetI.k, .int .i64 (Pl.Mc.ofC c).fetI.e, .int .i64 (Pl.Mc.ofC c).fetI.s] 79) = Z := ⟨_, rfl⟩; rw [hZ] at KZ BZ; have HBZ := hide BZ; have HMZ := hide (HM2.out.any KZ); have HLZ := hide (HL2.out.trans (below_kpt KZ (Nat.le_trans (Nat.le_refl X.heap.size) HL2.out.size))); have HKZ := hide (kept_lower K0.out HLZ.out K0.out.size); clear KZ BZ; have HZB := hide (HB0.out.below HLZ.out HBL.out); clear i0 i1 i2 i3 i4 i5 i6 i7 i8 i9 i10 i11; have i0 := HZB.out.cell (i := 0) rfl; have i1 := HZB.out.cell (i := 1) rfl; have i2 := HZB.out.cell (i := 2) rfl; have i3 := HZB.out.cell (i := 3) rfl; have i4 := HZB.out.cell (i := 4) rfl; have i5 := HZB.out.cell (i := 5) rfl; have i6 := HZB.out.cell (i := 6) rfl; have i7 := HZB.out.cell (i := 7) rfl; have i8 := HZB.out.cell (i := 8) rfl; have i9 := HZB.out.cell (i := 9) rfl; have i10 := HZB.out.cell (i := 10) rfl; have i11 := HZB.out.cell (i := 11) rfl; have hzm := HMZ.out; obtain ⟨gd, cd, ga, cA, g1, c1, c2, hB9, hO9⟩ := hzm; have HBm := hide hB9; have HOm := hide hO9; have hpz := hB9.lt; clear hB9 hO9; have x0 := HBZ.out.cell (i := 0) rfl; have x1 := HBZ.out.cell (i := 1) rfl; have x2 := HBZ.out.cell (i := 2) rfl; have x3 := HBZ.out.cell (i := 3) rfl; have x4 := HBZ.out.cell (i := 4) rfl; have x5 := HBZ.out.cell (i := 5) rfl; have x6 := HBZ.out.cell (i := 6) rfl; have hzx := HBZ.out.lt) | (go_at_call 42; have z9 := HBm; refine (specPriv _ (Pl.Mc.ofC c).fetI.op (Pl.Mc.ofC c).fetI.z (Pl.Mc.ofC c).fetI.r (Pl.Mc.ofC c).fetI.m (Pl.Mc.ofC c).fetI.k (Pl.Mc.ofC c).fetI.e (Pl.Mc.ofC c).fetI.s).mono ?_; rintro e9 W5 ⟨rfl, k9⟩; rw [HPV.out]; have HM5 := hide (HMZ.out.any k9); have HB5 := hide (HBm.out.any k9); have HO5 := hide (HOm.out.any k9); have HZ5 := hide (HZB.out.kept0 k9); have HL5 := hide (HLZ.out.trans (below_kpt k9 (Nat.le_trans (Nat.le_refl X.heap.size) HLZ.out.size))); have HK5 := hide (HKZ.out.trans k9); have HX5 := hide (HBZ.out.kept0 k9); clear k9 x0 x1 x2 x3 x4 x5 x6 i0 i1 i2 i3 i4 i5 i6 i7 i8 i9 i10 i11; have i0 := HZ5.out.cell (i := 0) rfl; have i1 := HZ5.out.cell (i := 1) rfl; have i2 := HZ5.out.cell (i := 2) rfl; have i3 := HZ5.out.cell (i := 3) rfl; have i4 := HZ5.out.cell (i := 4) rfl; have i5 := HZ5.out.cell (i := 5) rfl; have i6 := HZ5.out.cell (i := 6) rfl; have i7 := HZ5.out.cell (i := 7) rfl; have i8 := HZ5.out.cell (i := 8) rfl; have i9 := HZ5.out.cell (i := 9) rfl; have i10 := HZ5.out.cell (i := 10) rfl; have i11 := HZ5.out.cell (i := 11) rfl; have x0 := HX5.out.cell (i := 0) rfl; have x1 := HX5.out.cell (i := 1) rfl; have x2 := HX5.out.cell (i := 2) rfl; have x3 := HX5.out.cell (i := 3) rfl; have x4 := HX5.out.cell (i := 4) rfl; have x5 := HX5.out.cell (i := 5) rfl; have x6 := HX5.out.cell (i := 6) rfl; obtain ⟨t0, t1, t2, t3, t4, t5, t6, t7, t8, t9, t10, t11, _⟩ := HB5.out.cells; have f11 := HB5.out.frozen 11; have f3 := HB5.out.frozen 3; have hpw5 := HB5.out.lt; clear t0 t1 t2 t4 t5 t7 t8 t9 t10; rw [hs] at t6; have HMd : Hid (MAt (W5.setCell ⟨p, 3, none⟩ (.int .i64 (((Pl.Mc.ofC c).r.p + 2 * (Pl.Mc.ofC c).fetN) % 65536))) X.heap.size mid W1.heap.size p g3 ((Pl.Mc.ofC c).fetch.setP (((Pl.Mc.ofC c).r.p + 2 * (Pl.Mc.ofC c).fetN) % 65536))) := hide (HM5.out.cP (((Pl.Mc.ofC c).r.p + 2 * (Pl.Mc.ofC c).fetN) % 65536)); have HLd := hide (HL5.out.setCell (p := ⟨p, 3, none⟩) HP1.out (.int .i64 (((Pl.Mc.ofC c).r.p + 2 * (Pl.Mc.ofC c).fetN) % 65536))); have hpx : p < W2.heap.size := HM2.out.lo.2.2.2.2.1) | (go_at_call 45; have z9 := HB6; refine (own4 _ c.r a b ca cb (HAw.out.keptS HK6.out) (HBw.out.keptS HK6.out) h4 h5).mono ?_; unfold regV; rintro e9 W3 ⟨gd', cd', ga', ca', rfl, od, oa, d0, d1, a0, a1, da, k9⟩; have hplt := HB6.out.lt; have HD3 := hide od; have HA3 := hide oa; have HB3 := hide (HB6.out.any k9); have HO3 := hide (HO6.out.any k9); have HK3 := hide (HK6.out.trans k9); have HZ3 := hide (HZ6.out.kept0 k9); have HL3 := hide (HL6.out.trans (below_kpt k9 (Nat.le_trans (Nat.le_refl X.heap.size) HL6.out.size))); clear od oa k9 i0 i1 i2 i3 i4 i5 i6 i7 i8 i9 i10 i11; have i10 := HZ3.out.cell (i := 10) rfl; obtain ⟨u0, u1, u2, u3, u4, u5, u6, u7, u8, u9, u10, u11, u12, u13, u14, u15⟩ := HB3.out.cells; have q0 := HB3.out.frozen 0; have q1 := HB3.out.frozen 1; have q2 := HB3.out.frozen 2; have q3 := HB3.out.frozen 3; have q4 := HB3.out.frozen 4; have q5 := HB3.out.frozen 5; have q6 := HB3.out.frozen 6; have q7 := HB3.out.frozen 7; have q10 := HB3.out.frozen 10))
  have hd3 := HD3.out.lt (by rw [h4]; decide)
  have KP := (MB.kept8 (w := W3) (p := p) (.slice (some ⟨gd', 0, none⟩) 4 cd') (.slice (some ⟨ga', 0, none⟩) 4 ca') (.int .i64 c.r.o) (.int .i64 c.r.p) (.int .i64 c.r.f) (.int .i64 c.r.m) (.bool c.r.s) (.bool c.r.t)).one 10 (.bool c.st)
  have MY : MB (((((((((W3.setCell ⟨p, 0, none⟩ ((.slice (some ⟨gd', 0, none⟩) 4 cd'))).setCell ⟨p, 1, none⟩ ((.slice (some ⟨ga', 0, none⟩) 4 ca'))).setCell ⟨p, 2, none⟩ ((.int .i64 c.r.o))).setCell ⟨p, 3, none⟩ ((.int .i64 c.r.p))).setCell ⟨p, 4, none⟩ ((.int .i64 c.r.f))).setCell ⟨p, 5, none⟩ ((.int .i64 c.r.m))).setCell ⟨p, 6, none⟩ ((.bool c.r.s))).setCell ⟨p, 7, none⟩ ((.bool c.r.t))).setCell ⟨p, 10, none⟩ (.bool c.st)) p gd' cd' ga' ca' g16 c16 g6 c26 { (sd.setR c.r) with st := c.st } := (HB3.out.laid2 c.r gd' cd' ga' ca').cSt c.st
  generalize (((((((((W3.setCell ⟨p, 0, none⟩ ((.slice (some ⟨gd', 0, none⟩) 4 cd'))).setCell ⟨p, 1, none⟩ ((.slice (some ⟨ga', 0, none⟩) 4 ca'))).setCell ⟨p, 2, none⟩ ((.int .i64 c.r.o))).setCell ⟨p, 3, none⟩ ((.int .i64 c.r.p))).setCell ⟨p, 4, none⟩ ((.int .i64 c.r.f))).setCell ⟨p, 5, none⟩ ((.int .i64 c.r.m))).setCell ⟨p, 6, none⟩ ((.bool c.r.s))).setCell ⟨p, 7, none⟩ ((.bool c.r.t))).setCell ⟨p, 10, none⟩ (.bool c.st)) = Y at KP MY ⊢
  have hop := HO3.out.p0
  have hob := HO3.out.b0
  have hog := HO3.out.g2
  have hobl := HO3.out.pb
  have hopl := HO3.out.pl
  have hos := HO3.out.d0
  have hos2 := HO3.out.d1
  have HYd := hide (HD3.out.keptS KP (by omega)).row
  have HYa := hide (HA3.out.keptS KP (by omega)).row
  have HYb := hide (HO3.out.b.keptS KP (by omega)).row
  have HYl := hide ((own_of_row5 HO3.out.l).keptS KP (by omega)).row
  have KDY := hide (kept_drew (Kept.refl 0 0 Y))
  have HMY := hide (MY.any KDY.out)
  have LY := hide ((HL3.out.trans (below_of' KP (by omega) (by have := HL3.out.size; omega))).drew)
  have HKY := hide (kept_lower K0.out LY.out K0.out.size)
  have HO1Y := hide (HB1.out.below LY.out (by have := HXS.out; omega))
  have HO2Y := hide (HB2.out.below LY.out (by have := HXS.out; omega))
  have HN1 : Hid (¬ (w.heap.size + 1 ≤ p ∧ p < w.heap.size + 1 + 1)) := hide (by have := HXS.out; omega)
  have HN2 : Hid (¬ (w.heap.size + 1 + 1 ≤ p ∧ p < w.heap.size + 1 + 1 + 1)) := hide (by have := HXS.out; omega)
  have CF : ∀ W : World, MB W p gd' cd' ga' ca' g16 c16 g6 c26 { (sd.setR c.r) with st := c.st } → W.cell? ⟨p, 11, none⟩ = some (.int .i64 sd.f.v) ∧ W.cell? ⟨p, 12, none⟩ = some (.int .i64 sd.f.pc) ∧ W.cell? ⟨p, 13, none⟩ = some (.int .i64 sd.f.ad) ∧ W.cell? ⟨p, 14, none⟩ = some (.int .i64 sd.f.wo) ∧ W.cell? ⟨p, 15, none⟩ = some (.bool sd.f.wr) := fun W h => by have z := cellsF h; exact z
  have SY := CF _ HMY.out
  have hyz : X.heap.size ≤ Y.drew.heap.size := LY.out.size
  clear KP MY
  go_region_held3 (fun w' => w'.cell? ⟨p, 11, none⟩ = some (.int .i64 sd.f.v) ∧ w'.cell? ⟨p, 12, none⟩ = some (.int .i64 sd.f.pc) ∧ w'.cell? ⟨p, 13, none⟩ = some (.int .i64 sd.f.ad) ∧ w'.cell? ⟨p, 14, none⟩ = some (.int .i64 sd.f.wo) ∧ w'.cell? ⟨p, 15, none⟩ = some (.bool sd.f.wr)) (first | with_reducible exact SY | with_reducible exact S4 | with_reducible exact CF _ (HM4.out.over12 HN1.out _ _ _ _ _ _ _ _ _ _ _ _) | with_reducible exact CF _ ((HM4.out.over12 HN1.out _ _ _ _ _ _ _ _ _ _ _ _).over5 HN2.out _ _ _ _ _) | go_keep) (first | (go_at_call 44; refine (mCpuR _ p gd' cd' ga' ca' g16 c16 g6 c26 { (sd.setR c.r) with st := c.st } HMY.out (HYd.out.keptS KDY.out) (HYa.out.keptS KDY.out) (HYb.out.keptS KDY.out) (HYl.out.keptS KDY.out) h4 h5 HGs.out.bx HGs.out.bl HGs.out.bm).mono ?_; unfold cpuC; rintro e9 W4 ⟨gd4, cd4, ga4, ca4, g14, c14, g24, c24, mid4, rfl, hc9, k9⟩; have HC := hide hc9; have HM4 := hide (HMY.out.any k9); have S4 := CF _ HM4.out; have HK4 := hide (HKY.out.trans k9); have HO14 := hide (HO1Y.out.kept0 k9); have HO24 := hide (HO2Y.out.kept0 k9); have hs4 := HO24.out.lt; clear hc9 k9; have o0 := HO14.out.cell (i := 0) rfl; have of0 := HO14.out.frozen 0; have o1 := HO14.out.cell (i := 1) rfl; have of1 := HO14.out.frozen 1; have o2 := HO14.out.cell (i := 2) rfl; have of2 := HO14.out.frozen 2; have o3 := HO14.out.cell (i := 3) rfl; have of3 := HO14.out.frozen 3; have o4 := HO14.out.cell (i := 4) rfl; have of4 := HO14.out.frozen 4; have o5 := HO14.out.cell (i := 5) rfl; have of5 := HO14.out.frozen 5; have o6 := HO14.out.cell (i := 6) rfl; have of6 := HO14.out.frozen 6; have o7 := HO14.out.cell (i := 7) rfl; have of7 := HO14.out.frozen 7; have o8 := HO14.out.cell (i := 8) rfl; have of8 := HO14.out.frozen 8; have o9 := HO14.out.cell (i := 9) rfl; have of9 := HO14.out.frozen 9; have o10 := HO14.out.cell (i := 10) rfl; have of10 := HO14.out.frozen 10; have o11 := HO14.out.cell (i := 11) rfl; have of11 := HO14.out.frozen 11; have y0 := HO24.out.cell (i := 0) rfl; have yf0 := HO24.out.frozen 0; have y1 := HO24.out.cell (i := 1) rfl; have yf1 := HO24.out.frozen 1; have y2 := HO24.out.cell (i := 2) rfl; have yf2 := HO24.out.frozen 2; have y3 := HO24.out.cell (i := 3) rfl; have yf3 := HO24.out.frozen 3; have y4 := HO24.out.cell (i := 4) rfl; have yf4 := HO24.out.frozen 4))
  go_wp2_with fail
  have hxs := HXS.out
  refine bodyPost_ret (v := .tuple #[.agg (cpuC (Pl.stepC c) gd4 cd4 ga4 ca4 g14 c14 g24 c24), .agg (ftC (Pl.stepF c))]) ?_ rfl ⟨gd4, cd4, ga4, ca4, g14, c14, g24, c24, mid4, rfl, ?co, ?kw⟩
  case co =>
    rw [EC.out]
    refine HC.out.pastS (x := w.heap.size + 1) (y := w.heap.size + 3) (by omega) (by omega) ?_
    repeat (first | with_reducible exact Kept.refl _ _ _ | refine kept_set ?_ _ _ _ (.inl (by omega)))
  case kw => repeat (first | with_reducible exact HK4.out | refine kept_set ?_ _ _ _ (.inr (by omega)))
  rw [results_cell2 rfl, EC.out, EF.out]; go_simp; exact ⟨rfl, rfl⟩
theorem mStep (w : World) (c : Pl.Cp) (a b e q : Option Addr) (ca cb ce cq : Nat) (ha : IRow w a c.r.xs) (hb : IRow w b c.r.ys) (he : IRow w e c.bx) (hq : IRow w q c.bl) (hok : Pl.cpOk c = true) (hl : c.bl.length = 5 * c.bm) :
    Calls Tryz.prog 18 #[.agg #[.slice a 4 ca, .slice b 4 cb, .int .i64 c.r.o, .int .i64 c.r.p, .int .i64 c.r.f, .int .i64 c.r.m, .bool c.r.s, .bool c.r.t, .slice e 512 ce, .slice q c.bm cq, .bool c.st, .bool c.ha]] w fun r w' => ∃ gd cd ga cA g1 c1 g2 c2 mid : Nat, r = .returned (.tuple #[.agg (cpuC (Pl.stepC c) gd cd ga cA g1 c1 g2 c2), .agg (ftC (Pl.stepF c))]) ∧ CO w' w.heap.size mid (Pl.stepC c) gd ga g1 g2 c2 ∧ Kept 0 0 w w' := by
  cases hf : (Pl.Mc.ofC c).fetch.fine
  · exact mStep_fetch w c a b e q ca cb ce cq ha hb he hq hok hl hf
  · cases hp : Pl.priv (Pl.Mc.ofC c).fetI
    · cases hfs : (((Pl.Mc.ofC c).fetch.setP (((Pl.Mc.ofC c).r.p + 2 * (Pl.Mc.ofC c).fetN) % 65536)).doI (Pl.Mc.ofC c).fetI (Pl.Mc.ofC c).r.p).fine
      · exact mStep_dof w c a b e q ca cb ce cq ha hb he hq hok hl hf hp hfs
      · exact mStep_do w c a b e q ca cb ce cq ha hb he hq hok hl hf hp hfs
    · cases hs : (Pl.Mc.ofC c).fetch.r.s
      · exact mStep_priv w c a b e q ca cb ce cq ha hb he hq hok hl hf hp hs
      · cases hfs : (((Pl.Mc.ofC c).fetch.setP (((Pl.Mc.ofC c).r.p + 2 * (Pl.Mc.ofC c).fetN) % 65536)).doI (Pl.Mc.ofC c).fetI (Pl.Mc.ofC c).r.p).fine
        · exact mStep_supf w c a b e q ca cb ce cq ha hb he hq hok hl hf hp hs hfs
        · exact mStep_sup w c a b e q ca cb ce cq ha hb he hq hok hl hf hp hs hfs
end Go.Proofs.YtblddehlkaolbaaGreatDoor

namespace Go.Proofs.YtblddehlkaolbaaGreatDoor
open Go.RowKit
set_option linter.unusedVariables false
theorem specGoodCpu (w : World) (c : Pl.Cp) (a b e q : Option Addr) (ca cb ce cq : Nat) (ha : IRow w a c.r.xs) (hb : IRow w b c.r.ys) (he : IRow w e c.bx) (hq : IRow w q c.bl) (lx : c.r.xs.length ≤ 2000000) (ly : c.r.ys.length ≤ 2000000) (lb : c.bx.length ≤ 2000000) (ll : c.bl.length = 5 * c.bm) (lm : c.bm ≤ 2000000) :
    Calls Tryz.prog 17 #[.agg #[.slice a c.r.xs.length ca, .slice b c.r.ys.length cb, .int .i64 c.r.o, .int .i64 c.r.p, .int .i64 c.r.f, .int .i64 c.r.m, .bool c.r.s, .bool c.r.t, .slice e c.bx.length ce, .slice q c.bm cq, .bool c.st, .bool c.ha]] w fun r w' => r = .returned (.bool (Pl.cpOk c)) ∧ Kept 0 0 w w' := by
  have K0 := hide (kept_alloc w (.cells #[.slice a c.r.xs.length ca, .slice b c.r.ys.length cb, .int .i64 c.r.o, .int .i64 c.r.p, .int .i64 c.r.f, .int .i64 c.r.m, .bool c.r.s, .bool c.r.t, .slice e c.bx.length ce, .slice q c.bm cq, .bool c.st, .bool c.ha] 36))
  have BA := Blk.new w #[.slice a c.r.xs.length ca, .slice b c.r.ys.length cb, .int .i64 c.r.o, .int .i64 c.r.p, .int .i64 c.r.f, .int .i64 c.r.m, .bool c.r.s, .bool c.r.t, .slice e c.bx.length ce, .slice q c.bm cq, .bool c.st, .bool c.ha] 36
  obtain ⟨X, hX⟩ : ∃ X : World, w.alloc (.cells #[.slice a c.r.xs.length ca, .slice b c.r.ys.length cb, .int .i64 c.r.o, .int .i64 c.r.p, .int .i64 c.r.f, .int .i64 c.r.m, .bool c.r.s, .bool c.r.t, .slice e c.bx.length ce, .slice q c.bm cq, .bool c.st, .bool c.ha] 36) = X := ⟨_, rfl⟩
  rw [hX] at K0 BA
  have HBA := hide BA
  have HA := hide (ha.keptS K0.out)
  have HB := hide (hb.keptS K0.out)
  have HE := hide (he.keptS K0.out)
  have HQ := hide (hq.keptS K0.out)
  clear BA ha hb he hq
  have i0 := HBA.out.cell (i := 0) rfl
  have i1 := HBA.out.cell (i := 1) rfl
  have i2 := HBA.out.cell (i := 2) rfl
  have i3 := HBA.out.cell (i := 3) rfl
  have i4 := HBA.out.cell (i := 4) rfl
  have i5 := HBA.out.cell (i := 5) rfl
  have i6 := HBA.out.cell (i := 6) rfl
  have i7 := HBA.out.cell (i := 7) rfl
  have i8 := HBA.out.cell (i := 8) rfl
  have i9 := HBA.out.cell (i := 9) rfl
  have i10 := HBA.out.cell (i := 10) rfl
  have i11 := HBA.out.cell (i := 11) rfl
  cases h1 : Pl.rgOk c.r
  · go_enter Tryz.func17, Tryz.ntmps17
    go_wp2_with (first | (go_at_call 37; refine (specGoodRegs _ c.r a b ca cb HA.out HB.out lx ly).mono ?_; rintro e9 W ⟨rfl, k9⟩; rw [h1]; have HK1 := hide k9; have HB1 := hide (HBA.out.kept0 k9); have HE1 := hide (HE.out.keptS k9); have HQ1 := hide (HQ.out.keptS k9); clear k9 i0 i1 i2 i3 i4 i5 i6 i7 i8 i9 i10 i11; have i0 := HB1.out.cell (i := 0) rfl; have i1 := HB1.out.cell (i := 1) rfl; have i2 := HB1.out.cell (i := 2) rfl; have i3 := HB1.out.cell (i := 3) rfl; have i4 := HB1.out.cell (i := 4) rfl; have i5 := HB1.out.cell (i := 5) rfl; have i6 := HB1.out.cell (i := 6) rfl; have i7 := HB1.out.cell (i := 7) rfl; have i8 := HB1.out.cell (i := 8) rfl; have i9 := HB1.out.cell (i := 9) rfl; have i10 := HB1.out.cell (i := 10) rfl; have i11 := HB1.out.cell (i := 11) rfl))
    go_ret
    exact ⟨rB (by unfold Pl.cpOk; simp [h1]), K0.out.trans HK1.out⟩
  · cases h2 : Pl.goodBus c.bx c.bl c.bm
    · go_enter Tryz.func17, Tryz.ntmps17
      go_wp2_with (first | (go_at_call 38; have z9 := HB1; refine (specGoodBus _ e q ce cq c.bm c.bx c.bl HE1.out HQ1.out lb ll lm).mono ?_; rintro e9 W2 ⟨rfl, k9⟩; rw [h2]; have HK2 := hide k9; have HB2 := hide (HB1.out.kept0 k9); clear k9 i0 i1 i2 i3 i4 i5 i6 i7 i8 i9 i10 i11; have i0 := HB2.out.cell (i := 0) rfl; have i1 := HB2.out.cell (i := 1) rfl; have i2 := HB2.out.cell (i := 2) rfl; have i3 := HB2.out.cell (i := 3) rfl; have i4 := HB2.out.cell (i := 4) rfl; have i5 := HB2.out.cell (i := 5) rfl; have i6 := HB2.out.cell (i := 6) rfl; have i7 := HB2.out.cell (i := 7) rfl; have i8 := HB2.out.cell (i := 8) rfl; have i9 := HB2.out.cell (i := 9) rfl; have i10 := HB2.out.cell (i := 10) rfl; have i11 := HB2.out.cell (i := 11) rfl) | (go_at_call 37; refine (specGoodRegs _ c.r a b ca cb HA.out HB.out lx ly).mono ?_; rintro e9 W ⟨rfl, k9⟩; rw [h1]; have HK1 := hide k9; have HB1 := hide (HBA.out.kept0 k9); have HE1 := hide (HE.out.keptS k9); have HQ1 := hide (HQ.out.keptS k9); clear k9 i0 i1 i2 i3 i4 i5 i6 i7 i8 i9 i10 i11; have i0 := HB1.out.cell (i := 0) rfl; have i1 := HB1.out.cell (i := 1) rfl; have i2 := HB1.out.cell (i := 2) rfl; have i3 := HB1.out.cell (i := 3) rfl; have i4 := HB1.out.cell (i := 4) rfl; have i5 := HB1.out.cell (i := 5) rfl; have i6 := HB1.out.cell (i := 6) rfl; have i7 := HB1.out.cell (i := 7) rfl; have i8 := HB1.out.cell (i := 8) rfl; have i9 := HB1.out.cell (i := 9) rfl; have i10 := HB1.out.cell (i := 10) rfl; have i11 := HB1.out.cell (i := 11) rfl))
      go_ret
      exact ⟨rB (by unfold Pl.cpOk; simp [h1, h2]), (K0.out.trans HK1.out).trans HK2.out⟩
    · rcases Bool.eq_false_or_eq_true c.st with h3 | h3
      · have H3 := hide h3
        rw [H3.out] at i10
        clear h3
        go_enter Tryz.func17, Tryz.ntmps17
        go_wp2_with (first | (go_at_call 38; have z9 := HB1; refine (specGoodBus _ e q ce cq c.bm c.bx c.bl HE1.out HQ1.out lb ll lm).mono ?_; rintro e9 W2 ⟨rfl, k9⟩; rw [h2]; have HK2 := hide k9; have HB2 := hide (HB1.out.kept0 k9); clear k9 i0 i1 i2 i3 i4 i5 i6 i7 i8 i9 i10 i11; have i0 := HB2.out.cell (i := 0) rfl; have i1 := HB2.out.cell (i := 1) rfl; have i2 := HB2.out.cell (i := 2) rfl; have i3 := HB2.out.cell (i := 3) rfl; have i4 := HB2.out.cell (i := 4) rfl; have i5 := HB2.out.cell (i := 5) rfl; have i6 := HB2.out.cell (i := 6) rfl; have i7 := HB2.out.cell (i := 7) rfl; have i8 := HB2.out.cell (i := 8) rfl; have i9 := HB2.out.cell (i := 9) rfl; have i10 := HB2.out.cell (i := 10) rfl; have i11 := HB2.out.cell (i := 11) rfl; rw [H3.out] at i10) | (go_at_call 37; refine (specGoodRegs _ c.r a b ca cb HA.out HB.out lx ly).mono ?_; rintro e9 W ⟨rfl, k9⟩; rw [h1]; have HK1 := hide k9; have HB1 := hide (HBA.out.kept0 k9); have HE1 := hide (HE.out.keptS k9); have HQ1 := hide (HQ.out.keptS k9); clear k9 i0 i1 i2 i3 i4 i5 i6 i7 i8 i9 i10 i11; have i0 := HB1.out.cell (i := 0) rfl; have i1 := HB1.out.cell (i := 1) rfl; have i2 := HB1.out.cell (i := 2) rfl; have i3 := HB1.out.cell (i := 3) rfl; have i4 := HB1.out.cell (i := 4) rfl; have i5 := HB1.out.cell (i := 5) rfl; have i6 := HB1.out.cell (i := 6) rfl; have i7 := HB1.out.cell (i := 7) rfl; have i8 := HB1.out.cell (i := 8) rfl; have i9 := HB1.out.cell (i := 9) rfl; have i10 := HB1.out.cell (i := 10) rfl; have i11 := HB1.out.cell (i := 11) rfl; rw [H3.out] at i10))
        go_ret
        exact ⟨rB (by unfold Pl.cpOk; simp [h1, h2, H3.out]), (K0.out.trans HK1.out).trans HK2.out⟩
      · have H3 := hide h3
        rw [H3.out] at i10
        clear h3
        go_enter Tryz.func17, Tryz.ntmps17
        go_wp2_with (first | (go_at_call 38; have z9 := HB1; refine (specGoodBus _ e q ce cq c.bm c.bx c.bl HE1.out HQ1.out lb ll lm).mono ?_; rintro e9 W2 ⟨rfl, k9⟩; rw [h2]; have HK2 := hide k9; have HB2 := hide (HB1.out.kept0 k9); clear k9 i0 i1 i2 i3 i4 i5 i6 i7 i8 i9 i10 i11; have i0 := HB2.out.cell (i := 0) rfl; have i1 := HB2.out.cell (i := 1) rfl; have i2 := HB2.out.cell (i := 2) rfl; have i3 := HB2.out.cell (i := 3) rfl; have i4 := HB2.out.cell (i := 4) rfl; have i5 := HB2.out.cell (i := 5) rfl; have i6 := HB2.out.cell (i := 6) rfl; have i7 := HB2.out.cell (i := 7) rfl; have i8 := HB2.out.cell (i := 8) rfl; have i9 := HB2.out.cell (i := 9) rfl; have i10 := HB2.out.cell (i := 10) rfl; have i11 := HB2.out.cell (i := 11) rfl; rw [H3.out] at i10) | (go_at_call 37; refine (specGoodRegs _ c.r a b ca cb HA.out HB.out lx ly).mono ?_; rintro e9 W ⟨rfl, k9⟩; rw [h1]; have HK1 := hide k9; have HB1 := hide (HBA.out.kept0 k9); have HE1 := hide (HE.out.keptS k9); have HQ1 := hide (HQ.out.keptS k9); clear k9 i0 i1 i2 i3 i4 i5 i6 i7 i8 i9 i10 i11; have i0 := HB1.out.cell (i := 0) rfl; have i1 := HB1.out.cell (i := 1) rfl; have i2 := HB1.out.cell (i := 2) rfl; have i3 := HB1.out.cell (i := 3) rfl; have i4 := HB1.out.cell (i := 4) rfl; have i5 := HB1.out.cell (i := 5) rfl; have i6 := HB1.out.cell (i := 6) rfl; have i7 := HB1.out.cell (i := 7) rfl; have i8 := HB1.out.cell (i := 8) rfl; have i9 := HB1.out.cell (i := 9) rfl; have i10 := HB1.out.cell (i := 10) rfl; have i11 := HB1.out.cell (i := 11) rfl; rw [H3.out] at i10))
        go_ret
        exact ⟨rB (by unfold Pl.cpOk; simp [h1, h2, H3.out]), (K0.out.trans HK1.out).trans HK2.out⟩
end Go.Proofs.YtblddehlkaolbaaGreatDoor

namespace Go.Proofs.YtblddehlkaolbaaGreatDoor
open Go.RowKit
set_option linter.unusedVariables false
def cpuV (c : Pl.Cp) (a b e q : Option Addr) (ca cb ce cq : Nat) : Array Value := #[.slice a c.r.xs.length ca, .slice b c.r.ys.length cb, .int .i64 c.r.o, .int .i64 c.r.p, .int .i64 c.r.f, .int .i64 c.r.m, .bool c.r.s, .bool c.r.t, .slice e c.bx.length ce, .slice q c.bm cq, .bool c.st, .bool c.ha]
/-- a processor that is answered: its lists are new, no two of them share memory -/
structure CpuIn (w : World) (base : Nat) (c : Pl.Cp) (a b e q : Option Addr) : Prop where
  d : SlotIn w base w.heap.size a c.r.xs
  a' : SlotIn w base w.heap.size b c.r.ys
  b' : SlotIn w base w.heap.size e c.bx
  l : SlotIn w base w.heap.size q c.bl
  n1 : ∀ g, blk a = some g → blk b ≠ some g
  n2 : ∀ g, blk a = some g → blk e ≠ some g
  n3 : ∀ g, blk a = some g → blk q ≠ some g
  n4 : ∀ g, blk b = some g → blk e ≠ some g
  n5 : ∀ g, blk b = some g → blk q ≠ some g
  n6 : ∀ g, blk e = some g → blk q ≠ some g
theorem CO.cpuIn {w : World} {lo mid gd ga g1 g2 c2 : Nat} {c : Pl.Cp} (h : CO w lo mid c gd ga g1 g2 c2) : CpuIn w lo c (some ⟨gd, 0, none⟩) (some ⟨ga, 0, none⟩) (some ⟨g1, 0, none⟩) (some ⟨g2, 0, none⟩) := by
  have := h.d0; have := h.d1; have := h.a0; have := h.a1; have := h.da; have := h.b0; have := h.b1; have := h.bl
  have q := h.l.lt g2 rfl
  refine ⟨.inr ⟨gd, rfl, by omega, by omega, h.d⟩, .inr ⟨ga, rfl, by omega, by omega, h.a⟩, .inr ⟨g1, rfl, by omega, by omega, h.b⟩, .inr ⟨g2, rfl, by omega, by omega, own_of_row5 h.l⟩, ?_, ?_, ?_, ?_, ?_, ?_⟩ <;>
  · intro g e1 e2
    simp [blk] at e1 e2
    omega
theorem cpuIn_no (w : World) (base : Nat) : CpuIn w base Pl.cpNo none none none none :=
  ⟨.inl ⟨rfl, rfl⟩, .inl ⟨rfl, rfl⟩, .inl ⟨rfl, rfl⟩, .inl ⟨rfl, rfl⟩, by simp [blk], by simp [blk], by simp [blk], by simp [blk], by simp [blk], by simp [blk]⟩
def Pl.scOk (c : Pl.Cp) : Bool := Pl.cpOk c && (!c.st && !c.ha)
def Pl.scC (c : Pl.Cp) : Pl.Cp := bif Pl.scOk c then Pl.stepC c else Pl.cpNo
def Pl.scF (c : Pl.Cp) : Pl.Ft := bif Pl.scOk c then Pl.stepF c else Pl.ftNo
theorem Pl.GM.step {c : Pl.Cp} (h : Pl.cpOk c = true) (hl : c.bl.length = 5 * c.bm) : Pl.GM (Pl.stepM c) := by
  have g : Pl.GM (Pl.Mc.ofC c) := Pl.GM.of h hl c.st
  have gf := Pl.GM.fetch g
  have h1 : Pl.GM (Pl.Mc.ofC c).s1 := by
    unfold Pl.Mc.s1
    cases ((Pl.Mc.ofC c).fetch.fine && (Pl.priv (Pl.Mc.ofC c).fetI && !(Pl.Mc.ofC c).fetch.r.s))
    · exact gf
    · exact gf.ft _
  unfold Pl.stepM Pl.Mc.s2
  cases hs : (Pl.Mc.ofC c).s1.fine
  · exact h1
  · have hf : (Pl.Mc.ofC c).fetch.fine = true := by
      cases q : (Pl.Mc.ofC c).fetch.fine
      · unfold Pl.Mc.s1 at hs; rw [q] at hs; simp only [Bool.false_and, cond_false] at hs; rw [q] at hs; exact hs
      · rfl
    exact (h1.setP (by omega) (by omega)).doI (Pl.fetch_ok hf).1 _
theorem Pl.step_len {c : Pl.Cp} (h : Pl.cpOk c = true) (hl : c.bl.length = 5 * c.bm) : (Pl.stepC c).r.xs.length = 4 ∧ (Pl.stepC c).r.ys.length = 4 ∧ (Pl.stepC c).bx.length = 512 := by
  have g := Pl.GM.of h hl c.st
  have gs := Pl.GM.step h hl
  unfold Pl.stepC
  cases (Pl.stepM c).fine
  · exact ⟨g.g.d4, g.g.a4, gs.bx⟩
  · exact ⟨gs.g.d4, gs.g.a4, gs.bx⟩
theorem results_cell2_tmp {fn : Func} {p q u : Tmp} {ty tz : TypeId} (h : fn.results = #[.cell p ty, .cell q tz, .tmp u]) (tmps : Array Value) (P : Program) (w : World) :
    (results fn tmps).run P w = ((asAddr (tmps.getD p undef)).run P w).andThen fun a w₁ => ((loadVar ty a).run P w₁).andThen fun v w₂ => ((asAddr (tmps.getD q undef)).run P w₂).andThen fun b w₃ => ((loadVar tz b).run P w₃).andThen fun y w₄ => .ok (.tuple #[v, y, tmps.getD u undef]) w₄ := by
  simp only [results, h]
  simp [Sem.run_bind, Result.andThen]
set_option maxHeartbeats 4000000 in
theorem specStepCpu_bad (w : World) (c : Pl.Cp) (a b e q : Option Addr) (ca cb ce cq : Nat) (ha : IRow w a c.r.xs) (hb : IRow w b c.r.ys) (he : IRow w e c.bx) (hq : IRow w q c.bl) (lx : c.r.xs.length ≤ 2000000) (ly : c.r.ys.length ≤ 2000000) (lb : c.bx.length ≤ 2000000) (ll : c.bl.length = 5 * c.bm) (lm : c.bm ≤ 2000000) (h1 : Pl.cpOk c = false) :
    Calls Tryz.prog 6 #[.agg #[.slice a c.r.xs.length ca, .slice b c.r.ys.length cb, .int .i64 c.r.o, .int .i64 c.r.p, .int .i64 c.r.f, .int .i64 c.r.m, .bool c.r.s, .bool c.r.t, .slice e c.bx.length ce, .slice q c.bm cq, .bool c.st, .bool c.ha]] w fun r w' => ∃ (a' b' e' q' : Option Addr) (ca' cb' ce' cq' : Nat), r = .returned (.tuple #[.agg (cpuV (Pl.scC c) a' b' e' q' ca' cb' ce' cq'), .agg (ftC (Pl.scF c)), .bool (Pl.scOk c)]) ∧ CpuIn w' w.heap.size (Pl.scC c) a' b' e' q' ∧ Kept 0 0 w w' := by
  have EO : Hid (Pl.scOk c = false) := hide (by unfold Pl.scOk; rw [h1]; simp)
  have EC : Hid (Pl.scC c = Pl.cpNo) := hide (by unfold Pl.scC; rw [EO.out]; rfl)
  have EF : Hid (Pl.scF c = Pl.ftNo) := hide (by unfold Pl.scF; rw [EO.out]; rfl)
  have K0 := hide (kept_new (kept_new (kept_alloc w (.cells #[.slice a c.r.xs.length ca, .slice b c.r.ys.length cb, .int .i64 c.r.o, .int .i64 c.r.p, .int .i64 c.r.f, .int .i64 c.r.m, .bool c.r.s, .bool c.r.t, .slice e c.bx.length ce, .slice q c.bm cq, .bool c.st, .bool c.ha] 36)) (.cells #[.slice none 0 0, .slice none 0 0, .int .i64 0, .int .i64 0, .int .i64 0, .int .i64 0, .bool false, .bool false, .slice none 0 0, .slice none 0 0, .bool false, .bool false] 36)) (.cells #[.int .i64 0, .int .i64 0, .int .i64 0, .int .i64 0, .bool false] 38))
  have B0 := ((Blk.new w #[.slice a c.r.xs.length ca, .slice b c.r.ys.length cb, .int .i64 c.r.o, .int .i64 c.r.p, .int .i64 c.r.f, .int .i64 c.r.m, .bool c.r.s, .bool c.r.t, .slice e c.bx.length ce, .slice q c.bm cq, .bool c.st, .bool c.ha] 36).alloc (.cells #[.slice none 0 0, .slice none 0 0, .int .i64 0, .int .i64 0, .int .i64 0, .int .i64 0, .bool false, .bool false, .slice none 0 0, .slice none 0 0, .bool false, .bool false] 36)).alloc (.cells #[.int .i64 0, .int .i64 0, .int .i64 0, .int .i64 0, .bool false] 38)
  have B1 := (Blk.new (w.alloc (.cells #[.slice a c.r.xs.length ca, .slice b c.r.ys.length cb, .int .i64 c.r.o, .int .i64 c.r.p, .int .i64 c.r.f, .int .i64 c.r.m, .bool c.r.s, .bool c.r.t, .slice e c.bx.length ce, .slice q c.bm cq, .bool c.st, .bool c.ha] 36)) #[.slice none 0 0, .slice none 0 0, .int .i64 0, .int .i64 0, .int .i64 0, .int .i64 0, .bool false, .bool false, .slice none 0 0, .slice none 0 0, .bool false, .bool false] 36).alloc (.cells #[.int .i64 0, .int .i64 0, .int .i64 0, .int .i64 0, .bool false] 38)
  have B2 := Blk.new ((w.alloc (.cells #[.slice a c.r.xs.length ca, .slice b c.r.ys.length cb, .int .i64 c.r.o, .int .i64 c.r.p, .int .i64 c.r.f, .int .i64 c.r.m, .bool c.r.s, .bool c.r.t, .slice e c.bx.length ce, .slice q c.bm cq, .bool c.st, .bool c.ha] 36)).alloc (.cells #[.slice none 0 0, .slice none 0 0, .int .i64 0, .int .i64 0, .int .i64 0, .int .i64 0, .bool false, .bool false, .slice none 0 0, .slice none 0 0, .bool false, .bool false] 36)) #[.int .i64 0, .int .i64 0, .int .i64 0, .int .i64 0, .bool false] 38
  simp only [World.size_alloc] at B1 B2
  obtain ⟨X, hX⟩ : ∃ X : World, ((w.alloc (.cells #[.slice a c.r.xs.length ca, .slice b c.r.ys.length cb, .int .i64 c.r.o, .int .i64 c.r.p, .int .i64 c.r.f, .int .i64 c.r.m, .bool c.r.s, .bool c.r.t, .slice e c.bx.length ce, .slice q c.bm cq, .bool c.st, .bool c.ha] 36)).alloc (.cells #[.slice none 0 0, .slice none 0 0, .int .i64 0, .int .i64 0, .int .i64 0, .int .i64 0, .bool false, .bool false, .slice none 0 0, .slice none 0 0, .bool false, .bool false] 36)).alloc (.cells #[.int .i64 0, .int .i64 0, .int .i64 0, .int .i64 0, .bool false] 38) = X := ⟨_, rfl⟩
  rw [hX] at K0 B0 B1 B2
  have HXS : Hid (X.heap.size = w.heap.size + 3) := hide (by rw [← hX]; simp)
  have HB0 := hide B0
  have HB1 := hide B1
  have HB2 := hide B2
  have HA := hide (ha.keptS K0.out)
  have HB := hide (hb.keptS K0.out)
  have HE := hide (he.keptS K0.out)
  have HQ := hide (hq.keptS K0.out)
  clear B0 B1 B2 ha hb he hq
  have i0 := HB0.out.cell (i := 0) rfl
  have i1 := HB0.out.cell (i := 1) rfl
  have i2 := HB0.out.cell (i := 2) rfl
  have i3 := HB0.out.cell (i := 3) rfl
  have i4 := HB0.out.cell (i := 4) rfl
  have i5 := HB0.out.cell (i := 5) rfl
  have i6 := HB0.out.cell (i := 6) rfl
  have i7 := HB0.out.cell (i := 7) rfl
  have i8 := HB0.out.cell (i := 8) rfl
  have i9 := HB0.out.cell (i := 9) rfl
  have i10 := HB0.out.cell (i := 10) rfl
  have i11 := HB0.out.cell (i := 11) rfl
  go_enter Tryz.func6, Tryz.ntmps6
  go_wp2_with (go_at_call 17; refine (specGoodCpu _ c a b e q ca cb ce cq HA.out HB.out HE.out HQ.out lx ly lb ll lm).mono ?_; rintro e9 W ⟨rfl, k9⟩; rw [h1]; have HK1 := hide (K0.out.trans k9); have HI1 := hide (HB0.out.kept0 k9); have HO1 := hide (HB1.out.kept0 k9); have HO2 := hide (HB2.out.kept0 k9); have hs1 := HO2.out.lt; have HSz := hide k9.size; have HA1 := hide (HA.out.keptS k9); have HBB1 := hide (HB.out.keptS k9); have HE1 := hide (HE.out.keptS k9); have HQ1 := hide (HQ.out.keptS k9); clear k9 i0 i1 i2 i3 i4 i5 i6 i7 i8 i9 i10 i11; have i0 := HI1.out.cell (i := 0) rfl; have i1 := HI1.out.cell (i := 1) rfl; have i2 := HI1.out.cell (i := 2) rfl; have i3 := HI1.out.cell (i := 3) rfl; have i4 := HI1.out.cell (i := 4) rfl; have i5 := HI1.out.cell (i := 5) rfl; have i6 := HI1.out.cell (i := 6) rfl; have i7 := HI1.out.cell (i := 7) rfl; have i8 := HI1.out.cell (i := 8) rfl; have i9 := HI1.out.cell (i := 9) rfl; have i10 := HI1.out.cell (i := 10) rfl; have i11 := HI1.out.cell (i := 11) rfl; have o0 := HO1.out.cell (i := 0) rfl; have of0 := HO1.out.frozen 0; have o1 := HO1.out.cell (i := 1) rfl; have of1 := HO1.out.frozen 1; have o2 := HO1.out.cell (i := 2) rfl; have of2 := HO1.out.frozen 2; have o3 := HO1.out.cell (i := 3) rfl; have of3 := HO1.out.frozen 3; have o4 := HO1.out.cell (i := 4) rfl; have of4 := HO1.out.frozen 4; have o5 := HO1.out.cell (i := 5) rfl; have of5 := HO1.out.frozen 5; have o6 := HO1.out.cell (i := 6) rfl; have of6 := HO1.out.frozen 6; have o7 := HO1.out.cell (i := 7) rfl; have of7 := HO1.out.frozen 7; have o8 := HO1.out.cell (i := 8) rfl; have of8 := HO1.out.frozen 8; have o9 := HO1.out.cell (i := 9) rfl; have of9 := HO1.out.frozen 9; have o10 := HO1.out.cell (i := 10) rfl; have of10 := HO1.out.frozen 10; have o11 := HO1.out.cell (i := 11) rfl; have of11 := HO1.out.frozen 11; have y0 := HO2.out.cell (i := 0) rfl; have yf0 := HO2.out.frozen 0; have y1 := HO2.out.cell (i := 1) rfl; have yf1 := HO2.out.frozen 1; have y2 := HO2.out.cell (i := 2) rfl; have yf2 := HO2.out.frozen 2; have y3 := HO2.out.cell (i := 3) rfl; have yf3 := HO2.out.frozen 3; have y4 := HO2.out.cell (i := 4) rfl; have yf4 := HO2.out.frozen 4)
  have hxs := HXS.out
  refine bodyPost_ret (v := .tuple #[.agg (cpuV (Pl.scC c) none none none none 0 0 0 0), .agg (ftC (Pl.scF c)), .bool (Pl.scOk c)]) ?_ rfl ⟨none, none, none, none, 0, 0, 0, 0, rfl, by rw [EC.out]; exact cpuIn_no _ _, ?kw⟩
  case kw => repeat (first | with_reducible exact HK1.out | refine kept_set ?_ _ _ _ (.inr (by omega)))
  rw [results_cell2_tmp rfl, EC.out, EF.out, EO.out]; go_simp; exact ⟨rfl, rfl⟩
set_option maxHeartbeats 4000000 in
theorem specStepCpu_stop (w : World) (c : Pl.Cp) (a b e q : Option Addr) (ca cb ce cq : Nat) (ha : IRow w a c.r.xs) (hb : IRow w b c.r.ys) (he : IRow w e c.bx) (hq : IRow w q c.bl) (lx : c.r.xs.length ≤ 2000000) (ly : c.r.ys.length ≤ 2000000) (lb : c.bx.length ≤ 2000000) (ll : c.bl.length = 5 * c.bm) (lm : c.bm ≤ 2000000) (h1 : Pl.cpOk c = true) (h2 : c.st = true) :
    Calls Tryz.prog 6 #[.agg #[.slice a c.r.xs.length ca, .slice b c.r.ys.length cb, .int .i64 c.r.o, .int .i64 c.r.p, .int .i64 c.r.f, .int .i64 c.r.m, .bool c.r.s, .bool c.r.t, .slice e c.bx.length ce, .slice q c.bm cq, .bool c.st, .bool c.ha]] w fun r w' => ∃ (a' b' e' q' : Option Addr) (ca' cb' ce' cq' : Nat), r = .returned (.tuple #[.agg (cpuV (Pl.scC c) a' b' e' q' ca' cb' ce' cq'), .agg (ftC (Pl.scF c)), .bool (Pl.scOk c)]) ∧ CpuIn w' w.heap.size (Pl.scC c) a' b' e' q' ∧ Kept 0 0 w w' := by
  have EO : Hid (Pl.scOk c = false) := hide (by unfold Pl.scOk; rw [h1, h2]; simp)
  have EC : Hid (Pl.scC c = Pl.cpNo) := hide (by unfold Pl.scC; rw [EO.out]; rfl)
  have EF : Hid (Pl.scF c = Pl.ftNo) := hide (by unfold Pl.scF; rw [EO.out]; rfl)
  have H2 := hide h2
  clear h2
  have K0 := hide (kept_new (kept_new (kept_alloc w (.cells #[.slice a c.r.xs.length ca, .slice b c.r.ys.length cb, .int .i64 c.r.o, .int .i64 c.r.p, .int .i64 c.r.f, .int .i64 c.r.m, .bool c.r.s, .bool c.r.t, .slice e c.bx.length ce, .slice q c.bm cq, .bool c.st, .bool c.ha] 36)) (.cells #[.slice none 0 0, .slice none 0 0, .int .i64 0, .int .i64 0, .int .i64 0, .int .i64 0, .bool false, .bool false, .slice none 0 0, .slice none 0 0, .bool false, .bool false] 36)) (.cells #[.int .i64 0, .int .i64 0, .int .i64 0, .int .i64 0, .bool false] 38))
  have B0 := ((Blk.new w #[.slice a c.r.xs.length ca, .slice b c.r.ys.length cb, .int .i64 c.r.o, .int .i64 c.r.p, .int .i64 c.r.f, .int .i64 c.r.m, .bool c.r.s, .bool c.r.t, .slice e c.bx.length ce, .slice q c.bm cq, .bool c.st, .bool c.ha] 36).alloc (.cells #[.slice none 0 0, .slice none 0 0, .int .i64 0, .int .i64 0, .int .i64 0, .int .i64 0, .bool false, .bool false, .slice none 0 0, .slice none 0 0, .bool false, .bool false] 36)).alloc (.cells #[.int .i64 0, .int .i64 0, .int .i64 0, .int .i64 0, .bool false] 38)
  have B1 := (Blk.new (w.alloc (.cells #[.slice a c.r.xs.length ca, .slice b c.r.ys.length cb, .int .i64 c.r.o, .int .i64 c.r.p, .int .i64 c.r.f, .int .i64 c.r.m, .bool c.r.s, .bool c.r.t, .slice e c.bx.length ce, .slice q c.bm cq, .bool c.st, .bool c.ha] 36)) #[.slice none 0 0, .slice none 0 0, .int .i64 0, .int .i64 0, .int .i64 0, .int .i64 0, .bool false, .bool false, .slice none 0 0, .slice none 0 0, .bool false, .bool false] 36).alloc (.cells #[.int .i64 0, .int .i64 0, .int .i64 0, .int .i64 0, .bool false] 38)
  have B2 := Blk.new ((w.alloc (.cells #[.slice a c.r.xs.length ca, .slice b c.r.ys.length cb, .int .i64 c.r.o, .int .i64 c.r.p, .int .i64 c.r.f, .int .i64 c.r.m, .bool c.r.s, .bool c.r.t, .slice e c.bx.length ce, .slice q c.bm cq, .bool c.st, .bool c.ha] 36)).alloc (.cells #[.slice none 0 0, .slice none 0 0, .int .i64 0, .int .i64 0, .int .i64 0, .int .i64 0, .bool false, .bool false, .slice none 0 0, .slice none 0 0, .bool false, .bool false] 36)) #[.int .i64 0, .int .i64 0, .int .i64 0, .int .i64 0, .bool false] 38
  simp only [World.size_alloc] at B1 B2
  obtain ⟨X, hX⟩ : ∃ X : World, ((w.alloc (.cells #[.slice a c.r.xs.length ca, .slice b c.r.ys.length cb, .int .i64 c.r.o, .int .i64 c.r.p, .int .i64 c.r.f, .int .i64 c.r.m, .bool c.r.s, .bool c.r.t, .slice e c.bx.length ce, .slice q c.bm cq, .bool c.st, .bool c.ha] 36)).alloc (.cells #[.slice none 0 0, .slice none 0 0, .int .i64 0, .int .i64 0, .int .i64 0, .int .i64 0, .bool false, .bool false, .slice none 0 0, .slice none 0 0, .bool false, .bool false] 36)).alloc (.cells #[.int .i64 0, .int .i64 0, .int .i64 0, .int .i64 0, .bool false] 38) = X := ⟨_, rfl⟩
  rw [hX] at K0 B0 B1 B2
  have HXS : Hid (X.heap.size = w.heap.size + 3) := hide (by rw [← hX]; simp)
  have HB0 := hide B0
  have HB1 := hide B1
  have HB2 := hide B2
  have HA := hide (ha.keptS K0.out)
  have HB := hide (hb.keptS K0.out)
  have HE := hide (he.keptS K0.out)
  have HQ := hide (hq.keptS K0.out)
  clear B0 B1 B2 ha hb he hq
  have i0 := HB0.out.cell (i := 0) rfl
  have i1 := HB0.out.cell (i := 1) rfl
  have i2 := HB0.out.cell (i := 2) rfl
  have i3 := HB0.out.cell (i := 3) rfl
  have i4 := HB0.out.cell (i := 4) rfl
  have i5 := HB0.out.cell (i := 5) rfl
  have i6 := HB0.out.cell (i := 6) rfl
  have i7 := HB0.out.cell (i := 7) rfl
  have i8 := HB0.out.cell (i := 8) rfl
  have i9 := HB0.out.cell (i := 9) rfl
  have i10 := HB0.out.cell (i := 10) rfl
  have i11 := HB0.out.cell (i := 11) rfl
  go_enter Tryz.func6, Tryz.ntmps6
  go_wp2_with (go_at_call 17; refine (specGoodCpu _ c a b e q ca cb ce cq HA.out HB.out HE.out HQ.out lx ly lb ll lm).mono ?_; rintro e9 W ⟨rfl, k9⟩; rw [h1]; have HK1 := hide (K0.out.trans k9); have HI1 := hide (HB0.out.kept0 k9); have HO1 := hide (HB1.out.kept0 k9); have HO2 := hide (HB2.out.kept0 k9); have hs1 := HO2.out.lt; have HSz := hide k9.size; have HA1 := hide (HA.out.keptS k9); have HBB1 := hide (HB.out.keptS k9); have HE1 := hide (HE.out.keptS k9); have HQ1 := hide (HQ.out.keptS k9); clear k9 i0 i1 i2 i3 i4 i5 i6 i7 i8 i9 i10 i11; have i0 := HI1.out.cell (i := 0) rfl; have i1 := HI1.out.cell (i := 1) rfl; have i2 := HI1.out.cell (i := 2) rfl; have i3 := HI1.out.cell (i := 3) rfl; have i4 := HI1.out.cell (i := 4) rfl; have i5 := HI1.out.cell (i := 5) rfl; have i6 := HI1.out.cell (i := 6) rfl; have i7 := HI1.out.cell (i := 7) rfl; have i8 := HI1.out.cell (i := 8) rfl; have i9 := HI1.out.cell (i := 9) rfl; have i10 := HI1.out.cell (i := 10) rfl; have i11 := HI1.out.cell (i := 11) rfl; have o0 := HO1.out.cell (i := 0) rfl; have of0 := HO1.out.frozen 0; have o1 := HO1.out.cell (i := 1) rfl; have of1 := HO1.out.frozen 1; have o2 := HO1.out.cell (i := 2) rfl; have of2 := HO1.out.frozen 2; have o3 := HO1.out.cell (i := 3) rfl; have of3 := HO1.out.frozen 3; have o4 := HO1.out.cell (i := 4) rfl; have of4 := HO1.out.frozen 4; have o5 := HO1.out.cell (i := 5) rfl; have of5 := HO1.out.frozen 5; have o6 := HO1.out.cell (i := 6) rfl; have of6 := HO1.out.frozen 6; have o7 := HO1.out.cell (i := 7) rfl; have of7 := HO1.out.frozen 7; have o8 := HO1.out.cell (i := 8) rfl; have of8 := HO1.out.frozen 8; have o9 := HO1.out.cell (i := 9) rfl; have of9 := HO1.out.frozen 9; have o10 := HO1.out.cell (i := 10) rfl; have of10 := HO1.out.frozen 10; have o11 := HO1.out.cell (i := 11) rfl; have of11 := HO1.out.frozen 11; have y0 := HO2.out.cell (i := 0) rfl; have yf0 := HO2.out.frozen 0; have y1 := HO2.out.cell (i := 1) rfl; have yf1 := HO2.out.frozen 1; have y2 := HO2.out.cell (i := 2) rfl; have yf2 := HO2.out.frozen 2; have y3 := HO2.out.cell (i := 3) rfl; have yf3 := HO2.out.frozen 3; have y4 := HO2.out.cell (i := 4) rfl; have yf4 := HO2.out.frozen 4; rw [H2.out] at i10)
  have hxs := HXS.out
  refine bodyPost_ret (v := .tuple #[.agg (cpuV (Pl.scC c) none none none none 0 0 0 0), .agg (ftC (Pl.scF c)), .bool (Pl.scOk c)]) ?_ rfl ⟨none, none, none, none, 0, 0, 0, 0, rfl, by rw [EC.out]; exact cpuIn_no _ _, ?kw⟩
  case kw => repeat (first | with_reducible exact HK1.out | refine kept_set ?_ _ _ _ (.inr (by omega)))
  rw [results_cell2_tmp rfl, EC.out, EF.out, EO.out]; go_simp; exact ⟨rfl, rfl⟩
set_option maxHeartbeats 4000000 in
theorem specStepCpu_halt (w : World) (c : Pl.Cp) (a b e q : Option Addr) (ca cb ce cq : Nat) (ha : IRow w a c.r.xs) (hb : IRow w b c.r.ys) (he : IRow w e c.bx) (hq : IRow w q c.bl) (lx : c.r.xs.length ≤ 2000000) (ly : c.r.ys.length ≤ 2000000) (lb : c.bx.length ≤ 2000000) (ll : c.bl.length = 5 * c.bm) (lm : c.bm ≤ 2000000) (h1 : Pl.cpOk c = true) (h2 : c.st = false) (h3 : c.ha = true) :
    Calls Tryz.prog 6 #[.agg #[.slice a c.r.xs.length ca, .slice b c.r.ys.length cb, .int .i64 c.r.o, .int .i64 c.r.p, .int .i64 c.r.f, .int .i64 c.r.m, .bool c.r.s, .bool c.r.t, .slice e c.bx.length ce, .slice q c.bm cq, .bool c.st, .bool c.ha]] w fun r w' => ∃ (a' b' e' q' : Option Addr) (ca' cb' ce' cq' : Nat), r = .returned (.tuple #[.agg (cpuV (Pl.scC c) a' b' e' q' ca' cb' ce' cq'), .agg (ftC (Pl.scF c)), .bool (Pl.scOk c)]) ∧ CpuIn w' w.heap.size (Pl.scC c) a' b' e' q' ∧ Kept 0 0 w w' := by
  have EO : Hid (Pl.scOk c = false) := hide (by unfold Pl.scOk; rw [h1, h2, h3]; simp)
  have EC : Hid (Pl.scC c = Pl.cpNo) := hide (by unfold Pl.scC; rw [EO.out]; rfl)
  have EF : Hid (Pl.scF c = Pl.ftNo) := hide (by unfold Pl.scF; rw [EO.out]; rfl)
  have H2 := hide h2
  clear h2
  have H3 := hide h3
  clear h3
  have K0 := hide (kept_new (kept_new (kept_alloc w (.cells #[.slice a c.r.xs.length ca, .slice b c.r.ys.length cb, .int .i64 c.r.o, .int .i64 c.r.p, .int .i64 c.r.f, .int .i64 c.r.m, .bool c.r.s, .bool c.r.t, .slice e c.bx.length ce, .slice q c.bm cq, .bool c.st, .bool c.ha] 36)) (.cells #[.slice none 0 0, .slice none 0 0, .int .i64 0, .int .i64 0, .int .i64 0, .int .i64 0, .bool false, .bool false, .slice none 0 0, .slice none 0 0, .bool false, .bool false] 36)) (.cells #[.int .i64 0, .int .i64 0, .int .i64 0, .int .i64 0, .bool false] 38))
  have B0 := ((Blk.new w #[.slice a c.r.xs.length ca, .slice b c.r.ys.length cb, .int .i64 c.r.o, .int .i64 c.r.p, .int .i64 c.r.f, .int .i64 c.r.m, .bool c.r.s, .bool c.r.t, .slice e c.bx.length ce, .slice q c.bm cq, .bool c.st, .bool c.ha] 36).alloc (.cells #[.slice none 0 0, .slice none 0 0, .int .i64 0, .int .i64 0, .int .i64 0, .int .i64 0, .bool false, .bool false, .slice none 0 0, .slice none 0 0, .bool false, .bool false] 36)).alloc (.cells #[.int .i64 0, .int .i64 0, .int .i64 0, .int .i64 0, .bool false] 38)
  have B1 := (Blk.new (w.alloc (.cells #[.slice a c.r.xs.length ca, .slice b c.r.ys.length cb, .int .i64 c.r.o, .int .i64 c.r.p, .int .i64 c.r.f, .int .i64 c.r.m, .bool c.r.s, .bool c.r.t, .slice e c.bx.length ce, .slice q c.bm cq, .bool c.st, .bool c.ha] 36)) #[.slice none 0 0, .slice none 0 0, .int .i64 0, .int .i64 0, .int .i64 0, .int .i64 0, .bool false, .bool false, .slice none 0 0, .slice none 0 0, .bool false, .bool false] 36).alloc (.cells #[.int .i64 0, .int .i64 0, .int .i64 0, .int .i64 0, .bool false] 38)
  have B2 := Blk.new ((w.alloc (.cells #[.slice a c.r.xs.length ca, .slice b c.r.ys.length cb, .int .i64 c.r.o, .int .i64 c.r.p, .int .i64 c.r.f, .int .i64 c.r.m, .bool c.r.s, .bool c.r.t, .slice e c.bx.length ce, .slice q c.bm cq, .bool c.st, .bool c.ha] 36)).alloc (.cells #[.slice none 0 0, .slice none 0 0, .int .i64 0, .int .i64 0, .int .i64 0, .int .i64 0, .bool false, .bool false, .slice none 0 0, .slice none 0 0, .bool false, .bool false] 36)) #[.int .i64 0, .int .i64 0, .int .i64 0, .int .i64 0, .bool false] 38
  simp only [World.size_alloc] at B1 B2
  obtain ⟨X, hX⟩ : ∃ X : World, ((w.alloc (.cells #[.slice a c.r.xs.length ca, .slice b c.r.ys.length cb, .int .i64 c.r.o, .int .i64 c.r.p, .int .i64 c.r.f, .int .i64 c.r.m, .bool c.r.s, .bool c.r.t, .slice e c.bx.length ce, .slice q c.bm cq, .bool c.st, .bool c.ha] 36)).alloc (.cells #[.slice none 0 0, .slice none 0 0, .int .i64 0, .int .i64 0, .int .i64 0, .int .i64 0, .bool false, .bool false, .slice none 0 0, .slice none 0 0, .bool false, .bool false] 36)).alloc (.cells #[.int .i64 0, .int .i64 0, .int .i64 0, .int .i64 0, .bool false] 38) = X := ⟨_, rfl⟩
  rw [hX] at K0 B0 B1 B2
  have HXS : Hid (X.heap.size = w.heap.size + 3) := hide (by rw [← hX]; simp)
  have HB0 := hide B0
  have HB1 := hide B1
  have HB2 := hide B2
  have HA := hide (ha.keptS K0.out)
  have HB := hide (hb.keptS K0.out)
  have HE := hide (he.keptS K0.out)
  have HQ := hide (hq.keptS K0.out)
  clear B0 B1 B2 ha hb he hq
  have i0 := HB0.out.cell (i := 0) rfl
  have i1 := HB0.out.cell (i := 1) rfl
  have i2 := HB0.out.cell (i := 2) rfl
  have i3 := HB0.out.cell (i := 3) rfl
  have i4 := HB0.out.cell (i := 4) rfl
  have i5 := HB0.out.cell (i := 5) rfl
  have i6 := HB0.out.cell (i := 6) rfl
  have i7 := HB0.out.cell (i := 7) rfl
  have i8 := HB0.out.cell (i := 8) rfl
  have i9 := HB0.out.cell (i := 9) rfl
  have i10 := HB0.out.cell (i := 10) rfl
  have i11 := HB0.out.cell (i := 11) rfl
  go_enter Tryz.func6, Tryz.ntmps6
  go_wp2_with (go_at_call 17; refine (specGoodCpu _ c a b e q ca cb ce cq HA.out HB.out HE.out HQ.out lx ly lb ll lm).mono ?_; rintro e9 W ⟨rfl, k9⟩; rw [h1]; have HK1 := hide (K0.out.trans k9); have HI1 := hide (HB0.out.kept0 k9); have HO1 := hide (HB1.out.kept0 k9); have HO2 := hide (HB2.out.kept0 k9); have hs1 := HO2.out.lt; have HSz := hide k9.size; have HA1 := hide (HA.out.keptS k9); have HBB1 := hide (HB.out.keptS k9); have HE1 := hide (HE.out.keptS k9); have HQ1 := hide (HQ.out.keptS k9); clear k9 i0 i1 i2 i3 i4 i5 i6 i7 i8 i9 i10 i11; have i0 := HI1.out.cell (i := 0) rfl; have i1 := HI1.out.cell (i := 1) rfl; have i2 := HI1.out.cell (i := 2) rfl; have i3 := HI1.out.cell (i := 3) rfl; have i4 := HI1.out.cell (i := 4) rfl; have i5 := HI1.out.cell (i := 5) rfl; have i6 := HI1.out.cell (i := 6) rfl; have i7 := HI1.out.cell (i := 7) rfl; have i8 := HI1.out.cell (i := 8) rfl; have i9 := HI1.out.cell (i := 9) rfl; have i10 := HI1.out.cell (i := 10) rfl; have i11 := HI1.out.cell (i := 11) rfl; have o0 := HO1.out.cell (i := 0) rfl; have of0 := HO1.out.frozen 0; have o1 := HO1.out.cell (i := 1) rfl; have of1 := HO1.out.frozen 1; have o2 := HO1.out.cell (i := 2) rfl; have of2 := HO1.out.frozen 2; have o3 := HO1.out.cell (i := 3) rfl; have of3 := HO1.out.frozen 3; have o4 := HO1.out.cell (i := 4) rfl; have of4 := HO1.out.frozen 4; have o5 := HO1.out.cell (i := 5) rfl; have of5 := HO1.out.frozen 5; have o6 := HO1.out.cell (i := 6) rfl; have of6 := HO1.out.frozen 6; have o7 := HO1.out.cell (i := 7) rfl; have of7 := HO1.out.frozen 7; have o8 := HO1.out.cell (i := 8) rfl; have of8 := HO1.out.frozen 8; have o9 := HO1.out.cell (i := 9) rfl; have of9 := HO1.out.frozen 9; have o10 := HO1.out.cell (i := 10) rfl; have of10 := HO1.out.frozen 10; have o11 := HO1.out.cell (i := 11) rfl; have of11 := HO1.out.frozen 11; have y0 := HO2.out.cell (i := 0) rfl; have yf0 := HO2.out.frozen 0; have y1 := HO2.out.cell (i := 1) rfl; have yf1 := HO2.out.frozen 1; have y2 := HO2.out.cell (i := 2) rfl; have yf2 := HO2.out.frozen 2; have y3 := HO2.out.cell (i := 3) rfl; have yf3 := HO2.out.frozen 3; have y4 := HO2.out.cell (i := 4) rfl; have yf4 := HO2.out.frozen 4; rw [H2.out] at i10; rw [H3.out] at i11)
  have hxs := HXS.out
  refine bodyPost_ret (v := .tuple #[.agg (cpuV (Pl.scC c) none none none none 0 0 0 0), .agg (ftC (Pl.scF c)), .bool (Pl.scOk c)]) ?_ rfl ⟨none, none, none, none, 0, 0, 0, 0, rfl, by rw [EC.out]; exact cpuIn_no _ _, ?kw⟩
  case kw => repeat (first | with_reducible exact HK1.out | refine kept_set ?_ _ _ _ (.inr (by omega)))
  rw [results_cell2_tmp rfl, EC.out, EF.out, EO.out]; go_simp; exact ⟨rfl, rfl⟩
set_option maxRecDepth 100000 in
set_option maxHeartbeats 4000000 in
theorem specStepCpu_ok (w : World) (c : Pl.Cp) (a b e q : Option Addr) (ca cb ce cq : Nat) (ha : IRow w a c.r.xs) (hb : IRow w b c.r.ys) (he : IRow w e c.bx) (hq : IRow w q c.bl) (lx : c.r.xs.length ≤ 2000000) (ly : c.r.ys.length ≤ 2000000) (lb : c.bx.length ≤ 2000000) (ll : c.bl.length = 5 * c.bm) (lm : c.bm ≤ 2000000) (h1 : Pl.cpOk c = true) (h2 : c.st = false) (h3 : c.ha = false) :
    Calls Tryz.prog 6 #[.agg #[.slice a c.r.xs.length ca, .slice b c.r.ys.length cb, .int .i64 c.r.o, .int .i64 c.r.p, .int .i64 c.r.f, .int .i64 c.r.m, .bool c.r.s, .bool c.r.t, .slice e c.bx.length ce, .slice q c.bm cq, .bool c.st, .bool c.ha]] w fun r w' => ∃ (a' b' e' q' : Option Addr) (ca' cb' ce' cq' : Nat), r = .returned (.tuple #[.agg (cpuV (Pl.scC c) a' b' e' q' ca' cb' ce' cq'), .agg (ftC (Pl.scF c)), .bool (Pl.scOk c)]) ∧ CpuIn w' w.heap.size (Pl.scC c) a' b' e' q' ∧ Kept 0 0 w w' := by
  have EO : Hid (Pl.scOk c = true) := hide (by unfold Pl.scOk; rw [h1, h2, h3]; rfl)
  have EC : Hid (Pl.scC c = Pl.stepC c) := hide (by unfold Pl.scC; rw [EO.out]; rfl)
  have EF : Hid (Pl.scF c = Pl.stepF c) := hide (by unfold Pl.scF; rw [EO.out]; rfl)
  have G := Pl.GM.of h1 ll c.st
  have h4 := G.g.d4
  have h5 := G.g.a4
  have hbx := G.bx
  have HST : ∀ (w9 : World) (ra : IRow w9 a c.r.xs) (rb : IRow w9 b c.r.ys) (re : IRow w9 e c.bx) (rq : IRow w9 q c.bl), Calls Tryz.prog 18 #[.agg #[.slice a c.r.xs.length ca, .slice b c.r.ys.length cb, .int .i64 c.r.o, .int .i64 c.r.p, .int .i64 c.r.f, .int .i64 c.r.m, .bool c.r.s, .bool c.r.t, .slice e c.bx.length ce, .slice q c.bm cq, .bool c.st, .bool c.ha]] w9 fun r w' => ∃ gd cd ga cA g1 c1 g2 c2 mid : Nat, r = .returned (.tuple #[.agg (cpuC (Pl.stepC c) gd cd ga cA g1 c1 g2 c2), .agg (ftC (Pl.stepF c))]) ∧ CO w' w9.heap.size mid (Pl.stepC c) gd ga g1 g2 c2 ∧ Kept 0 0 w9 w' := by
    intro w9 ra rb re rq
    have z := mStep w9 c a b e q ca cb ce cq ra rb re rq h1 ll
    rw [h4, h5, hbx]
    exact z
  have LN : Hid ((Pl.stepC c).r.xs.length = 4 ∧ (Pl.stepC c).r.ys.length = 4 ∧ (Pl.stepC c).bx.length = 512) := hide (Pl.step_len h1 ll)
  rw [h2, h3] at HST
  have H2 := hide h2
  have H3 := hide h3
  clear h2 h3 G h4 h5 hbx
  have K0 := hide (kept_new (kept_new (kept_alloc w (.cells #[.slice a c.r.xs.length ca, .slice b c.r.ys.length cb, .int .i64 c.r.o, .int .i64 c.r.p, .int .i64 c.r.f, .int .i64 c.r.m, .bool c.r.s, .bool c.r.t, .slice e c.bx.length ce, .slice q c.bm cq, .bool c.st, .bool c.ha] 36)) (.cells #[.slice none 0 0, .slice none 0 0, .int .i64 0, .int .i64 0, .int .i64 0, .int .i64 0, .bool false, .bool false, .slice none 0 0, .slice none 0 0, .bool false, .bool false] 36)) (.cells #[.int .i64 0, .int .i64 0, .int .i64 0, .int .i64 0, .bool false] 38))
  have B0 := ((Blk.new w #[.slice a c.r.xs.length ca, .slice b c.r.ys.length cb, .int .i64 c.r.o, .int .i64 c.r.p, .int .i64 c.r.f, .int .i64 c.r.m, .bool c.r.s, .bool c.r.t, .slice e c.bx.length ce, .slice q c.bm cq, .bool c.st, .bool c.ha] 36).alloc (.cells #[.slice none 0 0, .slice none 0 0, .int .i64 0, .int .i64 0, .int .i64 0, .int .i64 0, .bool false, .bool false, .slice none 0 0, .slice none 0 0, .bool false, .bool false] 36)).alloc (.cells #[.int .i64 0, .int .i64 0, .int .i64 0, .int .i64 0, .bool false] 38)
  have B1 := (Blk.new (w.alloc (.cells #[.slice a c.r.xs.length ca, .slice b c.r.ys.length cb, .int .i64 c.r.o, .int .i64 c.r.p, .int .i64 c.r.f, .int .i64 c.r.m, .bool c.r.s, .bool c.r.t, .slice e c.bx.length ce, .slice q c.bm cq, .bool c.st, .bool c.ha] 36)) #[.slice none 0 0, .slice none 0 0, .int .i64 0, .int .i64 0, .int .i64 0, .int .i64 0, .bool false, .bool false, .slice none 0 0, .slice none 0 0, .bool false, .bool false] 36).alloc (.cells #[.int .i64 0, .int .i64 0, .int .i64 0, .int .i64 0, .bool false] 38)
  have B2 := Blk.new ((w.alloc (.cells #[.slice a c.r.xs.length ca, .slice b c.r.ys.length cb, .int .i64 c.r.o, .int .i64 c.r.p, .int .i64 c.r.f, .int .i64 c.r.m, .bool c.r.s, .bool c.r.t, .slice e c.bx.length ce, .slice q c.bm cq, .bool c.st, .bool c.ha] 36)).alloc (.cells #[.slice none 0 0, .slice none 0 0, .int .i64 0, .int .i64 0, .int .i64 0, .int .i64 0, .bool false, .bool false, .slice none 0 0, .slice none 0 0, .bool false, .bool false] 36)) #[.int .i64 0, .int .i64 0, .int .i64 0, .int .i64 0, .bool false] 38
  simp only [World.size_alloc] at B1 B2
  obtain ⟨X, hX⟩ : ∃ X : World, ((w.alloc (.cells #[.slice a c.r.xs.length ca, .slice b c.r.ys.length cb, .int .i64 c.r.o, .int .i64 c.r.p, .int .i64 c.r.f, .int .i64 c.r.m, .bool c.r.s, .bool c.r.t, .slice e c.bx.length ce, .slice q c.bm cq, .bool c.st, .bool c.ha] 36)).alloc (.cells #[.slice none 0 0, .slice none 0 0, .int .i64 0, .int .i64 0, .int .i64 0, .int .i64 0, .bool false, .bool false, .slice none 0 0, .slice none 0 0, .bool false, .bool false] 36)).alloc (.cells #[.int .i64 0, .int .i64 0, .int .i64 0, .int .i64 0, .bool false] 38) = X := ⟨_, rfl⟩
  rw [hX] at K0 B0 B1 B2
  have HXS : Hid (X.heap.size = w.heap.size + 3) := hide (by rw [← hX]; simp)
  have HB0 := hide B0
  have HB1 := hide B1
  have HB2 := hide B2
  have HA := hide (ha.keptS K0.out)
  have HB := hide (hb.keptS K0.out)
  have HE := hide (he.keptS K0.out)
  have HQ := hide (hq.keptS K0.out)
  clear B0 B1 B2 ha hb he hq
  have i0 := HB0.out.cell (i := 0) rfl
  have i1 := HB0.out.cell (i := 1) rfl
  have i2 := HB0.out.cell (i := 2) rfl
  have i3 := HB0.out.cell (i := 3) rfl
  have i4 := HB0.out.cell (i := 4) rfl
  have i5 := HB0.out.cell (i := 5) rfl
  have i6 := HB0.out.cell (i := 6) rfl
  have i7 := HB0.out.cell (i := 7) rfl
  have i8 := HB0.out.cell (i := 8) rfl
  have i9 := HB0.out.cell (i := 9) rfl
  have i10 := HB0.out.cell (i := 10) rfl
  have i11 := HB0.out.cell (i := 11) rfl
  go_enter Tryz.func6, Tryz.ntmps6
  go_wp2_with (first | (go_at_call 18; have z9 := HK1; refine (HST _ HA1.out HBB1.out HE1.out HQ1.out).mono ?_; unfold cpuC ftC; rintro e9 W2 ⟨gd, cd, ga, cA, g1, c1, g2, c2, mid, rfl, hc9, k9⟩; have HC := hide hc9; have HK2 := hide (HK1.out.trans k9); have HP1 := hide (HO1.out.kept0 k9); have HP2 := hide (HO2.out.kept0 k9); have HSz2 := hide k9.size; have KZ := kept_new (kept_alloc W2 (.cells #[.slice (some ⟨gd, 0, none⟩) 4 cd, .slice (some ⟨ga, 0, none⟩) 4 cA, .int .i64 (Pl.stepC c).r.o, .int .i64 (Pl.stepC c).r.p, .int .i64 (Pl.stepC c).r.f, .int .i64 (Pl.stepC c).r.m, .bool (Pl.stepC c).r.s, .bool (Pl.stepC c).r.t, .slice (some ⟨g1, 0, none⟩) 512 c1, .slice (some ⟨g2, 0, none⟩) (Pl.stepC c).bm c2, .bool (Pl.stepC c).st, .bool (Pl.stepC c).ha] 36)) (.cells #[.int .i64 (Pl.stepF c).v, .int .i64 (Pl.stepF c).pc, .int .i64 (Pl.stepF c).ad, .int .i64 (Pl.stepF c).wo, .bool (Pl.stepF c).wr] 38); have BM := (Blk.new W2 #[.slice (some ⟨gd, 0, none⟩) 4 cd, .slice (some ⟨ga, 0, none⟩) 4 cA, .int .i64 (Pl.stepC c).r.o, .int .i64 (Pl.stepC c).r.p, .int .i64 (Pl.stepC c).r.f, .int .i64 (Pl.stepC c).r.m, .bool (Pl.stepC c).r.s, .bool (Pl.stepC c).r.t, .slice (some ⟨g1, 0, none⟩) 512 c1, .slice (some ⟨g2, 0, none⟩) (Pl.stepC c).bm c2, .bool (Pl.stepC c).st, .bool (Pl.stepC c).ha] 36).alloc (.cells #[.int .i64 (Pl.stepF c).v, .int .i64 (Pl.stepF c).pc, .int .i64 (Pl.stepF c).ad, .int .i64 (Pl.stepF c).wo, .bool (Pl.stepF c).wr] 38); have BN := Blk.new (W2.alloc (.cells #[.slice (some ⟨gd, 0, none⟩) 4 cd, .slice (some ⟨ga, 0, none⟩) 4 cA, .int .i64 (Pl.stepC c).r.o, .int .i64 (Pl.stepC c).r.p, .int .i64 (Pl.stepC c).r.f, .int .i64 (Pl.stepC c).r.m, .bool (Pl.stepC c).r.s, .bool (Pl.stepC c).r.t, .slice (some ⟨g1, 0, none⟩) 512 c1, .slice (some ⟨g2, 0, none⟩) (Pl.stepC c).bm c2, .bool (Pl.stepC c).st, .bool (Pl.stepC c).ha] 36)) #[.int .i64 (Pl.stepF c).v, .int .i64 (Pl.stepF c).pc, .int .i64 (Pl.stepF c).ad, .int .i64 (Pl.stepF c).wo, .bool (Pl.stepF c).wr] 38; simp only [World.size_alloc] at BN; obtain ⟨Z, hZ⟩ : ∃ Z : World, (W2.alloc (.cells #[.slice (some ⟨gd, 0, none⟩) 4 cd, .slice (some ⟨ga, 0, none⟩) 4 cA, .int .i64 (Pl.stepC c).r.o, .int .i64 (Pl.stepC c).r.p, .int .i64 (Pl.stepC c).r.f, .int .i64 (Pl.stepC c).r.m, .bool (Pl.stepC c).r.s, .bool (Pl.stepC c).r.t, .slice (some ⟨g1, 0, none⟩) 512 c1, .slice (some ⟨g2, 0, none⟩) (Pl.stepC c).bm c2, .bool (Pl.stepC c).st, .bool (Pl.stepC c).ha] 36)).alloc (.cells #[.int .i64 (Pl.stepF c).v, .int .i64 (Pl.stepF c).pc, .int .i64 (Pl.stepF c).ad, .int .i64 (Pl.stepF c).wo, .bool (Pl.stepF c).wr] 38) = Z := ⟨_, rfl⟩; rw [hZ] at KZ BM BN; have HM := hide BM; have HN := hide BN; have HQ1Z := hide (HP1.out.kept0 KZ); have HQ2Z := hide (HP2.out.kept0 KZ); have HCZ := hide (hc9.any KZ); have HKZ := hide (HK2.out.trans KZ); have HKS := hide KZ.size; have hsz2 := HP2.out.lt; clear hc9 k9 KZ BM BN i0 i1 i2 i3 i4 i5 i6 i7 i8 i9 i10 i11; clear o0 of0 o1 of1 o2 of2 o3 of3 o4 of4 o5 of5 o6 of6 o7 of7 o8 of8 o9 of9 o10 of10 o11 of11 y0 yf0 y1 yf1 y2 yf2 y3 yf3 y4 yf4; have m0 := HM.out.cell (i := 0) rfl; have m1 := HM.out.cell (i := 1) rfl; have m2 := HM.out.cell (i := 2) rfl; have m3 := HM.out.cell (i := 3) rfl; have m4 := HM.out.cell (i := 4) rfl; have m5 := HM.out.cell (i := 5) rfl; have m6 := HM.out.cell (i := 6) rfl; have m7 := HM.out.cell (i := 7) rfl; have m8 := HM.out.cell (i := 8) rfl; have m9 := HM.out.cell (i := 9) rfl; have m10 := HM.out.cell (i := 10) rfl; have m11 := HM.out.cell (i := 11) rfl; have n0 := HN.out.cell (i := 0) rfl; have n1 := HN.out.cell (i := 1) rfl; have n2 := HN.out.cell (i := 2) rfl; have n3 := HN.out.cell (i := 3) rfl; have n4 := HN.out.cell (i := 4) rfl; have o0 := HQ1Z.out.cell (i := 0) rfl; have of0 := HQ1Z.out.frozen 0; have o1 := HQ1Z.out.cell (i := 1) rfl; have of1 := HQ1Z.out.frozen 1; have o2 := HQ1Z.out.cell (i := 2) rfl; have of2 := HQ1Z.out.frozen 2; have o3 := HQ1Z.out.cell (i := 3) rfl; have of3 := HQ1Z.out.frozen 3; have o4 := HQ1Z.out.cell (i := 4) rfl; have of4 := HQ1Z.out.frozen 4; have o5 := HQ1Z.out.cell (i := 5) rfl; have of5 := HQ1Z.out.frozen 5; have o6 := HQ1Z.out.cell (i := 6) rfl; have of6 := HQ1Z.out.frozen 6; have o7 := HQ1Z.out.cell (i := 7) rfl; have of7 := HQ1Z.out.frozen 7; have o8 := HQ1Z.out.cell (i := 8) rfl; have of8 := HQ1Z.out.frozen 8; have o9 := HQ1Z.out.cell (i := 9) rfl; have of9 := HQ1Z.out.frozen 9; have o10 := HQ1Z.out.cell (i := 10) rfl; have of10 := HQ1Z.out.frozen 10; have o11 := HQ1Z.out.cell (i := 11) rfl; have of11 := HQ1Z.out.frozen 11; have y0 := HQ2Z.out.cell (i := 0) rfl; have yf0 := HQ2Z.out.frozen 0; have y1 := HQ2Z.out.cell (i := 1) rfl; have yf1 := HQ2Z.out.frozen 1; have y2 := HQ2Z.out.cell (i := 2) rfl; have yf2 := HQ2Z.out.frozen 2; have y3 := HQ2Z.out.cell (i := 3) rfl; have yf3 := HQ2Z.out.frozen 3; have y4 := HQ2Z.out.cell (i := 4) rfl; have yf4 := HQ2Z.out.frozen 4) | (go_at_call 17; refine (specGoodCpu _ c a b e q ca cb ce cq HA.out HB.out HE.out HQ.out lx ly lb ll lm).mono ?_; rintro e9 W ⟨rfl, k9⟩; rw [h1]; have HK1 := hide (K0.out.trans k9); have HI1 := hide (HB0.out.kept0 k9); have HO1 := hide (HB1.out.kept0 k9); have HO2 := hide (HB2.out.kept0 k9); have hs1 := HO2.out.lt; have HSz := hide k9.size; have HA1 := hide (HA.out.keptS k9); have HBB1 := hide (HB.out.keptS k9); have HE1 := hide (HE.out.keptS k9); have HQ1 := hide (HQ.out.keptS k9); clear k9 i0 i1 i2 i3 i4 i5 i6 i7 i8 i9 i10 i11; have i0 := HI1.out.cell (i := 0) rfl; have i1 := HI1.out.cell (i := 1) rfl; have i2 := HI1.out.cell (i := 2) rfl; have i3 := HI1.out.cell (i := 3) rfl; have i4 := HI1.out.cell (i := 4) rfl; have i5 := HI1.out.cell (i := 5) rfl; have i6 := HI1.out.cell (i := 6) rfl; have i7 := HI1.out.cell (i := 7) rfl; have i8 := HI1.out.cell (i := 8) rfl; have i9 := HI1.out.cell (i := 9) rfl; have i10 := HI1.out.cell (i := 10) rfl; have i11 := HI1.out.cell (i := 11) rfl; have o0 := HO1.out.cell (i := 0) rfl; have of0 := HO1.out.frozen 0; have o1 := HO1.out.cell (i := 1) rfl; have of1 := HO1.out.frozen 1; have o2 := HO1.out.cell (i := 2) rfl; have of2 := HO1.out.frozen 2; have o3 := HO1.out.cell (i := 3) rfl; have of3 := HO1.out.frozen 3; have o4 := HO1.out.cell (i := 4) rfl; have of4 := HO1.out.frozen 4; have o5 := HO1.out.cell (i := 5) rfl; have of5 := HO1.out.frozen 5; have o6 := HO1.out.cell (i := 6) rfl; have of6 := HO1.out.frozen 6; have o7 := HO1.out.cell (i := 7) rfl; have of7 := HO1.out.frozen 7; have o8 := HO1.out.cell (i := 8) rfl; have of8 := HO1.out.frozen 8; have o9 := HO1.out.cell (i := 9) rfl; have of9 := HO1.out.frozen 9; have o10 := HO1.out.cell (i := 10) rfl; have of10 := HO1.out.frozen 10; have o11 := HO1.out.cell (i := 11) rfl; have of11 := HO1.out.frozen 11; have y0 := HO2.out.cell (i := 0) rfl; have yf0 := HO2.out.frozen 0; have y1 := HO2.out.cell (i := 1) rfl; have yf1 := HO2.out.frozen 1; have y2 := HO2.out.cell (i := 2) rfl; have yf2 := HO2.out.frozen 2; have y3 := HO2.out.cell (i := 3) rfl; have yf3 := HO2.out.frozen 3; have y4 := HO2.out.cell (i := 4) rfl; have yf4 := HO2.out.frozen 4; rw [H2.out] at i10; rw [H3.out] at i11))
  go_region
  go_wp2_with fail
  have hxs := HXS.out
  have hz1 := HSz.out
  have hz2 := HSz2.out
  refine bodyPost_ret (v := .tuple #[.agg (cpuV (Pl.scC c) (some ⟨gd, 0, none⟩) (some ⟨ga, 0, none⟩) (some ⟨g1, 0, none⟩) (some ⟨g2, 0, none⟩) cd cA c1 c2), .agg (ftC (Pl.scF c)), .bool (Pl.scOk c)]) ?_ rfl ⟨some ⟨gd, 0, none⟩, some ⟨ga, 0, none⟩, some ⟨g1, 0, none⟩, some ⟨g2, 0, none⟩, cd, cA, c1, c2, rfl, ?co, ?kw⟩
  case co =>
    rw [EC.out]
    refine (HCZ.out.pastS (lo := w.heap.size) (x := w.heap.size + 1) (y := w.heap.size + 3) (by omega) (by omega) ?_).cpuIn
    refine kept_drew ?_
    repeat (first | with_reducible exact Kept.refl _ _ _ | refine kept_set ?_ _ _ _ (.inl (by omega)))
  case kw =>
    refine kept_drew ?_
    repeat (first | with_reducible exact HKZ.out | refine kept_set ?_ _ _ _ (.inr (by omega)))
  rw [results_cell2_tmp rfl, EC.out, EF.out, EO.out]; unfold cpuV; rw [LN.out.1, LN.out.2.1, LN.out.2.2]; go_simp; first | rfl | exact ⟨rfl, rfl⟩
theorem specStepCpu (w : World) (c : Pl.Cp) (a b e q : Option Addr) (ca cb ce cq : Nat) (ha : IRow w a c.r.xs) (hb : IRow w b c.r.ys) (he : IRow w e c.bx) (hq : IRow w q c.bl) (lx : c.r.xs.length ≤ 2000000) (ly : c.r.ys.length ≤ 2000000) (lb : c.bx.length ≤ 2000000) (ll : c.bl.length = 5 * c.bm) (lm : c.bm ≤ 2000000) :
    Calls Tryz.prog 6 #[.agg #[.slice a c.r.xs.length ca, .slice b c.r.ys.length cb, .int .i64 c.r.o, .int .i64 c.r.p, .int .i64 c.r.f, .int .i64 c.r.m, .bool c.r.s, .bool c.r.t, .slice e c.bx.length ce, .slice q c.bm cq, .bool c.st, .bool c.ha]] w fun r w' => ∃ (a' b' e' q' : Option Addr) (ca' cb' ce' cq' : Nat), r = .returned (.tuple #[.agg (cpuV (Pl.scC c) a' b' e' q' ca' cb' ce' cq'), .agg (ftC (Pl.scF c)), .bool (Pl.scOk c)]) ∧ CpuIn w' w.heap.size (Pl.scC c) a' b' e' q' ∧ Kept 0 0 w w' := by
  cases h1 : Pl.cpOk c
  · exact specStepCpu_bad w c a b e q ca cb ce cq ha hb he hq lx ly lb ll lm h1
  · rcases Bool.eq_false_or_eq_true c.st with h2 | h2
    · exact specStepCpu_stop w c a b e q ca cb ce cq ha hb he hq lx ly lb ll lm h1 h2
    · rcases Bool.eq_false_or_eq_true c.ha with h3 | h3
      · exact specStepCpu_halt w c a b e q ca cb ce cq ha hb he hq lx ly lb ll lm h1 h2 h3
      · exact specStepCpu_ok w c a b e q ca cb ce cq ha hb he hq lx ly lb ll lm h1 h2 h3
end Go.Proofs.YtblddehlkaolbaaGreatDoor

