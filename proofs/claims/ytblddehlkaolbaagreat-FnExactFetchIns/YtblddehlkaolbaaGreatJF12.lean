/- What the model's FetchIns answers, for every processor. What the laws' own functions over lists of Ins do (structs of 7 whole numbers, laid one behind the other): compare, copy, mark. A list of n is spoken of as the row of its 7 * n numbers. Registers whose numbers are ints. What the program's tests of words, sizes and register numbers answer; none changes the world. What the program's wrapWord answers. What the program's small functions of chapter 6 answer: tests of numbers and registers; no old block is changed. What the program's GoodRegs answers, for all registers. The program's registers as one value (fourteen cells): how they are laid out and read. The program's processor that is worked on, as it lies in memory: one block (fourteen cells of registers, the bytes, the log, two more), and the log's own. What the program's small functions of chapter 4 answer: addresses, parts, accesses; none writes. What the program's tests of bytes answer; none changes the world. What the program's GoodBus answers, for every bus. What the program's functions over the bytes of a bus as one array answer. What the program's small functions of an access answer: its code; a value read. -/
import Derived.Test.YtblddehlkaolbaaGreatJF11
import Derived.Test.YtblddehlkaolbaaGreatJF1
import Derived.Test.YtblddehlkaolbaaGreatJF4
import Derived.Test.YtblddehlkaolbaaGreatJF3
import Derived.Laws.CopyOwn
import Derived.Laws.Rows
import Derived.Laws.Tables
import Derived.Test.YtblddehlkaolbaaGreatJF2
import Derived.Deep.WholeRow
import Derived.Deep.RegionLawGrows
import Derived.Deep.RegionHeld3
import Derived.Deep.MidRow
namespace Go.Proofs.YtblddehlkaolbaaGreat
open Go.RowKit
set_option linter.unusedVariables false
def Pl.fiG (c : Pl.Cp) : Bool := Pl.cpOk c && (Pl.Mc.ofC c).fetch.fine
def Pl.fiI (c : Pl.Cp) : Pl.In := bif Pl.fiG c then (Pl.Mc.ofC c).fetI else Pl.inNo
def Pl.fiN (c : Pl.Cp) : Int := bif Pl.fiG c then (Pl.Mc.ofC c).fetN else 0
def Pl.fiF (c : Pl.Cp) : Pl.Ft := bif Pl.cpOk c && !(Pl.Mc.ofC c).fetch.fine then (Pl.Mc.ofC c).fetch.f else Pl.ftNo
set_option maxRecDepth 100000 in
set_option maxHeartbeats 4000000 in
theorem specFetchIns_bad (w : World) (c : Pl.Cp) (a b e q : Option Addr) (ca cb ce cq : Nat) (ha : IRow w a c.r.xs) (hb : IRow w b c.r.ys) (he : IRow w e c.bx) (hq : IRow w q c.bl) (lx : c.r.xs.length ≤ 2000000) (ly : c.r.ys.length ≤ 2000000) (lb : c.bx.length ≤ 2000000) (ll : c.bl.length = 5 * c.bm) (lm : c.bm ≤ 2000000) (h1 : Pl.cpOk c = false) :
    Calls Tryz.prog 5 #[.agg #[.slice a c.r.xs.length ca, .slice b c.r.ys.length cb, .int .i64 c.r.o, .int .i64 c.r.p, .int .i64 c.r.f, .int .i64 c.r.m, .bool c.r.s, .bool c.r.t, .slice e c.bx.length ce, .slice q c.bm cq, .bool c.st, .bool c.ha]] w fun r w' => r = .returned (.tuple #[.agg (insC (Pl.fiI c)), .int .i64 (Pl.fiN c), .agg (ftC (Pl.fiF c)), .bool (Pl.cpOk c)]) ∧ Kept 0 0 w w' := by
  have EG : Hid (Pl.fiG c = false) := hide (by unfold Pl.fiG; rw [h1]; rfl)
  have EI : Hid (Pl.fiI c = Pl.inNo) := hide (by unfold Pl.fiI; rw [EG.out]; rfl)
  have EN : Hid (Pl.fiN c = 0) := hide (by unfold Pl.fiN; rw [EG.out]; rfl)
  have EF : Hid (Pl.fiF c = Pl.ftNo) := hide (by unfold Pl.fiF; rw [h1]; rfl)
  have H1 := hide h1
  clear h1
  have K0 := hide (kept_new (kept_new (kept_alloc w (.cells #[.slice a c.r.xs.length ca, .slice b c.r.ys.length cb, .int .i64 c.r.o, .int .i64 c.r.p, .int .i64 c.r.f, .int .i64 c.r.m, .bool c.r.s, .bool c.r.t, .slice e c.bx.length ce, .slice q c.bm cq, .bool c.st, .bool c.ha] 44)) (.cells #[.int .i64 0, .int .i64 0, .int .i64 0, .int .i64 0, .int .i64 0, .int .i64 0, .int .i64 0] 34)) (.cells #[.int .i64 0, .int .i64 0, .int .i64 0, .int .i64 0, .bool false] 36))
  have B0 := ((Blk.new w #[.slice a c.r.xs.length ca, .slice b c.r.ys.length cb, .int .i64 c.r.o, .int .i64 c.r.p, .int .i64 c.r.f, .int .i64 c.r.m, .bool c.r.s, .bool c.r.t, .slice e c.bx.length ce, .slice q c.bm cq, .bool c.st, .bool c.ha] 44).alloc (.cells #[.int .i64 0, .int .i64 0, .int .i64 0, .int .i64 0, .int .i64 0, .int .i64 0, .int .i64 0] 34)).alloc (.cells #[.int .i64 0, .int .i64 0, .int .i64 0, .int .i64 0, .bool false] 36)
  have B1 := (Blk.new (w.alloc (.cells #[.slice a c.r.xs.length ca, .slice b c.r.ys.length cb, .int .i64 c.r.o, .int .i64 c.r.p, .int .i64 c.r.f, .int .i64 c.r.m, .bool c.r.s, .bool c.r.t, .slice e c.bx.length ce, .slice q c.bm cq, .bool c.st, .bool c.ha] 44)) #[.int .i64 0, .int .i64 0, .int .i64 0, .int .i64 0, .int .i64 0, .int .i64 0, .int .i64 0] 34).alloc (.cells #[.int .i64 0, .int .i64 0, .int .i64 0, .int .i64 0, .bool false] 36)
  have B2 := Blk.new ((w.alloc (.cells #[.slice a c.r.xs.length ca, .slice b c.r.ys.length cb, .int .i64 c.r.o, .int .i64 c.r.p, .int .i64 c.r.f, .int .i64 c.r.m, .bool c.r.s, .bool c.r.t, .slice e c.bx.length ce, .slice q c.bm cq, .bool c.st, .bool c.ha] 44)).alloc (.cells #[.int .i64 0, .int .i64 0, .int .i64 0, .int .i64 0, .int .i64 0, .int .i64 0, .int .i64 0] 34)) #[.int .i64 0, .int .i64 0, .int .i64 0, .int .i64 0, .bool false] 36
  simp only [World.size_alloc] at B1 B2
  obtain ⟨X, hX⟩ : ∃ X : World, ((w.alloc (.cells #[.slice a c.r.xs.length ca, .slice b c.r.ys.length cb, .int .i64 c.r.o, .int .i64 c.r.p, .int .i64 c.r.f, .int .i64 c.r.m, .bool c.r.s, .bool c.r.t, .slice e c.bx.length ce, .slice q c.bm cq, .bool c.st, .bool c.ha] 44)).alloc (.cells #[.int .i64 0, .int .i64 0, .int .i64 0, .int .i64 0, .int .i64 0, .int .i64 0, .int .i64 0] 34)).alloc (.cells #[.int .i64 0, .int .i64 0, .int .i64 0, .int .i64 0, .bool false] 36) = X := ⟨_, rfl⟩
  rw [hX] at K0 B0 B1 B2
  have HXS : Hid (X.heap.size = w.heap.size + 3) := hide (by rw [← hX]; simp)
  have HB0 := hide B0
  have HB1 := hide B1
  have HB2 := hide B2
  have HA := hide (ha.keptS K0.out)
  have HB := hide (hb.keptS K0.out)
  have HE := hide (he.keptS K0.out)
  have HQ := hide (hq.keptS K0.out)
  clear B0 B1 B2 ha hb he hq
  have i0 := HB0.out.cell (i := 0) rfl
  have i1 := HB0.out.cell (i := 1) rfl
  have i2 := HB0.out.cell (i := 2) rfl
  have i3 := HB0.out.cell (i := 3) rfl
  have i4 := HB0.out.cell (i := 4) rfl
  have i5 := HB0.out.cell (i := 5) rfl
  have i6 := HB0.out.cell (i := 6) rfl
  have i7 := HB0.out.cell (i := 7) rfl
  have i8 := HB0.out.cell (i := 8) rfl
  have i9 := HB0.out.cell (i := 9) rfl
  have i10 := HB0.out.cell (i := 10) rfl
  have i11 := HB0.out.cell (i := 11) rfl
  go_enter Tryz.func5, Tryz.ntmps5
  go_wp2_with fail
  refine (specGoodCpu _ c a b e q ca cb ce cq HA.out HB.out HE.out HQ.out lx ly lb ll lm).mono ?_
  rintro e9 W ⟨rfl, k9⟩
  rw [H1.out]
  have HK1 := hide (K0.out.trans k9)
  have HI1 := hide (HB0.out.kept0 k9)
  have HR1 := hide (HB1.out.kept0 k9)
  have HF1 := hide (HB2.out.kept0 k9)
  have hsW := k9.size
  have HA1 := hide (HA.out.keptS k9)
  have HBB1 := hide (HB.out.keptS k9)
  have HE1 := hide (HE.out.keptS k9)
  have HQ1 := hide (HQ.out.keptS k9)
  have hxs := HXS.out
  clear k9 i0 i1 i2 i3 i4 i5 i6 i7 i8 i9 i10 i11
  have r0 := HR1.out.cell (i := 0) rfl
  have rf0 := HR1.out.frozen 0
  have r1 := HR1.out.cell (i := 1) rfl
  have rf1 := HR1.out.frozen 1
  have r2 := HR1.out.cell (i := 2) rfl
  have rf2 := HR1.out.frozen 2
  have r3 := HR1.out.cell (i := 3) rfl
  have rf3 := HR1.out.frozen 3
  have r4 := HR1.out.cell (i := 4) rfl
  have rf4 := HR1.out.frozen 4
  have r5 := HR1.out.cell (i := 5) rfl
  have rf5 := HR1.out.frozen 5
  have r6 := HR1.out.cell (i := 6) rfl
  have rf6 := HR1.out.frozen 6
  have y0 := HF1.out.cell (i := 0) rfl
  have yf0 := HF1.out.frozen 0
  have y1 := HF1.out.cell (i := 1) rfl
  have yf1 := HF1.out.frozen 1
  have y2 := HF1.out.cell (i := 2) rfl
  have yf2 := HF1.out.frozen 2
  have y3 := HF1.out.cell (i := 3) rfl
  have yf3 := HF1.out.frozen 3
  have y4 := HF1.out.cell (i := 4) rfl
  have yf4 := HF1.out.frozen 4
  go_wp2_with fail
  refine bodyPost_ret (v := .tuple #[.agg (insC (Pl.fiI c)), .int .i64 (Pl.fiN c), .agg (ftC (Pl.fiF c)), .bool (Pl.cpOk c)]) ?_ rfl ⟨rfl, ?kw⟩
  case kw =>
    repeat (first | with_reducible exact HK1.out | refine kept_set ?_ _ _ _ (.inr (by omega)))
  rw [results_cell_t_cell_t rfl, EI.out, EN.out, EF.out, H1.out]; unfold insC ftC; go_simp; first | rfl | exact ⟨rfl, rfl⟩ | (repeat' apply And.intro) <;> rfl
set_option maxRecDepth 100000 in
set_option maxHeartbeats 8000000 in
theorem specFetchIns_ok (w : World) (c : Pl.Cp) (a b e q : Option Addr) (ca cb ce cq : Nat) (ha : IRow w a c.r.xs) (hb : IRow w b c.r.ys) (he : IRow w e c.bx) (hq : IRow w q c.bl) (lx : c.r.xs.length ≤ 2000000) (ly : c.r.ys.length ≤ 2000000) (lb : c.bx.length ≤ 2000000) (ll : c.bl.length = 5 * c.bm) (lm : c.bm ≤ 2000000) (h1 : Pl.cpOk c = true) (h2 : (Pl.Mc.ofC c).fetch.fine = true) :
    Calls Tryz.prog 5 #[.agg #[.slice a c.r.xs.length ca, .slice b c.r.ys.length cb, .int .i64 c.r.o, .int .i64 c.r.p, .int .i64 c.r.f, .int .i64 c.r.m, .bool c.r.s, .bool c.r.t, .slice e c.bx.length ce, .slice q c.bm cq, .bool c.st, .bool c.ha]] w fun r w' => r = .returned (.tuple #[.agg (insC (Pl.fiI c)), .int .i64 (Pl.fiN c), .agg (ftC (Pl.fiF c)), .bool (Pl.cpOk c)]) ∧ Kept 0 0 w w' := by
  have EG : Hid (Pl.fiG c = true) := hide (by unfold Pl.fiG; rw [h1, h2]; rfl)
  have EI : Hid (Pl.fiI c = (Pl.Mc.ofC c).fetI) := hide (by unfold Pl.fiI; rw [EG.out]; rfl)
  have EN : Hid (Pl.fiN c = (Pl.Mc.ofC c).fetN) := hide (by unfold Pl.fiN; rw [EG.out]; rfl)
  have EF : Hid (Pl.fiF c = Pl.ftNo) := hide (by unfold Pl.fiF; rw [h1, h2]; rfl)
  have HG : Hid (Pl.GM (Pl.Mc.ofC c)) := hide (Pl.GM.of h1 ll c.st)
  have h4 : c.r.xs.length = 4 := HG.out.g.d4
  have h5 : c.r.ys.length = 4 := HG.out.g.a4
  have hbx : c.bx.length = 512 := HG.out.bx
  have hbm : c.bm ≤ 400 := HG.out.bm
  have HSTA : ∀ (w9 : World) (ra : IRow w9 a c.r.xs) (rb : IRow w9 b c.r.ys) (re : IRow w9 e c.bx) (rq : IRow w9 q c.bl), Calls Tryz.prog 14 #[.agg #[.slice a c.r.xs.length ca, .slice b c.r.ys.length cb, .int .i64 c.r.o, .int .i64 c.r.p, .int .i64 c.r.f, .int .i64 c.r.m, .bool c.r.s, .bool c.r.t, .slice e c.bx.length ce, .slice q c.bm cq, .bool c.st, .bool c.ha]] w9 fun r w' => ∃ mid p g2 : Nat, r = .returned (.pointer (some ⟨p, 0, none⟩)) ∧ MAt w' w9.heap.size mid w'.heap.size p g2 (Pl.Mc.ofC c) ∧ w9.heap.size ≤ p ∧ Kept 0 0 w9 w' := by
    intro w9 ra rb re rq
    have z := mStart w9 c a b e q ca cb ce cq ra rb re rq h4 h5 hbx ll hbm
    rw [h4, h5, hbx]
    exact z
  have H1 := hide h1
  have H2 := hide h2
  clear h4 h5 hbx hbm h1 h2
  have K0 := hide (kept_new (kept_new (kept_alloc w (.cells #[.slice a c.r.xs.length ca, .slice b c.r.ys.length cb, .int .i64 c.r.o, .int .i64 c.r.p, .int .i64 c.r.f, .int .i64 c.r.m, .bool c.r.s, .bool c.r.t, .slice e c.bx.length ce, .slice q c.bm cq, .bool c.st, .bool c.ha] 44)) (.cells #[.int .i64 0, .int .i64 0, .int .i64 0, .int .i64 0, .int .i64 0, .int .i64 0, .int .i64 0] 34)) (.cells #[.int .i64 0, .int .i64 0, .int .i64 0, .int .i64 0, .bool false] 36))
  have B0 := ((Blk.new w #[.slice a c.r.xs.length ca, .slice b c.r.ys.length cb, .int .i64 c.r.o, .int .i64 c.r.p, .int .i64 c.r.f, .int .i64 c.r.m, .bool c.r.s, .bool c.r.t, .slice e c.bx.length ce, .slice q c.bm cq, .bool c.st, .bool c.ha] 44).alloc (.cells #[.int .i64 0, .int .i64 0, .int .i64 0, .int .i64 0, .int .i64 0, .int .i64 0, .int .i64 0] 34)).alloc (.cells #[.int .i64 0, .int .i64 0, .int .i64 0, .int .i64 0, .bool false] 36)
  have B1 := (Blk.new (w.alloc (.cells #[.slice a c.r.xs.length ca, .slice b c.r.ys.length cb, .int .i64 c.r.o, .int .i64 c.r.p, .int .i64 c.r.f, .int .i64 c.r.m, .bool c.r.s, .bool c.r.t, .slice e c.bx.length ce, .slice q c.bm cq, .bool c.st, .bool c.ha] 44)) #[.int .i64 0, .int .i64 0, .int .i64 0, .int .i64 0, .int .i64 0, .int .i64 0, .int .i64 0] 34).alloc (.cells #[.int .i64 0, .int .i64 0, .int .i64 0, .int .i64 0, .bool false] 36)
  have B2 := Blk.new ((w.alloc (.cells #[.slice a c.r.xs.length ca, .slice b c.r.ys.length cb, .int .i64 c.r.o, .int .i64 c.r.p, .int .i64 c.r.f, .int .i64 c.r.m, .bool c.r.s, .bool c.r.t, .slice e c.bx.length ce, .slice q c.bm cq, .bool c.st, .bool c.ha] 44)).alloc (.cells #[.int .i64 0, .int .i64 0, .int .i64 0, .int .i64 0, .int .i64 0, .int .i64 0, .int .i64 0] 34)) #[.int .i64 0, .int .i64 0, .int .i64 0, .int .i64 0, .bool false] 36
  simp only [World.size_alloc] at B1 B2
  obtain ⟨X, hX⟩ : ∃ X : World, ((w.alloc (.cells #[.slice a c.r.xs.length ca, .slice b c.r.ys.length cb, .int .i64 c.r.o, .int .i64 c.r.p, .int .i64 c.r.f, .int .i64 c.r.m, .bool c.r.s, .bool c.r.t, .slice e c.bx.length ce, .slice q c.bm cq, .bool c.st, .bool c.ha] 44)).alloc (.cells #[.int .i64 0, .int .i64 0, .int .i64 0, .int .i64 0, .int .i64 0, .int .i64 0, .int .i64 0] 34)).alloc (.cells #[.int .i64 0, .int .i64 0, .int .i64 0, .int .i64 0, .bool false] 36) = X := ⟨_, rfl⟩
  rw [hX] at K0 B0 B1 B2
  have HXS : Hid (X.heap.size = w.heap.size + 3) := hide (by rw [← hX]; simp)
  have HB0 := hide B0
  have HB1 := hide B1
  have HB2 := hide B2
  have HA := hide (ha.keptS K0.out)
  have HB := hide (hb.keptS K0.out)
  have HE := hide (he.keptS K0.out)
  have HQ := hide (hq.keptS K0.out)
  clear B0 B1 B2 ha hb he hq
  have i0 := HB0.out.cell (i := 0) rfl
  have i1 := HB0.out.cell (i := 1) rfl
  have i2 := HB0.out.cell (i := 2) rfl
  have i3 := HB0.out.cell (i := 3) rfl
  have i4 := HB0.out.cell (i := 4) rfl
  have i5 := HB0.out.cell (i := 5) rfl
  have i6 := HB0.out.cell (i := 6) rfl
  have i7 := HB0.out.cell (i := 7) rfl
  have i8 := HB0.out.cell (i := 8) rfl
  have i9 := HB0.out.cell (i := 9) rfl
  have i10 := HB0.out.cell (i := 10) rfl
  have i11 := HB0.out.cell (i := 11) rfl
  go_enter Tryz.func5, Tryz.ntmps5
  go_wp2_with fail
  refine (specGoodCpu _ c a b e q ca cb ce cq HA.out HB.out HE.out HQ.out lx ly lb ll lm).mono ?_
  rintro e9 W ⟨rfl, k9⟩
  rw [H1.out]
  have HK1 := hide (K0.out.trans k9)
  have HI1 := hide (HB0.out.kept0 k9)
  have HR1 := hide (HB1.out.kept0 k9)
  have HF1 := hide (HB2.out.kept0 k9)
  have hsW := k9.size
  have HA1 := hide (HA.out.keptS k9)
  have HBB1 := hide (HB.out.keptS k9)
  have HE1 := hide (HE.out.keptS k9)
  have HQ1 := hide (HQ.out.keptS k9)
  have hxs := HXS.out
  clear k9 i0 i1 i2 i3 i4 i5 i6 i7 i8 i9 i10 i11
  have i0 := HI1.out.cell (i := 0) rfl
  have i1 := HI1.out.cell (i := 1) rfl
  have i2 := HI1.out.cell (i := 2) rfl
  have i3 := HI1.out.cell (i := 3) rfl
  have i4 := HI1.out.cell (i := 4) rfl
  have i5 := HI1.out.cell (i := 5) rfl
  have i6 := HI1.out.cell (i := 6) rfl
  have i7 := HI1.out.cell (i := 7) rfl
  have i8 := HI1.out.cell (i := 8) rfl
  have i9 := HI1.out.cell (i := 9) rfl
  have i10 := HI1.out.cell (i := 10) rfl
  have i11 := HI1.out.cell (i := 11) rfl
  go_wp2_with fail
  refine (HSTA _ HA1.out HBB1.out HE1.out HQ1.out).mono ?_
  rintro e9 W1 ⟨mid, p, g9, rfl, hm9, hp9, k9⟩
  have HM1 := hide hm9
  have HL1 := hide (below_kpt k9 (Nat.le_refl W.heap.size))
  clear hm9 k9 i0 i1 i2 i3 i4 i5 i6 i7 i8 i9 i10 i11
  go_wp2_with fail
  refine (mFetch _ W.heap.size mid W1.heap.size p g9 (Pl.Mc.ofC c) HM1.out HG.out).mono ?_
  rintro e9 W2 ⟨rfl, g8, hm9, hb9⟩
  have HM2 := hide hm9
  have HL2 := hide (HL1.out.trans (below_since hb9 HM1.out.logLo HL1.out.size))
  clear hm9 hb9
  unfold insC
  generalize hI : (Pl.Mc.ofC c).fetI = I
  generalize hN : (Pl.Mc.ofC c).fetN = N
  have HI := hide hI
  have HN := hide hN
  clear hI hN
  have KZ := kept_alloc W2 (.cells #[.int .i64 I.op, .int .i64 I.z, .int .i64 I.r, .int .i64 I.m, .int .i64 I.k, .int .i64 I.e, .int .i64 I.s] 34)
  have BZ := Blk.new W2 #[.int .i64 I.op, .int .i64 I.z, .int .i64 I.r, .int .i64 I.m, .int .i64 I.k, .int .i64 I.e, .int .i64 I.s] 34
  obtain ⟨Z, hZ⟩ : ∃ Z : World, W2.alloc (.cells #[.int .i64 I.op, .int .i64 I.z, .int .i64 I.r, .int .i64 I.m, .int .i64 I.k, .int .i64 I.e, .int .i64 I.s] 34) = Z := ⟨_, rfl⟩
  rw [hZ] at KZ BZ
  have HMZ := hide (HM2.out.any KZ)
  have HLZ := hide (HL2.out.trans (below_kpt KZ (Nat.le_trans (Nat.le_refl W.heap.size) HL2.out.size)))
  have HKZ := hide (kept_lower HK1.out HLZ.out HK1.out.size)
  have HBZ := hide BZ
  have HRZ := hide (HR1.out.below HLZ.out (by omega))
  have HFZ := hide (HF1.out.below HLZ.out (by omega))
  clear KZ BZ
  go_wp2_with fail
  refine (mFine _ W.heap.size mid W1.heap.size p g8 _ HMZ.out).mono ?_
  rintro e9 w9 ⟨rfl, hw⟩
  have hw2 := hw.symm
  clear hw
  subst hw2
  rw [H2.out]
  clear hZ
  have r0 := HRZ.out.cell (i := 0) rfl
  have rf0 := HRZ.out.frozen 0
  have r1 := HRZ.out.cell (i := 1) rfl
  have rf1 := HRZ.out.frozen 1
  have r2 := HRZ.out.cell (i := 2) rfl
  have rf2 := HRZ.out.frozen 2
  have r3 := HRZ.out.cell (i := 3) rfl
  have rf3 := HRZ.out.frozen 3
  have r4 := HRZ.out.cell (i := 4) rfl
  have rf4 := HRZ.out.frozen 4
  have r5 := HRZ.out.cell (i := 5) rfl
  have rf5 := HRZ.out.frozen 5
  have r6 := HRZ.out.cell (i := 6) rfl
  have rf6 := HRZ.out.frozen 6
  have y0 := HFZ.out.cell (i := 0) rfl
  have yf0 := HFZ.out.frozen 0
  have y1 := HFZ.out.cell (i := 1) rfl
  have yf1 := HFZ.out.frozen 1
  have y2 := HFZ.out.cell (i := 2) rfl
  have yf2 := HFZ.out.frozen 2
  have y3 := HFZ.out.cell (i := 3) rfl
  have yf3 := HFZ.out.frozen 3
  have y4 := HFZ.out.cell (i := 4) rfl
  have yf4 := HFZ.out.frozen 4
  have x0 := HBZ.out.cell (i := 0) rfl
  have x1 := HBZ.out.cell (i := 1) rfl
  have x2 := HBZ.out.cell (i := 2) rfl
  have x3 := HBZ.out.cell (i := 3) rfl
  have x4 := HBZ.out.cell (i := 4) rfl
  have x5 := HBZ.out.cell (i := 5) rfl
  have x6 := HBZ.out.cell (i := 6) rfl
  go_wp2_with fail
  have hl2 := HL2.out.size
  refine bodyPost_ret (v := .tuple #[.agg (insC (Pl.fiI c)), .int .i64 (Pl.fiN c), .agg (ftC (Pl.fiF c)), .bool (Pl.cpOk c)]) ?_ rfl ⟨rfl, ?kw⟩
  case kw =>
    repeat (first | with_reducible exact HKZ.out | refine kept_set ?_ _ _ _ (.inr (by omega)))
  rw [results_cell_t_cell_t rfl, EI.out, EN.out, EF.out, H1.out, HI.out, HN.out]; unfold insC ftC; go_simp; first | rfl | exact ⟨rfl, rfl⟩ | (repeat' apply And.intro) <;> rfl
set_option maxRecDepth 100000 in
set_option maxHeartbeats 8000000 in
theorem specFetchIns_fault (w : World) (c : Pl.Cp) (a b e q : Option Addr) (ca cb ce cq : Nat) (ha : IRow w a c.r.xs) (hb : IRow w b c.r.ys) (he : IRow w e c.bx) (hq : IRow w q c.bl) (lx : c.r.xs.length ≤ 2000000) (ly : c.r.ys.length ≤ 2000000) (lb : c.bx.length ≤ 2000000) (ll : c.bl.length = 5 * c.bm) (lm : c.bm ≤ 2000000) (h1 : Pl.cpOk c = true) (h2 : (Pl.Mc.ofC c).fetch.fine = false) :
    Calls Tryz.prog 5 #[.agg #[.slice a c.r.xs.length ca, .slice b c.r.ys.length cb, .int .i64 c.r.o, .int .i64 c.r.p, .int .i64 c.r.f, .int .i64 c.r.m, .bool c.r.s, .bool c.r.t, .slice e c.bx.length ce, .slice q c.bm cq, .bool c.st, .bool c.ha]] w fun r w' => r = .returned (.tuple #[.agg (insC (Pl.fiI c)), .int .i64 (Pl.fiN c), .agg (ftC (Pl.fiF c)), .bool (Pl.cpOk c)]) ∧ Kept 0 0 w w' := by
  have EG : Hid (Pl.fiG c = false) := hide (by unfold Pl.fiG; rw [h1, h2]; rfl)
  have EI : Hid (Pl.fiI c = Pl.inNo) := hide (by unfold Pl.fiI; rw [EG.out]; rfl)
  have EN : Hid (Pl.fiN c = 0) := hide (by unfold Pl.fiN; rw [EG.out]; rfl)
  have EF : Hid (Pl.fiF c = (Pl.Mc.ofC c).fetch.f) := hide (by unfold Pl.fiF; rw [h1, h2]; rfl)
  have HG : Hid (Pl.GM (Pl.Mc.ofC c)) := hide (Pl.GM.of h1 ll c.st)
  have h4 : c.r.xs.length = 4 := HG.out.g.d4
  have h5 : c.r.ys.length = 4 := HG.out.g.a4
  have hbx : c.bx.length = 512 := HG.out.bx
  have hbm : c.bm ≤ 400 := HG.out.bm
  have HSTA : ∀ (w9 : World) (ra : IRow w9 a c.r.xs) (rb : IRow w9 b c.r.ys) (re : IRow w9 e c.bx) (rq : IRow w9 q c.bl), Calls Tryz.prog 14 #[.agg #[.slice a c.r.xs.length ca, .slice b c.r.ys.length cb, .int .i64 c.r.o, .int .i64 c.r.p, .int .i64 c.r.f, .int .i64 c.r.m, .bool c.r.s, .bool c.r.t, .slice e c.bx.length ce, .slice q c.bm cq, .bool c.st, .bool c.ha]] w9 fun r w' => ∃ mid p g2 : Nat, r = .returned (.pointer (some ⟨p, 0, none⟩)) ∧ MAt w' w9.heap.size mid w'.heap.size p g2 (Pl.Mc.ofC c) ∧ w9.heap.size ≤ p ∧ Kept 0 0 w9 w' := by
    intro w9 ra rb re rq
    have z := mStart w9 c a b e q ca cb ce cq ra rb re rq h4 h5 hbx ll hbm
    rw [h4, h5, hbx]
    exact z
  have H1 := hide h1
  have H2 := hide h2
  clear h4 h5 hbx hbm h1 h2
  have K0 := hide (kept_new (kept_new (kept_alloc w (.cells #[.slice a c.r.xs.length ca, .slice b c.r.ys.length cb, .int .i64 c.r.o, .int .i64 c.r.p, .int .i64 c.r.f, .int .i64 c.r.m, .bool c.r.s, .bool c.r.t, .slice e c.bx.length ce, .slice q c.bm cq, .bool c.st, .bool c.ha] 44)) (.cells #[.int .i64 0, .int .i64 0, .int .i64 0, .int .i64 0, .int .i64 0, .int .i64 0, .int .i64 0] 34)) (.cells #[.int .i64 0, .int .i64 0, .int .i64 0, .int .i64 0, .bool false] 36))
  have B0 := ((Blk.new w #[.slice a c.r.xs.length ca, .slice b c.r.ys.length cb, .int .i64 c.r.o, .int .i64 c.r.p, .int .i64 c.r.f, .int .i64 c.r.m, .bool c.r.s, .bool c.r.t, .slice e c.bx.length ce, .slice q c.bm cq, .bool c.st, .bool c.ha] 44).alloc (.cells #[.int .i64 0, .int .i64 0, .int .i64 0, .int .i64 0, .int .i64 0, .int .i64 0, .int .i64 0] 34)).alloc (.cells #[.int .i64 0, .int .i64 0, .int .i64 0, .int .i64 0, .bool false] 36)
  have B1 := (Blk.new (w.alloc (.cells #[.slice a c.r.xs.length ca, .slice b c.r.ys.length cb, .int .i64 c.r.o, .int .i64 c.r.p, .int .i64 c.r.f, .int .i64 c.r.m, .bool c.r.s, .bool c.r.t, .slice e c.bx.length ce, .slice q c.bm cq, .bool c.st, .bool c.ha] 44)) #[.int .i64 0, .int .i64 0, .int .i64 0, .int .i64 0, .int .i64 0, .int .i64 0, .int .i64 0] 34).alloc (.cells #[.int .i64 0, .int .i64 0, .int .i64 0, .int .i64 0, .bool false] 36)
  have B2 := Blk.new ((w.alloc (.cells #[.slice a c.r.xs.length ca, .slice b c.r.ys.length cb, .int .i64 c.r.o, .int .i64 c.r.p, .int .i64 c.r.f, .int .i64 c.r.m, .bool c.r.s, .bool c.r.t, .slice e c.bx.length ce, .slice q c.bm cq, .bool c.st, .bool c.ha] 44)).alloc (.cells #[.int .i64 0, .int .i64 0, .int .i64 0, .int .i64 0, .int .i64 0, .int .i64 0, .int .i64 0] 34)) #[.int .i64 0, .int .i64 0, .int .i64 0, .int .i64 0, .bool false] 36
  simp only [World.size_alloc] at B1 B2
  obtain ⟨X, hX⟩ : ∃ X : World, ((w.alloc (.cells #[.slice a c.r.xs.length ca, .slice b c.r.ys.length cb, .int .i64 c.r.o, .int .i64 c.r.p, .int .i64 c.r.f, .int .i64 c.r.m, .bool c.r.s, .bool c.r.t, .slice e c.bx.length ce, .slice q c.bm cq, .bool c.st, .bool c.ha] 44)).alloc (.cells #[.int .i64 0, .int .i64 0, .int .i64 0, .int .i64 0, .int .i64 0, .int .i64 0, .int .i64 0] 34)).alloc (.cells #[.int .i64 0, .int .i64 0, .int .i64 0, .int .i64 0, .bool false] 36) = X := ⟨_, rfl⟩
  rw [hX] at K0 B0 B1 B2
  have HXS : Hid (X.heap.size = w.heap.size + 3) := hide (by rw [← hX]; simp)
  have HB0 := hide B0
  have HB1 := hide B1
  have HB2 := hide B2
  have HA := hide (ha.keptS K0.out)
  have HB := hide (hb.keptS K0.out)
  have HE := hide (he.keptS K0.out)
  have HQ := hide (hq.keptS K0.out)
  clear B0 B1 B2 ha hb he hq
  have i0 := HB0.out.cell (i := 0) rfl
  have i1 := HB0.out.cell (i := 1) rfl
  have i2 := HB0.out.cell (i := 2) rfl
  have i3 := HB0.out.cell (i := 3) rfl
  have i4 := HB0.out.cell (i := 4) rfl
  have i5 := HB0.out.cell (i := 5) rfl
  have i6 := HB0.out.cell (i := 6) rfl
  have i7 := HB0.out.cell (i := 7) rfl
  have i8 := HB0.out.cell (i := 8) rfl
  have i9 := HB0.out.cell (i := 9) rfl
  have i10 := HB0.out.cell (i := 10) rfl
  have i11 := HB0.out.cell (i := 11) rfl
  go_enter Tryz.func5, Tryz.ntmps5
  go_wp2_with fail
  refine (specGoodCpu _ c a b e q ca cb ce cq HA.out HB.out HE.out HQ.out lx ly lb ll lm).mono ?_
  rintro e9 W ⟨rfl, k9⟩
  rw [H1.out]
  have HK1 := hide (K0.out.trans k9)
  have HI1 := hide (HB0.out.kept0 k9)
  have HR1 := hide (HB1.out.kept0 k9)
  have HF1 := hide (HB2.out.kept0 k9)
  have hsW := k9.size
  have HA1 := hide (HA.out.keptS k9)
  have HBB1 := hide (HB.out.keptS k9)
  have HE1 := hide (HE.out.keptS k9)
  have HQ1 := hide (HQ.out.keptS k9)
  have hxs := HXS.out
  clear k9 i0 i1 i2 i3 i4 i5 i6 i7 i8 i9 i10 i11
  have i0 := HI1.out.cell (i := 0) rfl
  have i1 := HI1.out.cell (i := 1) rfl
  have i2 := HI1.out.cell (i := 2) rfl
  have i3 := HI1.out.cell (i := 3) rfl
  have i4 := HI1.out.cell (i := 4) rfl
  have i5 := HI1.out.cell (i := 5) rfl
  have i6 := HI1.out.cell (i := 6) rfl
  have i7 := HI1.out.cell (i := 7) rfl
  have i8 := HI1.out.cell (i := 8) rfl
  have i9 := HI1.out.cell (i := 9) rfl
  have i10 := HI1.out.cell (i := 10) rfl
  have i11 := HI1.out.cell (i := 11) rfl
  go_wp2_with fail
  refine (HSTA _ HA1.out HBB1.out HE1.out HQ1.out).mono ?_
  rintro e9 W1 ⟨mid, p, g9, rfl, hm9, hp9, k9⟩
  have HM1 := hide hm9
  have HL1 := hide (below_kpt k9 (Nat.le_refl W.heap.size))
  clear hm9 k9 i0 i1 i2 i3 i4 i5 i6 i7 i8 i9 i10 i11
  go_wp2_with fail
  refine (mFetch _ W.heap.size mid W1.heap.size p g9 (Pl.Mc.ofC c) HM1.out HG.out).mono ?_
  rintro e9 W2 ⟨rfl, g8, hm9, hb9⟩
  have HM2 := hide hm9
  have HL2 := hide (HL1.out.trans (below_since hb9 HM1.out.logLo HL1.out.size))
  clear hm9 hb9
  unfold insC
  generalize hI : (Pl.Mc.ofC c).fetI = I
  generalize hN : (Pl.Mc.ofC c).fetN = N
  have HI := hide hI
  have HN := hide hN
  clear hI hN
  have KZ := kept_alloc W2 (.cells #[.int .i64 I.op, .int .i64 I.z, .int .i64 I.r, .int .i64 I.m, .int .i64 I.k, .int .i64 I.e, .int .i64 I.s] 34)
  have BZ := Blk.new W2 #[.int .i64 I.op, .int .i64 I.z, .int .i64 I.r, .int .i64 I.m, .int .i64 I.k, .int .i64 I.e, .int .i64 I.s] 34
  obtain ⟨Z, hZ⟩ : ∃ Z : World, W2.alloc (.cells #[.int .i64 I.op, .int .i64 I.z, .int .i64 I.r, .int .i64 I.m, .int .i64 I.k, .int .i64 I.e, .int .i64 I.s] 34) = Z := ⟨_, rfl⟩
  rw [hZ] at KZ BZ
  have HMZ := hide (HM2.out.any KZ)
  have HLZ := hide (HL2.out.trans (below_kpt KZ (Nat.le_trans (Nat.le_refl W.heap.size) HL2.out.size)))
  have HKZ := hide (kept_lower HK1.out HLZ.out HK1.out.size)
  have HBZ := hide BZ
  have HRZ := hide (HR1.out.below HLZ.out (by omega))
  have HFZ := hide (HF1.out.below HLZ.out (by omega))
  clear KZ BZ
  go_wp2_with fail
  refine (mFine _ W.heap.size mid W1.heap.size p g8 _ HMZ.out).mono ?_
  rintro e9 w9 ⟨rfl, hw⟩
  have hw2 := hw.symm
  clear hw
  subst hw2
  rw [H2.out]
  clear hZ
  have r0 := HRZ.out.cell (i := 0) rfl
  have rf0 := HRZ.out.frozen 0
  have r1 := HRZ.out.cell (i := 1) rfl
  have rf1 := HRZ.out.frozen 1
  have r2 := HRZ.out.cell (i := 2) rfl
  have rf2 := HRZ.out.frozen 2
  have r3 := HRZ.out.cell (i := 3) rfl
  have rf3 := HRZ.out.frozen 3
  have r4 := HRZ.out.cell (i := 4) rfl
  have rf4 := HRZ.out.frozen 4
  have r5 := HRZ.out.cell (i := 5) rfl
  have rf5 := HRZ.out.frozen 5
  have r6 := HRZ.out.cell (i := 6) rfl
  have rf6 := HRZ.out.frozen 6
  have y0 := HFZ.out.cell (i := 0) rfl
  have yf0 := HFZ.out.frozen 0
  have y1 := HFZ.out.cell (i := 1) rfl
  have yf1 := HFZ.out.frozen 1
  have y2 := HFZ.out.cell (i := 2) rfl
  have yf2 := HFZ.out.frozen 2
  have y3 := HFZ.out.cell (i := 3) rfl
  have yf3 := HFZ.out.frozen 3
  have y4 := HFZ.out.cell (i := 4) rfl
  have yf4 := HFZ.out.frozen 4
  obtain ⟨gd, cd, ga, cA, g1, c1, c2, hMB, hMO⟩ := HMZ.out
  have m11 : Z.cell? ⟨p, 11, none⟩ = some (.int .i64 (Pl.Mc.ofC c).fetch.f.v) := Blk.cell hMB (i := 11) rfl
  have m12 : Z.cell? ⟨p, 12, none⟩ = some (.int .i64 (Pl.Mc.ofC c).fetch.f.pc) := Blk.cell hMB (i := 12) rfl
  have m13 : Z.cell? ⟨p, 13, none⟩ = some (.int .i64 (Pl.Mc.ofC c).fetch.f.ad) := Blk.cell hMB (i := 13) rfl
  have m14 : Z.cell? ⟨p, 14, none⟩ = some (.int .i64 (Pl.Mc.ofC c).fetch.f.wo) := Blk.cell hMB (i := 14) rfl
  have m15 : Z.cell? ⟨p, 15, none⟩ = some (.bool (Pl.Mc.ofC c).fetch.f.wr) := Blk.cell hMB (i := 15) rfl
  clear hMB hMO
  go_wp2_with fail
  go_region
  all_goals go_wp2_with fail
  have hl2 := HL2.out.size
  refine bodyPost_ret (v := .tuple #[.agg (insC (Pl.fiI c)), .int .i64 (Pl.fiN c), .agg (ftC (Pl.fiF c)), .bool (Pl.cpOk c)]) ?_ rfl ⟨rfl, ?kw⟩
  case kw =>
    refine kept_drew ?_
    repeat (first | with_reducible exact HKZ.out | refine kept_set ?_ _ _ _ (.inr (by omega)))
  rw [results_cell_t_cell_t rfl, EI.out, EN.out, EF.out, H1.out]; unfold insC ftC; go_simp; first | rfl | exact ⟨rfl, rfl⟩ | (repeat' apply And.intro) <;> rfl
theorem specFetchIns (w : World) (c : Pl.Cp) (a b e q : Option Addr) (ca cb ce cq : Nat) (ha : IRow w a c.r.xs) (hb : IRow w b c.r.ys) (he : IRow w e c.bx) (hq : IRow w q c.bl) (lx : c.r.xs.length ≤ 2000000) (ly : c.r.ys.length ≤ 2000000) (lb : c.bx.length ≤ 2000000) (ll : c.bl.length = 5 * c.bm) (lm : c.bm ≤ 2000000) :
    Calls Tryz.prog 5 #[.agg #[.slice a c.r.xs.length ca, .slice b c.r.ys.length cb, .int .i64 c.r.o, .int .i64 c.r.p, .int .i64 c.r.f, .int .i64 c.r.m, .bool c.r.s, .bool c.r.t, .slice e c.bx.length ce, .slice q c.bm cq, .bool c.st, .bool c.ha]] w fun r w' => r = .returned (.tuple #[.agg (insC (Pl.fiI c)), .int .i64 (Pl.fiN c), .agg (ftC (Pl.fiF c)), .bool (Pl.cpOk c)]) ∧ Kept 0 0 w w' := by
  cases h1 : Pl.cpOk c
  · rw [← h1]; exact specFetchIns_bad w c a b e q ca cb ce cq ha hb he hq lx ly lb ll lm h1
  · rw [← h1]
    cases h2 : (Pl.Mc.ofC c).fetch.fine
    · exact specFetchIns_fault w c a b e q ca cb ce cq ha hb he hq lx ly lb ll lm h1 h2
    · exact specFetchIns_ok w c a b e q ca cb ce cq ha hb he hq lx ly lb ll lm h1 h2
end Go.Proofs.YtblddehlkaolbaaGreat

namespace Go.Proofs.YtblddehlkaolbaaGreat
open Go.RowKit
set_option linter.unusedVariables false

theorem eqOpnd (d e f : Int) (w : World) :
    Calls Tryz.prog 22 #[.agg #[.int .i64 d, .int .i64 e, .int .i64 f], .agg #[.int .i64 d, .int .i64 e, .int .i64 f]] w fun r w' => r = .returned (.bool true) ∧ ∃ o1 o2, w' = (w.alloc o1).alloc o2 := by
  go_enter Tryz.func22, Tryz.ntmps22
  go_wp2
  go_ret
  exact ⟨rfl, _, _, rfl⟩
theorem eqIns (a b c d e f x : Int) (w : World) :
    Calls Tryz.prog 8 #[.agg #[.int .i64 a, .int .i64 b, .int .i64 c, .int .i64 d, .int .i64 e, .int .i64 f, .int .i64 x], .agg #[.int .i64 a, .int .i64 b, .int .i64 c, .int .i64 d, .int .i64 e, .int .i64 f, .int .i64 x]] w fun r w' => r = .returned (.bool true) ∧ ∃ o1 o2 o3 o4, w' = (((w.alloc o1).alloc o2).alloc o3).alloc o4 := by
  go_enter Tryz.func8, Tryz.ntmps8
  go_wp2_with (first | (go_at_call 22; refine (eqOpnd d e f _).mono ?_; rintro r9 w' ⟨rfl, o3, o4, rfl⟩))
  go_ret
  exact ⟨rfl, _, _, _, _, rfl⟩

end Go.Proofs.YtblddehlkaolbaaGreat

namespace Go.Proofs.YtblddehlkaolbaaGreat
open Go.RowKit
/-- the numbers of registers that came in are ints -/
structure Pl.WfR (d : Pl.Rg) : Prop where
  o : (Lit.int .i64 d.o).wf = true
  p : (Lit.int .i64 d.p).wf = true
  f : (Lit.int .i64 d.f).wf = true
  m : (Lit.int .i64 d.m).wf = true
end Go.Proofs.YtblddehlkaolbaaGreat

namespace Go.Proofs.YtblddehlkaolbaaGreat
open Go.RowKit
set_option linter.unusedVariables false
theorem wfB {v : Int} (h : (Lit.int .i64 v).wf = true) : -9223372036854775808 ≤ v ∧ v ≤ 9223372036854775807 := bounds_i64 h
theorem okv2 (v : Int) : Pl.okv 2 v = Pl.wordOk v := by
  unfold Pl.okv Pl.wordOk Pl.within Pl.top
  rw [Bool.eq_iff_iff]; simp; omega
theorem isWord (v : Int) (w : World) (lo : -9223372036854775808 ≤ v) (hi : v ≤ 9223372036854775807) :
    Calls Tryz.prog 65 #[.int .i64 v] w fun e w' => e = .returned (.bool (Pl.wordOk v)) ∧ w' = w := by
  go_enter Tryz.func65, Tryz.ntmps65
  go_wp2_with (go_at_call 78; refine (signedOf _ _ _ lo hi).mono ?_; rintro e w' ⟨rfl, hw⟩; have hw2 := hw.symm; clear hw; subst hw2; rw [okv2])
  go_ret
  exact ⟨rfl, rfl⟩
theorem isReg (k : Int) (w : World) : Calls Tryz.prog 102 #[.int .i64 k] w fun e w' => e = .returned (.bool (Pl.within k 0 3)) ∧ w' = w := by
  by_cases h0 : 0 ≤ k
  · by_cases h1 : k ≤ 3
    · go_enter Tryz.func102, Tryz.ntmps102
      go_wp2
      go_ret
      exact ⟨rB (by simp [Pl.within, h0, h1]), rfl⟩
    · go_enter Tryz.func102, Tryz.ntmps102
      go_wp2
      go_ret
      exact ⟨rB (by simp [Pl.within, h0]; omega), rfl⟩
  · go_enter Tryz.func102, Tryz.ntmps102
    go_wp2
    go_ret
    exact ⟨rB (by simp [Pl.within]; omega), rfl⟩
end Go.Proofs.YtblddehlkaolbaaGreat

namespace Go.Proofs.YtblddehlkaolbaaGreat
open Go.RowKit
set_option linter.unusedVariables false
theorem wrapWord (v : Int) (w : World) : Calls Tryz.prog 41 #[.int .i64 v] w fun e w' => e = .returned (.int .i64 (v % 65536)) ∧ w' = w := by
  have hW := IntKind.wrap_u16 v
  go_enter Tryz.func41, Tryz.ntmps41
  go_wp2
  go_ret
  exact ⟨rfl, rfl⟩
end Go.Proofs.YtblddehlkaolbaaGreat

namespace Go.Proofs.YtblddehlkaolbaaGreat
open Go.RowKit
set_option linter.unusedVariables false

theorem isFlags6 (k : Int) (w : World) : Calls Tryz.prog 66 #[.int .i64 k] w fun e w' => e = .returned (.bool (Pl.within k 0 31)) ∧ w' = w := by
  by_cases h0 : 0 ≤ k
  · by_cases h1 : k ≤ 31
    · go_enter Tryz.func66, Tryz.ntmps66
      go_wp2
      go_ret
      exact ⟨rB (by simp [Pl.within, h0, h1]), rfl⟩
    · go_enter Tryz.func66, Tryz.ntmps66
      go_wp2
      go_ret
      exact ⟨rB (by simp [Pl.within, h0]; omega), rfl⟩
  · go_enter Tryz.func66, Tryz.ntmps66
    go_wp2
    go_ret
    exact ⟨rB (by simp [Pl.within]; omega), rfl⟩
theorem areWords (w : World) (a : Option Addr) (ca : Nat) (xs : List Int) (ha : Came w a xs) (lx : xs.length ≤ 2000000) :
    Calls Tryz.prog 64 #[.slice a xs.length ca] w fun e w' => e = .returned (.bool (xs.all Pl.wordOk)) ∧ w' = w := by
  have HA := hide ha
  clear ha
  go_enter Tryz.func64, Tryz.ntmps64
  go_wp2
  go_loop [4, 7] (fun _ j => ∃ k : Nat, k ≤ xs.length ∧ j = .int .i64 k ∧ ∀ i, i < k → Pl.wordOk (el xs i) = true) (fun _ j => xs.length - (intOf j).toNat)
  case atStart => exact ⟨0, Nat.zero_le _, rfl, fun i hi => absurd hi (Nat.not_lt_zero i)⟩
  case round =>
    obtain ⟨k, hk, rfl, heq⟩ := hrel
    have HE := hide heq
    clear heq
    by_cases hlt : k < xs.length
    · obtain ⟨g1, o1, rfl, hc1⟩ := HA.out.1 k hlt
      obtain ⟨lo, hi⟩ := HA.out.2 k hlt
      rw [show xs[k]?.getD 0 = el xs k from rfl] at hc1 lo hi
      cases hb : Pl.wordOk (el xs k)
      · go_wp2_with (go_at_call 65; refine (isWord _ _ lo hi).mono ?_; rintro e w' ⟨rfl, rfl⟩; rw [hb])
        go_ret
        refine ⟨rB ?_, rfl⟩
        have hm : xs[k]'hlt ∈ xs := List.getElem_mem hlt
        have he : el xs k = xs[k]'hlt := by simp [el, List.getElem?_eq_getElem hlt]
        rw [he] at hb
        cases hq : xs.all Pl.wordOk
        · rfl
        · have := List.all_eq_true.1 hq _ hm
          rw [hb] at this; cases this
      · go_wp2_with (go_at_call 65; refine (isWord _ _ lo hi).mono ?_; rintro e w' ⟨rfl, rfl⟩; rw [hb])
        go_round
        case rel => exact ⟨k + 1, by omega, by go_num, snoc_all HE.out hb⟩
        case measure => simp [intOf]; omega
    · go_wp2
      go_ret
      refine ⟨rB ?_, rfl⟩
      symm
      rw [List.all_eq_true]
      intro x hx
      obtain ⟨i, hi, rfl⟩ := List.getElem_of_mem hx
      have := HE.out i (by omega)
      simpa [el, List.getElem?_eq_getElem hi] using this
end Go.Proofs.YtblddehlkaolbaaGreat

namespace Go.Proofs.YtblddehlkaolbaaGreat
open Go.RowKit
set_option linter.unusedVariables false
set_option maxHeartbeats 4000000 in
theorem implGoodRegs (w : World) (d : Pl.Rg) (a b : Option Addr) (ca cb : Nat) (ha : Came w a d.xs) (hb : Came w b d.ys) (lx : d.xs.length ≤ 2000000) (ly : d.ys.length ≤ 2000000) (wfd : Pl.WfR d) :
    Calls Tryz.prog 36 #[.agg #[.slice a d.xs.length ca, .slice b d.ys.length cb, .int .i64 d.o, .int .i64 d.p, .int .i64 d.f, .int .i64 d.m, .bool d.s, .bool d.t]] w fun e w' => e = .returned (.bool (Pl.rgOk d)) ∧ Kept 0 0 w w' := by
  have HA := hide ha
  have HB := hide hb
  have HK := hide (kept_alloc w (.cells #[.slice a d.xs.length ca, .slice b d.ys.length cb, .int .i64 d.o, .int .i64 d.p, .int .i64 d.f, .int .i64 d.m, .bool d.s, .bool d.t] 39))
  clear ha hb
  have G : Hid (Pl.rgOk d = ((d.xs.all Pl.wordOk && decide ((d.xs.length : Int) = 4)) && ((d.ys.all Pl.wordOk && decide ((d.ys.length : Int) = 4)) && (Pl.wordOk d.o && (Pl.wordOk d.p && (Pl.within d.f 0 31 && (decide (0 ≤ d.m) && decide (d.m ≤ 7)))))))) := hide rfl
  cases l1 : ((d.xs.length : Int) == 4)
  · have q1 : decide ((d.xs.length : Int) = 4) = false := by simpa using l1
    go_enter Tryz.func36, Tryz.ntmps36
    go_wp2
    go_ret
    exact ⟨rB (by rw [G.out, q1]; simp), HK.out⟩
  · have q1 : decide ((d.xs.length : Int) = 4) = true := by simpa using l1
    cases h2 : d.xs.all Pl.wordOk
    · have qh2 : True := trivial
      go_enter Tryz.func36, Tryz.ntmps36
      go_wp2_with (first | (go_at_call 64; refine (areWords _ a ca d.xs (HA.out.keptS HK.out) lx).mono ?_; rintro e w' ⟨rfl, hw⟩; have hw2 := hw.symm; clear hw; subst hw2; rw [h2]; have Z1 : True := trivial))
      go_ret
      exact ⟨rB (by rw [G.out, q1, h2]; simp), HK.out⟩
    · have qh2 : True := trivial
      cases l3 : ((d.ys.length : Int) == 4)
      · have q3 : decide ((d.ys.length : Int) = 4) = false := by simpa using l3
        go_enter Tryz.func36, Tryz.ntmps36
        go_wp2_with (first | (go_at_call 64; refine (areWords _ a ca d.xs (HA.out.keptS HK.out) lx).mono ?_; rintro e w' ⟨rfl, hw⟩; have hw2 := hw.symm; clear hw; subst hw2; rw [h2]; have Z1 : True := trivial))
        go_ret
        exact ⟨rB (by rw [G.out, q1, h2, q3]; simp), HK.out⟩
      · have q3 : decide ((d.ys.length : Int) = 4) = true := by simpa using l3
        cases h4 : d.ys.all Pl.wordOk
        · have qh4 : True := trivial
          go_enter Tryz.func36, Tryz.ntmps36
          go_wp2_with (first | (go_at_call 64; have z := Z1; refine (areWords _ b cb d.ys (HB.out.keptS HK.out) ly).mono ?_; rintro e w' ⟨rfl, hw⟩; have hw2 := hw.symm; clear hw; subst hw2; rw [h4]) | (go_at_call 64; refine (areWords _ a ca d.xs (HA.out.keptS HK.out) lx).mono ?_; rintro e w' ⟨rfl, hw⟩; have hw2 := hw.symm; clear hw; subst hw2; rw [h2]; have Z1 : True := trivial))
          go_ret
          exact ⟨rB (by rw [G.out, q1, h2, q3, h4]; simp), HK.out⟩
        · have qh4 : True := trivial
          cases h5 : Pl.wordOk d.o
          · have qh5 : True := trivial
            go_enter Tryz.func36, Tryz.ntmps36
            go_wp2_with (first | (go_at_call 64; have z := Z1; refine (areWords _ b cb d.ys (HB.out.keptS HK.out) ly).mono ?_; rintro e w' ⟨rfl, hw⟩; have hw2 := hw.symm; clear hw; subst hw2; rw [h4]) | (go_at_call 64; refine (areWords _ a ca d.xs (HA.out.keptS HK.out) lx).mono ?_; rintro e w' ⟨rfl, hw⟩; have hw2 := hw.symm; clear hw; subst hw2; rw [h2]; have Z1 : True := trivial) | (go_at_call 65; refine (isWord d.o _ (wfB wfd.o).1 (wfB wfd.o).2).mono ?_; rintro e w' ⟨rfl, hw⟩; have hw2 := hw.symm; clear hw; subst hw2; rw [h5]; have Z3 : True := trivial))
            go_ret
            exact ⟨rB (by rw [G.out, q1, h2, q3, h4, h5]; simp), HK.out⟩
          · have qh5 : True := trivial
            cases h6 : Pl.wordOk d.p
            · have qh6 : True := trivial
              go_enter Tryz.func36, Tryz.ntmps36
              go_wp2_with (first | (go_at_call 64; have z := Z1; refine (areWords _ b cb d.ys (HB.out.keptS HK.out) ly).mono ?_; rintro e w' ⟨rfl, hw⟩; have hw2 := hw.symm; clear hw; subst hw2; rw [h4]) | (go_at_call 64; refine (areWords _ a ca d.xs (HA.out.keptS HK.out) lx).mono ?_; rintro e w' ⟨rfl, hw⟩; have hw2 := hw.symm; clear hw; subst hw2; rw [h2]; have Z1 : True := trivial) | (go_at_call 65; have z := Z3; refine (isWord d.p _ (wfB wfd.p).1 (wfB wfd.p).2).mono ?_; rintro e w' ⟨rfl, hw⟩; have hw2 := hw.symm; clear hw; subst hw2; rw [h6]) | (go_at_call 65; refine (isWord d.o _ (wfB wfd.o).1 (wfB wfd.o).2).mono ?_; rintro e w' ⟨rfl, hw⟩; have hw2 := hw.symm; clear hw; subst hw2; rw [h5]; have Z3 : True := trivial))
              go_ret
              exact ⟨rB (by rw [G.out, q1, h2, q3, h4, h5, h6]; simp), HK.out⟩
            · have qh6 : True := trivial
              cases h7 : Pl.within d.f 0 31
              · have qh7 : True := trivial
                go_enter Tryz.func36, Tryz.ntmps36
                go_wp2_with (first | (go_at_call 64; have z := Z1; refine (areWords _ b cb d.ys (HB.out.keptS HK.out) ly).mono ?_; rintro e w' ⟨rfl, hw⟩; have hw2 := hw.symm; clear hw; subst hw2; rw [h4]) | (go_at_call 64; refine (areWords _ a ca d.xs (HA.out.keptS HK.out) lx).mono ?_; rintro e w' ⟨rfl, hw⟩; have hw2 := hw.symm; clear hw; subst hw2; rw [h2]; have Z1 : True := trivial) | (go_at_call 65; have z := Z3; refine (isWord d.p _ (wfB wfd.p).1 (wfB wfd.p).2).mono ?_; rintro e w' ⟨rfl, hw⟩; have hw2 := hw.symm; clear hw; subst hw2; rw [h6]) | (go_at_call 65; refine (isWord d.o _ (wfB wfd.o).1 (wfB wfd.o).2).mono ?_; rintro e w' ⟨rfl, hw⟩; have hw2 := hw.symm; clear hw; subst hw2; rw [h5]; have Z3 : True := trivial) | (go_at_call 66; refine (isFlags6 d.f _).mono ?_; rintro e w' ⟨rfl, hw⟩; have hw2 := hw.symm; clear hw; subst hw2; rw [h7]))
                go_ret
                exact ⟨rB (by rw [G.out, q1, h2, q3, h4, h5, h6, h7]; simp), HK.out⟩
              · have qh7 : True := trivial
                cases h8 : decide (0 ≤ d.m)
                · have qh8 : True := trivial
                  go_enter Tryz.func36, Tryz.ntmps36
                  go_wp2_with (first | (go_at_call 64; have z := Z1; refine (areWords _ b cb d.ys (HB.out.keptS HK.out) ly).mono ?_; rintro e w' ⟨rfl, hw⟩; have hw2 := hw.symm; clear hw; subst hw2; rw [h4]) | (go_at_call 64; refine (areWords _ a ca d.xs (HA.out.keptS HK.out) lx).mono ?_; rintro e w' ⟨rfl, hw⟩; have hw2 := hw.symm; clear hw; subst hw2; rw [h2]; have Z1 : True := trivial) | (go_at_call 65; have z := Z3; refine (isWord d.p _ (wfB wfd.p).1 (wfB wfd.p).2).mono ?_; rintro e w' ⟨rfl, hw⟩; have hw2 := hw.symm; clear hw; subst hw2; rw [h6]) | (go_at_call 65; refine (isWord d.o _ (wfB wfd.o).1 (wfB wfd.o).2).mono ?_; rintro e w' ⟨rfl, hw⟩; have hw2 := hw.symm; clear hw; subst hw2; rw [h5]; have Z3 : True := trivial) | (go_at_call 66; refine (isFlags6 d.f _).mono ?_; rintro e w' ⟨rfl, hw⟩; have hw2 := hw.symm; clear hw; subst hw2; rw [h7]))
                  go_ret
                  exact ⟨rB (by rw [G.out, q1, h2, q3, h4, h5, h6, h7, h8]; simp), HK.out⟩
                · have qh8 : True := trivial
                  cases h9 : decide (d.m ≤ 7)
                  · have qh9 : True := trivial
                    go_enter Tryz.func36, Tryz.ntmps36
                    go_wp2_with (first | (go_at_call 64; have z := Z1; refine (areWords _ b cb d.ys (HB.out.keptS HK.out) ly).mono ?_; rintro e w' ⟨rfl, hw⟩; have hw2 := hw.symm; clear hw; subst hw2; rw [h4]) | (go_at_call 64; refine (areWords _ a ca d.xs (HA.out.keptS HK.out) lx).mono ?_; rintro e w' ⟨rfl, hw⟩; have hw2 := hw.symm; clear hw; subst hw2; rw [h2]; have Z1 : True := trivial) | (go_at_call 65; have z := Z3; refine (isWord d.p _ (wfB wfd.p).1 (wfB wfd.p).2).mono ?_; rintro e w' ⟨rfl, hw⟩; have hw2 := hw.symm; clear hw; subst hw2; rw [h6]) | (go_at_call 65; refine (isWord d.o _ (wfB wfd.o).1 (wfB wfd.o).2).mono ?_; rintro e w' ⟨rfl, hw⟩; have hw2 := hw.symm; clear hw; subst hw2; rw [h5]; have Z3 : True := trivial) | (go_at_call 66; refine (isFlags6 d.f _).mono ?_; rintro e w' ⟨rfl, hw⟩; have hw2 := hw.symm; clear hw; subst hw2; rw [h7]))
                    go_ret
                    exact ⟨rB (by rw [G.out, q1, h2, q3, h4, h5, h6, h7, h8, h9]; simp), HK.out⟩
                  · have qh9 : True := trivial
                    go_enter Tryz.func36, Tryz.ntmps36
                    go_wp2_with (first | (go_at_call 64; have z := Z1; refine (areWords _ b cb d.ys (HB.out.keptS HK.out) ly).mono ?_; rintro e w' ⟨rfl, hw⟩; have hw2 := hw.symm; clear hw; subst hw2; rw [h4]) | (go_at_call 64; refine (areWords _ a ca d.xs (HA.out.keptS HK.out) lx).mono ?_; rintro e w' ⟨rfl, hw⟩; have hw2 := hw.symm; clear hw; subst hw2; rw [h2]; have Z1 : True := trivial) | (go_at_call 65; have z := Z3; refine (isWord d.p _ (wfB wfd.p).1 (wfB wfd.p).2).mono ?_; rintro e w' ⟨rfl, hw⟩; have hw2 := hw.symm; clear hw; subst hw2; rw [h6]) | (go_at_call 65; refine (isWord d.o _ (wfB wfd.o).1 (wfB wfd.o).2).mono ?_; rintro e w' ⟨rfl, hw⟩; have hw2 := hw.symm; clear hw; subst hw2; rw [h5]; have Z3 : True := trivial) | (go_at_call 66; refine (isFlags6 d.f _).mono ?_; rintro e w' ⟨rfl, hw⟩; have hw2 := hw.symm; clear hw; subst hw2; rw [h7]))
                    go_ret
                    exact ⟨rB (by rw [G.out, q1, h2, q3, h4, h5, h6, h7, h8, h9]; simp), HK.out⟩
end Go.Proofs.YtblddehlkaolbaaGreat

namespace Go.Proofs.YtblddehlkaolbaaGreat
open Go.RowKit
set_option linter.unusedVariables false
/-- the fourteen cells of registers in one value -/
def bkR (r : Pl.Rg) : Array Value := #[.int .i64 (el r.xs 0), .int .i64 (el r.xs 1), .int .i64 (el r.xs 2), .int .i64 (el r.xs 3), .int .i64 (el r.ys 0), .int .i64 (el r.ys 1), .int .i64 (el r.ys 2), .int .i64 (el r.ys 3), .int .i64 r.o, .int .i64 r.p, .int .i64 r.f, .int .i64 r.m, .bool r.s, .bool r.t]
theorem bkR_one (r : Pl.Rg) : (bkR r).all (·.oneCell') = true := by simp [bkR, Value.oneCell']
theorem bkR_info (r : Pl.Rg) : (Tryz.prog.info? 82).map (·.size) = some (bkR r).size := by
  have : (Tryz.prog.info? 82).map (·.size) = some 14 := by kernel_rfl
  exact this
theorem list4 {xs : List Int} (h : xs.length = 4) : xs = [el xs 0, el xs 1, el xs 2, el xs 3] := by
  match xs, h with
  | [a, b, c, d], _ => rfl

theorem bankOf (w : World) (d : Pl.Rg) (a b : Option Addr) (ca cb : Nat) (ha : IRow w a d.xs) (hb : IRow w b d.ys) (lx : d.xs.length = 4) (ly : d.ys.length = 4) :
    Calls Tryz.prog 38 #[.agg #[.slice a d.xs.length ca, .slice b d.ys.length cb, .int .i64 d.o, .int .i64 d.p, .int .i64 d.f, .int .i64 d.m, .bool d.s, .bool d.t]] w fun e w' => e = .returned (.agg (bkR d)) ∧ Kept 0 0 w w' := by
  rw [lx, ly]
  obtain ⟨W0, h0⟩ : ∃ W : World, W = ((w.alloc (.cells #[.slice a 4 ca, .slice b 4 cb, .int .i64 d.o, .int .i64 d.p, .int .i64 d.f, .int .i64 d.m, .bool d.s, .bool d.t] 39)).alloc (.cells #[.int .i64 0, .int .i64 0, .int .i64 0, .int .i64 0, .int .i64 0, .int .i64 0, .int .i64 0, .int .i64 0, .int .i64 0, .int .i64 0, .int .i64 0, .int .i64 0, .bool false, .bool false] 82)).alloc (.cells #[.int .i64 0, .int .i64 0, .int .i64 0, .int .i64 0, .int .i64 0, .int .i64 0, .int .i64 0, .int .i64 0, .int .i64 d.o, .int .i64 d.p, .int .i64 d.f, .int .i64 d.m, .bool d.s, .bool d.t] 82) := ⟨_, rfl⟩
  have R0 : Blk W0 w.heap.size #[.slice a 4 ca, .slice b 4 cb, .int .i64 d.o, .int .i64 d.p, .int .i64 d.f, .int .i64 d.m, .bool d.s, .bool d.t] 39 := by rw [h0]; exact ((Blk.new w _ _).alloc _).alloc _
  have Z0 : Blk W0 (w.heap.size + 1) #[.int .i64 0, .int .i64 0, .int .i64 0, .int .i64 0, .int .i64 0, .int .i64 0, .int .i64 0, .int .i64 0, .int .i64 0, .int .i64 0, .int .i64 0, .int .i64 0, .bool false, .bool false] 82 := by
    rw [h0]
    have := Blk.new (w.alloc (.cells #[.slice a 4 ca, .slice b 4 cb, .int .i64 d.o, .int .i64 d.p, .int .i64 d.f, .int .i64 d.m, .bool d.s, .bool d.t] 39)) #[.int .i64 0, .int .i64 0, .int .i64 0, .int .i64 0, .int .i64 0, .int .i64 0, .int .i64 0, .int .i64 0, .int .i64 0, .int .i64 0, .int .i64 0, .int .i64 0, .bool false, .bool false] 82
    simp only [World.size_alloc] at this
    exact this.alloc _
  have B0 : Blk W0.drew (w.heap.size + 1 + 1) #[.int .i64 0, .int .i64 0, .int .i64 0, .int .i64 0, .int .i64 0, .int .i64 0, .int .i64 0, .int .i64 0, .int .i64 d.o, .int .i64 d.p, .int .i64 d.f, .int .i64 d.m, .bool d.s, .bool d.t] 82 := by
    rw [h0]
    have := Blk.new ((w.alloc (.cells #[.slice a 4 ca, .slice b 4 cb, .int .i64 d.o, .int .i64 d.p, .int .i64 d.f, .int .i64 d.m, .bool d.s, .bool d.t] 39)).alloc (.cells #[.int .i64 0, .int .i64 0, .int .i64 0, .int .i64 0, .int .i64 0, .int .i64 0, .int .i64 0, .int .i64 0, .int .i64 0, .int .i64 0, .int .i64 0, .int .i64 0, .bool false, .bool false] 82)) #[.int .i64 0, .int .i64 0, .int .i64 0, .int .i64 0, .int .i64 0, .int .i64 0, .int .i64 0, .int .i64 0, .int .i64 d.o, .int .i64 d.p, .int .i64 d.f, .int .i64 d.m, .bool d.s, .bool d.t] 82
    simp only [World.size_alloc] at this
    exact this
  have K0 : Kept 0 0 w W0.drew := by rw [h0]; exact kept_drew (kept_new (kept_new (kept_alloc w _) _) _)
  have r00 := R0.cell (i := 0) rfl
  have r01 := R0.cell (i := 1) rfl
  obtain ⟨W1, hc1, B1, k1⟩ := copy_at W0.drew (w.heap.size + 1 + 1) 0 4 4 ca a d.xs _ _ B0 (ha.keptS K0) (by omega) (by rw [lx]; simp)
  have K1 : Kept 0 0 w W1.drew := kept_drew (kept_over K0 k1 (by omega))
  have R1 : Blk W1 w.heap.size #[.slice a 4 ca, .slice b 4 cb, .int .i64 d.o, .int .i64 d.p, .int .i64 d.f, .int .i64 d.m, .bool d.s, .bool d.t] 39 := Blk.kept (show Blk W0.drew _ _ _ from R0) k1 (by omega)
  have r11 := R1.cell (i := 1) rfl
  obtain ⟨W2, hc2, B2, k2⟩ := copy_at W1.drew (w.heap.size + 1 + 1) 4 4 4 cb b d.ys _ _ (show Blk W1.drew _ _ _ from B1) (hb.keptS K1) (by omega) (by rw [ly, length_splice _ _ _ (by simp [lx])]; simp)
  have Z1 := Blk.kept (show Blk W0.drew _ _ _ from Z0) k1 (by omega)
  have Z2 := hide (Blk.kept (show Blk W1.drew _ _ _ from Z1) k2 (by omega))
  have K2 := hide (kept_over K1 k2 (by omega))
  rw [lx] at hc1
  rw [ly] at hc2
  have D2 : Hid (Blk W2 (w.heap.size + 1 + 1) (bkR d) 82) := hide (by
    rw [list4 lx, list4 ly] at B2
    exact B2)
  clear B0 B1 B2 k1 k2 K0 K1 R0 Z0 R1 Z1
  go_enter Tryz.func38, Tryz.ntmps38
  go_wp2_with fail
  rw [← h0]
  clear h0
  go_region
  go_wp2_with fail
  go_region
  go_wp2_with (first | (refine wpList_load_row rfl 82 (.tmp 3) rfl (w.heap.size + 1 + 1) rfl 82 (bkR d) (0, 0) _ D2.out Tryz.underlying82 rfl (bkR_info d) ?_) | (refine wpList_store_row rfl 82 (.tmp 2) (.tmp 27) rfl (w.heap.size + 1) (bkR d) rfl rfl 82 _ Z2.out (bkR_info d) rfl (bkR_one d) ?_))
  refine bodyPost_ret (v := .agg (bkR d)) ?_ rfl ⟨rfl, kept_setRow K2.out _ _ (by omega)⟩
  exact results_cell_row rfl _ _ _ _ _ (0, 0) _ rfl Z2.out.setRow Tryz.underlying82 rfl (bkR_info d)
end Go.Proofs.YtblddehlkaolbaaGreat

namespace Go.Proofs.YtblddehlkaolbaaGreat
open Go.RowKit
set_option linter.unusedVariables false
def cor (r : Pl.Rg) (xs : List Int) (u : Value) (st ha : Bool) : Array Value := bkR r ++ (cellsOf xs ++ #[u, .bool st, .bool ha])
theorem set_left {A B : Array Value} {i : Nat} (h : i < A.size) (v : Value) : (A ++ B).setIfInBounds i v = A.setIfInBounds i v ++ B := by
  apply Array.ext_getElem?
  intro j
  simp only [Array.getElem?_setIfInBounds, Array.getElem?_append, Array.size_append, Array.size_setIfInBounds]
  by_cases e : i = j
  · subst e; simp [h]; omega
  · simp [e]
theorem set_right {A B : Array Value} (i : Nat) (v : Value) : (A ++ B).setIfInBounds (A.size + i) v = A ++ B.setIfInBounds i v := by
  apply Array.ext_getElem?
  intro j
  simp only [Array.getElem?_setIfInBounds, Array.getElem?_append, Array.size_append]
  by_cases e : A.size + i = j
  · subst e; simp; omega
  · by_cases h : j < A.size
    · simp [e, h]
    · simp [e, h, show ¬ i = j - A.size by omega]
theorem Since.mine {w a b : World} {lo hi x y g g' : Nat} (h : Since w lo hi g a g') (k : Kept x y a b) (hx : w.heap.size ≤ x) : Since w lo hi g b g' :=
  ⟨h.1, ⟨k.os.trans h.2.os, k.tape.trans h.2.tape, k.output.trans h.2.output, Nat.le_trans h.2.size k.size, fun i hi' hn => (k.block i (Nat.lt_of_lt_of_le hi' h.2.size) (by omega)).trans (h.2.block i hi' hn)⟩⟩
section
variable {r : Pl.Rg} {xs : List Int} {u : Value} {st ha : Bool}
theorem cor_size (hl : xs.length = 512) : (cor r xs u st ha).size = 529 := by
  have : (bkR r).size = 14 := rfl
  simp [cor, this, cellsOf_size, hl]
theorem cor_lo {i : Nat} (h : i < 14) : (cor r xs u st ha)[i]? = (bkR r)[i]? := Array.getElem?_append_left h
theorem cor_hi (i : Nat) : (cor r xs u st ha)[14 + i]? = (cellsOf xs ++ #[u, .bool st, .bool ha])[i]? := by
  have := Array.getElem?_append_right (xs := bkR r) (ys := cellsOf xs ++ #[u, .bool st, .bool ha]) (i := 14 + i) (Nat.le_add_right 14 i)
  rw [show 14 + i - (bkR r).size = i from Nat.add_sub_cancel_left 14 i] at this
  exact this
theorem cor_at {i : Nat} (hi : i < xs.length) : (cor r xs u st ha)[14 + i]? = some (.int .i64 (el xs i)) := by
  rw [cor_hi, Array.getElem?_append_left (by rw [cellsOf_size]; exact hi)]
  simp [cellsOf, el, hi]
theorem cor_up (hl : xs.length = 512) (i : Nat) : (cor r xs u st ha)[14 + (512 + i)]? = (#[u, .bool st, .bool ha] : Array Value)[i]? := by
  rw [cor_hi, Array.getElem?_append_right (by rw [cellsOf_size, hl]; omega), cellsOf_size, hl, Nat.add_sub_cancel_left]
theorem cor_log (hl : xs.length = 512) : (cor r xs u st ha)[526]? = some u := cor_up hl 0
theorem cor_st (hl : xs.length = 512) : (cor r xs u st ha)[527]? = some (.bool st) := cor_up hl 1
theorem cor_ha (hl : xs.length = 512) : (cor r xs u st ha)[528]? = some (.bool ha) := cor_up hl 2
theorem cells_set {i : Nat} (v : Int) : (cellsOf xs).setIfInBounds i (.int .i64 v) = cellsOf (xs.set i v) := by
  simp [cellsOf, List.map_set]
theorem cor_setB {i : Nat} {z : Int} (hi : i < xs.length) : (cor r xs u st ha).setIfInBounds (14 + i) (.int .i64 z) = cor r (xs.set i z) u st ha := by
  show (bkR r ++ _).setIfInBounds ((bkR r).size + i) _ = _
  rw [set_right, set_left (by rw [cellsOf_size]; exact hi), cells_set]
  rfl
theorem cor_setU (hl : xs.length = 512) (u' : Value) : (cor r xs u st ha).setIfInBounds 526 u' = cor r xs u' st ha := by
  show (bkR r ++ _).setIfInBounds ((bkR r).size + 512) _ = _
  have e := set_right (A := cellsOf xs) (B := #[u, .bool st, .bool ha]) 0 u'
  rw [cellsOf_size, hl] at e
  rw [set_right, show (512 : Nat) = 512 + 0 from rfl, e]
  rfl
end
/-- the block -/
def CBk (w : World) (b g cu : Nat) (c : Pl.Mc) (h : Bool) : Prop := Blk w b (cor c.r c.bx (.slice (some ⟨g, 0, none⟩) c.bm cu) c.st h) 90
/-- the log -/
structure CLg (w : World) (lo b g cu : Nat) (bl : List Int) (bm : Nat) : Prop where
  l : w.ownsRow lo 95 5 (.slice (some ⟨g, 0, none⟩) bm cu) bm (bl.map (Value.int .i64))
  lo' : lo ≤ b
  ne : b ≠ g
def CAt (w : World) (lo b g : Nat) (c : Pl.Mc) (h : Bool) : Prop := ∃ cu : Nat, CBk w b g cu c h ∧ CLg w lo b g cu c.bl c.bm
section
variable {w w' : World} {lo b g cu : Nat} {c : Pl.Mc} {h : Bool} {bl : List Int} {bm : Nat}
theorem CLg.any (o : CLg w lo b g cu bl bm) (k : Kept 0 0 w w') : CLg w' lo b g cu bl bm := ⟨ownsRow_keptS o.l k (by omega), o.lo', o.ne⟩
theorem CLg.lt (o : CLg w lo b g cu bl bm) : lo ≤ g ∧ g < w.heap.size := o.l.lt g rfl
theorem CAt.lt (a : CAt w lo b g c h) : lo ≤ b ∧ b < w.heap.size ∧ lo ≤ g ∧ g < w.heap.size ∧ b ≠ g := by
  obtain ⟨cu, hB, hO⟩ := a
  have := hO.lt
  exact ⟨hO.lo', Blk.lt hB, this.1, this.2, hO.ne⟩
theorem CAt.any (a : CAt w lo b g c h) (k : Kept 0 0 w w') : CAt w' lo b g c h := by
  obtain ⟨cu, hB, hO⟩ := a
  exact ⟨cu, Blk.kept0 hB k, hO.any k⟩
theorem CAt.alloc (a : CAt w lo b g c h) (o : Obj) : CAt (w.alloc o) lo b g c h := a.any (kept_alloc w o)
theorem CAt.drew (a : CAt w lo b g c h) : CAt w.drew lo b g c h := a.any (kept_drew (Kept.refl _ _ _))
/-- another block is written -/
theorem CAt.other (a : CAt w lo b g c h) (q i : Nat) (v : Value) (h1 : q ≠ b) (h2 : q ≠ g) : CAt (w.setCell ⟨q, i, none⟩ v) lo b g c h := by
  obtain ⟨cu, hB, hO⟩ := a
  have k := kept_set (Kept.refl q (q + 1) w) q i v (.inl (by omega))
  exact ⟨cu, Blk.kept hB k (by omega), ⟨ownsRow_keptS hO.l k (by omega), hO.lo', hO.ne⟩⟩
theorem CAt.kept {x y : Nat} (a : CAt w lo b g c h) (k : Kept x y w w') (h1 : ¬ (x ≤ b ∧ b < y)) (h2 : ¬ (x ≤ g ∧ g < y)) : CAt w' lo b g c h := by
  obtain ⟨cu, hB, hO⟩ := a
  exact ⟨cu, Blk.kept hB k h1, ⟨ownsRow_keptS hO.l k h2, hO.lo', hO.ne⟩⟩
theorem CAt.cR (a : CAt w lo b g c h) {i : Nat} {v : Value} (hi : i < 14) (e : (bkR c.r)[i]? = some v) : w.cell? ⟨b, i, none⟩ = some v := by
  obtain ⟨cu, hB, hO⟩ := a
  exact Blk.cell hB ((cor_lo hi).trans e)
theorem CAt.cP (a : CAt w lo b g c h) : w.cell? ⟨b, 9, none⟩ = some (.int .i64 c.r.p) := a.cR (by omega) rfl
end
end Go.Proofs.YtblddehlkaolbaaGreat

namespace Go.Proofs.YtblddehlkaolbaaGreat
open Go.RowKit
set_option linter.unusedVariables false

theorem isAddress (a : Int) (w : World) : Calls Tryz.prog 94 #[.int .i64 a] w fun e w' => e = .returned (.bool (Pl.addr a)) ∧ w' = w := by
  by_cases h0 : 0 ≤ a
  all_goals
    by_cases h1 : a ≤ 65535
    all_goals
      go_enter Tryz.func94, Tryz.ntmps94
      go_wp2
      go_ret
      exact ⟨rB (by simp [Pl.addr, h0, h1] <;> omega), rfl⟩
theorem isAccessKind (a : Int) (w : World) : Calls Tryz.prog 93 #[.int .i64 a] w fun e w' => e = .returned (.bool (Pl.accKind a)) ∧ w' = w := by
  by_cases h0 : 1 ≤ a
  all_goals
    by_cases h1 : a ≤ 3
    all_goals
      go_enter Tryz.func93, Tryz.ntmps93
      go_wp2
      go_ret
      exact ⟨rB (by simp [Pl.accKind, h0, h1] <;> omega), rfl⟩
theorem isOdd (a : Int) (w : World) (h0 : 0 ≤ a) (h1 : a ≤ 65535) : Calls Tryz.prog 95 #[.int .i64 a] w fun e w' => e = .returned (.bool (decide (a % 2 = 1))) ∧ w' = w := by
  go_enter Tryz.func95, Tryz.ntmps95
  go_wp2
  go_ret
  refine ⟨rB ?_, rfl⟩
  rw [Bool.eq_iff_iff]
  simp
  omega
theorem partOf (a : Int) (w : World) : Calls Tryz.prog 96 #[.int .i64 a] w fun e w' => e = .returned (.int .i64 (Pl.kind a)) ∧ w' = w := by
  by_cases h1 : 512 ≤ a
  · have E : Hid (Pl.kind a = 1) := hide (by simp [Pl.kind, h1])
    go_enter Tryz.func96, Tryz.ntmps96
    go_wp2
    go_ret
    exact ⟨rI E.out.symm, rfl⟩
  · by_cases h2 : 496 ≤ a
    · have E : Hid (Pl.kind a = 0) := hide (by unfold Pl.kind; rw [if_neg (by omega), if_neg (by omega)])
      go_enter Tryz.func96, Tryz.ntmps96
      go_wp2
      go_ret
      exact ⟨rI E.out.symm, rfl⟩
    · by_cases h3 : 448 ≤ a
      · have E : Hid (Pl.kind a = 1) := hide (by unfold Pl.kind; rw [if_pos (by omega)])
        go_enter Tryz.func96, Tryz.ntmps96
        go_wp2
        go_ret
        exact ⟨rI E.out.symm, rfl⟩
      · by_cases h4 : 384 ≤ a
        · have E : Hid (Pl.kind a = 3) := hide (by unfold Pl.kind; rw [if_neg (by omega), if_pos (by omega)])
          go_enter Tryz.func96, Tryz.ntmps96
          go_wp2
          go_ret
          exact ⟨rI E.out.symm, rfl⟩
        · have E : Hid (Pl.kind a = 0) := hide (by unfold Pl.kind; rw [if_neg (by omega), if_neg (by omega)])
          go_enter Tryz.func96, Tryz.ntmps96
          go_wp2
          go_ret
          exact ⟨rI E.out.symm, rfl⟩
namespace Pl
def isAcc (k s a v c : Int) : Bool := okv s v && (accKind k && (addr a && (decide (0 ≤ c) && decide (c ≤ 3))))
theorem accOk_isAcc (k s a v c : Int) : accOk k s a v c = (isAcc k s a v c && !((k == 3) && (c == 0))) := by
  unfold accOk isAcc
  rw [Bool.eq_iff_iff]
  simp only [Bool.and_eq_true, Bool.or_eq_true, Bool.not_eq_true', decide_eq_true_eq, bne_iff_ne, ne_eq, Bool.and_eq_false_iff, beq_eq_false_iff_ne]
  constructor
  · rintro ⟨a1, a2, a3, a4, a5⟩; exact ⟨⟨a2, a1, a3, a4⟩, a5⟩
  · rintro ⟨⟨a2, a1, a3, a4⟩, a5⟩; exact ⟨a1, a2, a3, a4, a5⟩
end Pl
theorem isAccess (k s a v c : Int) (w : World) (lo : -9223372036854775808 ≤ v) (hi : v ≤ 9223372036854775807) : Calls Tryz.prog 80 #[.agg #[.int .i64 k, .int .i64 s, .int .i64 a, .int .i64 v, .int .i64 c]] w fun e w' => e = .returned (.bool (Pl.isAcc k s a v c)) ∧ ∃ o, w' = w.alloc o := by
  cases h1 : Pl.okv s v
  · go_enter Tryz.func80, Tryz.ntmps80
    go_wp2_with (first | (go_at_call 78; refine (signedOf _ _ _ lo hi).mono ?_; rintro e w' ⟨rfl, rfl⟩; rw [h1]) | (go_at_call 93; refine (isAccessKind _ _).mono ?_; rintro e w' ⟨rfl, rfl⟩) | (go_at_call 94; refine (isAddress _ _).mono ?_; rintro e w' ⟨rfl, rfl⟩))
    go_ret
    exact ⟨rB (by unfold Pl.isAcc; rw [h1]; rfl), _, rfl⟩
  · cases h2 : Pl.accKind k
    · go_enter Tryz.func80, Tryz.ntmps80
      go_wp2_with (first | (go_at_call 78; refine (signedOf _ _ _ lo hi).mono ?_; rintro e w' ⟨rfl, rfl⟩; rw [h1]) | (go_at_call 93; refine (isAccessKind _ _).mono ?_; rintro e w' ⟨rfl, rfl⟩; rw [h2]) | (go_at_call 94; refine (isAddress _ _).mono ?_; rintro e w' ⟨rfl, rfl⟩))
      go_ret
      exact ⟨rB (by unfold Pl.isAcc; rw [h1, h2]; rfl), _, rfl⟩
    · cases h3 : Pl.addr a
      · go_enter Tryz.func80, Tryz.ntmps80
        go_wp2_with (first | (go_at_call 78; refine (signedOf _ _ _ lo hi).mono ?_; rintro e w' ⟨rfl, rfl⟩; rw [h1]) | (go_at_call 93; refine (isAccessKind _ _).mono ?_; rintro e w' ⟨rfl, rfl⟩; rw [h2]) | (go_at_call 94; refine (isAddress _ _).mono ?_; rintro e w' ⟨rfl, rfl⟩; rw [h3]))
        go_ret
        exact ⟨rB (by unfold Pl.isAcc; rw [h1, h2, h3]; rfl), _, rfl⟩
      · cases h4 : decide (0 ≤ c)
        all_goals
          cases h5 : decide (c ≤ 3)
          all_goals
            go_enter Tryz.func80, Tryz.ntmps80
            go_wp2_with (first | (go_at_call 78; refine (signedOf _ _ _ lo hi).mono ?_; rintro e w' ⟨rfl, rfl⟩; rw [h1]) | (go_at_call 93; refine (isAccessKind _ _).mono ?_; rintro e w' ⟨rfl, rfl⟩; rw [h2]) | (go_at_call 94; refine (isAddress _ _).mono ?_; rintro e w' ⟨rfl, rfl⟩; rw [h3]))
            go_ret
            exact ⟨rB (by unfold Pl.isAcc; rw [h1, h2, h3, h4, h5]; rfl), _, rfl⟩
theorem isLogged (k s a v c : Int) (w : World) (lo : -9223372036854775808 ≤ v) (hi : v ≤ 9223372036854775807) : Calls Tryz.prog 68 #[.agg #[.int .i64 k, .int .i64 s, .int .i64 a, .int .i64 v, .int .i64 c]] w fun e w' => e = .returned (.bool (Pl.accOk k s a v c)) ∧ ∃ o p, w' = (w.alloc o).alloc p := by
  cases h1 : Pl.isAcc k s a v c
  · go_enter Tryz.func68, Tryz.ntmps68
    go_wp2_with (go_at_call 80; refine (isAccess _ _ _ _ _ _ lo hi).mono ?_; rintro e w' ⟨rfl, o, rfl⟩; rw [h1])
    go_ret
    exact ⟨rB (by rw [Pl.accOk_isAcc, h1]; rfl), _, _, rfl⟩
  · cases h2 : (k == 3)
    · go_enter Tryz.func68, Tryz.ntmps68
      go_wp2_with (go_at_call 80; refine (isAccess _ _ _ _ _ _ lo hi).mono ?_; rintro e w' ⟨rfl, o, rfl⟩; rw [h1])
      go_ret
      exact ⟨rB (by rw [Pl.accOk_isAcc, h1, h2]; rfl), _, _, rfl⟩
    · cases h3 : (c == 0)
      all_goals
        go_enter Tryz.func68, Tryz.ntmps68
        go_wp2_with (go_at_call 80; refine (isAccess _ _ _ _ _ _ lo hi).mono ?_; rintro e w' ⟨rfl, o, rfl⟩; rw [h1])
        go_ret
        exact ⟨rB (by rw [Pl.accOk_isAcc, h1, h2, h3]; rfl), _, _, rfl⟩
end Go.Proofs.YtblddehlkaolbaaGreat

namespace Go.Proofs.YtblddehlkaolbaaGreat
open Go.RowKit
set_option linter.unusedVariables false

theorem okv1 (v : Int) : Pl.okv 1 v = Pl.byteOk v := by
  unfold Pl.okv Pl.byteOk Pl.top
  rw [Bool.eq_iff_iff]; simp; omega
theorem isByte (v : Int) (w : World) (lo : -9223372036854775808 ≤ v) (hi : v ≤ 9223372036854775807) :
    Calls Tryz.prog 79 #[.int .i64 v] w fun e w' => e = .returned (.bool (Pl.byteOk v)) ∧ w' = w := by
  go_enter Tryz.func79, Tryz.ntmps79
  go_wp2_with (go_at_call 78; refine (signedOf _ _ _ lo hi).mono ?_; rintro e w' ⟨rfl, hw⟩; have hw2 := hw.symm; clear hw; subst hw2; rw [okv1])
  go_ret
  exact ⟨rfl, rfl⟩
theorem areBytes (w : World) (a : Option Addr) (ca : Nat) (xs : List Int) (ha : Came w a xs) (lx : xs.length ≤ 2000000) :
    Calls Tryz.prog 67 #[.slice a xs.length ca] w fun e w' => e = .returned (.bool (Pl.bytesOk xs)) ∧ w' = w := by
  have HA := hide ha
  clear ha
  go_enter Tryz.func67, Tryz.ntmps67
  go_wp2
  go_loop [4, 7] (fun _ j => ∃ k : Nat, k ≤ xs.length ∧ j = .int .i64 k ∧ ∀ i, i < k → Pl.byteOk (el xs i) = true) (fun _ j => xs.length - (intOf j).toNat)
  case atStart => exact ⟨0, Nat.zero_le _, rfl, fun i hi => absurd hi (Nat.not_lt_zero i)⟩
  case round =>
    obtain ⟨k, hk, rfl, heq⟩ := hrel
    have HE := hide heq
    clear heq
    by_cases hlt : k < xs.length
    · obtain ⟨g1, o1, rfl, hc1⟩ := HA.out.1 k hlt
      obtain ⟨lo, hi⟩ := HA.out.2 k hlt
      rw [show xs[k]?.getD 0 = el xs k from rfl] at hc1 lo hi
      cases hb : Pl.byteOk (el xs k)
      · go_wp2_with (go_at_call 79; refine (isByte _ _ lo hi).mono ?_; rintro e w' ⟨rfl, rfl⟩; rw [hb])
        go_ret
        exact ⟨rB (Pl.bytesOk_no hlt hb).symm, rfl⟩
      · go_wp2_with (go_at_call 79; refine (isByte _ _ lo hi).mono ?_; rintro e w' ⟨rfl, rfl⟩; rw [hb])
        go_round
        case rel => exact ⟨k + 1, by omega, by go_num, snoc_all HE.out hb⟩
        case measure => simp [intOf]; omega
    · go_wp2
      go_ret
      exact ⟨rB (Pl.bytesOk_of (fun i hi => HE.out i (by omega))).symm, rfl⟩
end Go.Proofs.YtblddehlkaolbaaGreat

namespace Go.Proofs.YtblddehlkaolbaaGreat
open Go.RowKit
set_option linter.unusedVariables false

theorem Wide.at5 {ys : List Int} (h : Wide ys) {m k : Nat} (hl : ys.length = 5 * m) (hk : k < m) : -9223372036854775808 ≤ el ys (k * 5 + 3) ∧ el ys (k * 5 + 3) ≤ 9223372036854775807 := h (k * 5 + 3) (by omega)

theorem goodBus (w : World) (a b : Option Addr) (ca cb m : Nat) (xs ys : List Int) (ha : Came w a xs) (hb : Came w b ys) (lx : xs.length ≤ 2000000) (ly : ys.length = 5 * m) (bm : m ≤ 2000000) :
    Calls Tryz.prog 37 #[.agg #[.slice a xs.length ca, .slice b m cb]] w fun e w' => e = .returned (.bool (Pl.goodBus xs ys m)) ∧ Kept 0 0 w w' := by
  have HA := hide ha
  have HB := hide hb
  have HY := hide ly
  have HK0 := hide (kept_alloc w (.cells #[.slice a xs.length ca, .slice b m cb] 42))
  clear ha hb ly
  cases h1 : ((xs.length : Int) != 512)
  · have hl5 : xs.length = 512 := by simp at h1; omega
    have G : Hid (Pl.goodBus xs ys m = (Pl.accsOk ys m && (Pl.bytesOk xs && decide (m ≤ 400)))) := hide (by
      unfold Pl.goodBus
      rw [show decide (xs.length = 512) = true from by simp [hl5], Bool.true_and])
    clear hl5
    cases h2 : Pl.bytesOk xs
    · go_enter Tryz.func37, Tryz.ntmps37
      go_wp2_with (go_at_call 67; refine (areBytes _ a ca xs (HA.out.keptS HK0.out) lx).mono ?_; rintro e w' ⟨rfl, rfl⟩; rw [h2])
      go_ret
      exact ⟨rB (by rw [G.out, h2, Bool.false_and, Bool.and_false]), HK0.out⟩
    · cases h3 : decide ((400 : Int) < (m : Int))
      · go_enter Tryz.func37, Tryz.ntmps37
        go_wp2_with (first | (go_at_call 67; refine (areBytes _ a ca xs (HA.out.keptS HK0.out) lx).mono ?_; rintro e w' ⟨rfl, rfl⟩; rw [h2]) | fail)
        obtain ⟨W, hW⟩ : ∃ W : World, W = w.alloc (.cells #[.slice a xs.length ca, .slice b m cb] 42) := ⟨_, rfl⟩
        rw [← hW] at HK0 ⊢
        clear hW
        go_loopw [4, 24] (fun _ j wr => ∃ k : Nat, k ≤ m ∧ j = .int .i64 k ∧ (∀ i, i < k → Pl.accAt ys i = true) ∧ Kept 0 0 W wr) (fun _ j _ => m - (intOf j).toNat)
        case atStart => exact ⟨0, Nat.zero_le _, rfl, fun i hi => absurd hi (Nat.not_lt_zero i), Kept.refl _ _ _⟩
        case round =>
          obtain ⟨k, hk, rfl, heq, hkept⟩ := hrel
          have HE := hide heq
          have HK := hide hkept
          clear heq hkept
          by_cases hlt : k < m
          · obtain ⟨lo, hi⟩ := HB.out.2.at5 HY.out hlt
            obtain ⟨g1, o1, rfl, p0, p1, p2, p3, p4⟩ := ((HB.out.keptS (HK0.out.trans HK.out)).1).five HY.out hlt
            cases hb : Pl.accAt ys k
            · have hb2 : Pl.accOk (el ys (k * 5)) (el ys (k * 5 + 1)) (el ys (k * 5 + 2)) (el ys (k * 5 + 3)) (el ys (k * 5 + 4)) = false := hb
              clear hb
              go_wp2_with (go_at_call 68; refine (isLogged _ _ _ _ _ _ lo hi).mono ?_; rintro e w' ⟨rfl, o, p, rfl⟩; rw [hb2])
              go_ret
              exact ⟨rB (by unfold Pl.goodBus; rw [Pl.accsOk_no hlt hb2]; rfl), HK0.out.trans (kept_new (kept_new (kept_new HK.out _) _) _)⟩
            · have hb2 : Pl.accOk (el ys (k * 5)) (el ys (k * 5 + 1)) (el ys (k * 5 + 2)) (el ys (k * 5 + 3)) (el ys (k * 5 + 4)) = true := hb
              clear hb
              go_wp2_with (go_at_call 68; refine (isLogged _ _ _ _ _ _ lo hi).mono ?_; rintro e w' ⟨rfl, o, p, rfl⟩; rw [hb2])
              go_roundw
              case rel => exact ⟨k + 1, by omega, by go_num, snoc_all HE.out hb2, kept_new (kept_new (kept_new HK.out _) _) _⟩
              case measure => simp [intOf]; omega
          · have HA1 : Hid (Pl.accsOk ys m = true) := hide (Pl.accsOk_of (fun i hi => HE.out i (by omega)))
            go_wp2_with fail
            go_ret
            refine ⟨rB ?_, HK0.out.trans HK.out⟩
            rw [G.out, HA1.out, h2]
            simp at h3
            simp; omega
      · go_enter Tryz.func37, Tryz.ntmps37
        go_wp2_with (go_at_call 67; refine (areBytes _ a ca xs (HA.out.keptS HK0.out) lx).mono ?_; rintro e w' ⟨rfl, rfl⟩; rw [h2])
        go_ret
        refine ⟨rB ?_, HK0.out⟩
        rw [G.out]
        simp at h3
        rw [show decide (m ≤ 400) = false from by simp; omega]
        simp
  · have hl5 : Hid (¬ xs.length = 512) := hide (by simp at h1; omega)
    go_enter Tryz.func37, Tryz.ntmps37
    go_wp2_with (go_at_call 67; fail)
    go_ret
    refine ⟨rB ?_, HK0.out⟩
    unfold Pl.goodBus
    rw [show decide (xs.length = 512) = false from by simp [hl5.out]]
    simp
end Go.Proofs.YtblddehlkaolbaaGreat

namespace Go.Proofs.YtblddehlkaolbaaGreat
open Go.RowKit
set_option linter.unusedVariables false

def zeros : List Int := List.replicate 512 0
theorem zeros_len : zeros.length = 512 := List.length_replicate ..
theorem Tryz.infoMem : (Tryz.prog.info? 85).map (fun i => (i.zero, i.size)) = some (some (.agg (cellsOf zeros)), 512) := by kernel_rfl
theorem Tryz.memZero : ∀ w, (zeroValue 85).run Tryz.prog w = .ok (.agg (cellsOf zeros)) w := (zero_of_info Tryz.infoMem).1
theorem Tryz.memSize : (Tryz.prog.info? 85).map (·.size) = some 512 := (zero_of_info Tryz.infoMem).2
set_option maxHeartbeats 4000000 in
theorem memoryOf (w : World) (a b : Option Addr) (ca cb m : Nat) (xs : List Int) (ha : IRow w a xs) (lx : xs.length = 512) :
    Calls Tryz.prog 69 #[.agg #[.slice a xs.length ca, .slice b m cb]] w fun e w' => e = .returned (.agg (cellsOf xs)) ∧ Kept 0 0 w w' := by
  obtain ⟨ga, oa, rfl, _⟩ := ha 0 (by omega)
  have HA := hide ha
  have HX := hide lx
  clear ha lx
  have mz := Tryz.memZero
  have HS : Hid ((Tryz.prog.info? 3).map (·.size) = some 1) := hide (by kernel_rfl)
  go_enter Tryz.func69, Tryz.ntmps69
  go_wp2_with fail
  have K := hide (kept_new (kept_new (kept_alloc w (.cells #[.slice (some ⟨ga, oa, none⟩) xs.length ca, .slice b m cb] 42)) (.cells (cellsOf zeros) 85)) (.cells (cellsOf zeros) 85))
  have B0 := (((Blk.new w #[.slice (some ⟨ga, oa, none⟩) xs.length ca, .slice b m cb] 42).alloc (.cells (cellsOf zeros) 85)).alloc (.cells (cellsOf zeros) 85))
  have B1 := ((Blk.new (w.alloc (.cells #[.slice (some ⟨ga, oa, none⟩) xs.length ca, .slice b m cb] 42)) (cellsOf zeros) 85).alloc (.cells (cellsOf zeros) 85))
  have B2 := Blk.new ((w.alloc (.cells #[.slice (some ⟨ga, oa, none⟩) xs.length ca, .slice b m cb] 42)).alloc (.cells (cellsOf zeros) 85)) (cellsOf zeros) 85
  simp only [World.size_alloc] at B1 B2
  obtain ⟨W, hW⟩ : ∃ W : World, W = (((w.alloc (.cells #[.slice (some ⟨ga, oa, none⟩) xs.length ca, .slice b m cb] 42)).alloc (.cells (cellsOf zeros) 85)).alloc (.cells (cellsOf zeros) 85)) := ⟨_, rfl⟩
  rw [← hW] at K B0 B1 B2 ⊢
  clear hW
  have p0 := B0.cell (i := 0) rfl
  have H1 := hide B1
  have H2 := hide B2
  clear B0 B1 B2
  have HZ : Hid ((Tryz.prog.info? 85).map (·.size) = some (cellsOf xs).size) := hide (by rw [cellsOf_size, HX.out]; exact Tryz.memSize)
  have HZ2 : Hid ((cellsOf zeros).size = (cellsOf xs).size) := hide (by rw [cellsOf_size, cellsOf_size, HX.out, zeros_len])
  have HN : Hid ((xs.map (Value.int .i64)).length = Nat.min xs.length 512) := hide (by rw [HX.out]; simp [HX.out])
  have HF : Hid (0 + (xs.map (Value.int .i64)).length ≤ (zeros.map (Value.int .i64)).length) := hide (by simp [HX.out, zeros_len])
  go_region_law (refine step_copy_splice rfl (.tmp 4) (.tmp 6) 22 22 rfl 3 Tryz.underlying22 HS.out _ _ _ _ _ _ rfl rfl (w.heap.size + 1 + 1) 0 (zeros.map (Value.int .i64)) 85 ?hg (xs.map (Value.int .i64)) HN.out ?hpos HF.out news_one (w.heap.size + 1 + 1) W ?hb (Nat.le_refl _) ?_
                 (case hg => exact H2.out)
                 (case hb => exact (Below.refl _ W).drew)
                 (case hpos => intro _; exact ⟨rfl, _, rfl, news_of (HA.out.keptS (kept_drew K.out))⟩)
                 intro w4 hg4 hb4)
  all_goals
    have D2 : Hid (Blk w4 (w.heap.size + 1 + 1) (cellsOf xs) 85) := hide (by
      have h := hg4.out
      rw [splice_all (by simp [HX.out, zeros_len])] at h
      exact h)
    have D1 : Hid (Blk w4 (w.heap.size + 1) (cellsOf zeros) 85) := hide ((hb4.block _ (by omega)).trans H1.out)
    have K4 : Hid (Kept 0 0 w w4) := hide (kept_lower K.out hb4 (by omega))
    clear hg4 hb4
    go_wp2_with (first | (refine wpList_load_row rfl 85 (.tmp 3) rfl (w.heap.size + 1 + 1) rfl 85 (cellsOf xs) (0, 0) _ D2.out Tryz.underlying85 rfl HZ.out ?_) | (refine wpList_store_row rfl 85 (.tmp 2) (.tmp 8) rfl (w.heap.size + 1) (cellsOf xs) rfl rfl 85 (cellsOf zeros) D1.out HZ.out HZ2.out (cellsOf_one xs) ?_))
    refine bodyPost_ret (v := .agg (cellsOf xs)) ?_ rfl ⟨rfl, kept_setRow K4.out _ _ (by omega)⟩
    exact results_cell_row rfl _ _ _ _ _ (0, 0) _ rfl D1.out.setRow Tryz.underlying85 rfl HZ.out

set_option maxRecDepth 20000 in
set_option maxHeartbeats 4000000 in
theorem memRead (w : World) (xs : List Int) (s n : Nat) (lx : xs.length = 512) (hb : Pl.bytesOk xs = true) (s0 : 1 ≤ s) (s1 : s ≤ 2) (hn : n + s ≤ 512) :
    Calls Tryz.prog 98 #[.agg (cellsOf xs), .int .i64 s, .int .i64 n] w fun e w' => e = .returned (.int .i64 (Pl.rd xs s n)) ∧ Kept 0 0 w w' := by
  have HX := hide lx
  have HO := hide (own_of_blk (Blk.new w (cellsOf xs) 85))
  have HK := hide (kept_alloc w (.cells (cellsOf xs) 85))
  have HB := hide hb
  have HS0 := hide s0
  have HN : Hid (n + s ≤ 512) := hide hn
  clear lx hb
  have hsl : ∀ W : World, (Instr.sliceAt 85 (.pointer (some ⟨w.heap.size, 0, none⟩)) (some (.int .i64 (n : Int))) (some (.int .i64 ((n : Int) + (s : Int)))) none).run Tryz.prog W = .ok (.slice (some ⟨w.heap.size, n, none⟩) s (512 - n)) W := by
    intro W
    have hlen : Tryz.prog.arrayLen 85 = 512 := by kernel_rfl
    have hel : Tryz.prog.elem 85 = 3 := by kernel_rfl
    have ht : Tryz.prog.underlying 85 = some (.array (Tryz.prog.arrayLen 85) (Tryz.prog.elem 85)) := by kernel_rfl
    obtain ⟨i, hi, hz0, hz1, hz2⟩ := info_parts Tryz.info3
    rw [run_sliceAt_array_lh W 85 _ ht .i64 .i64 n ((n : Int) + (s : Int)) (by omega) (by omega) (by rw [hlen]; omega), hlen, hel]
    have e1 : ((n : Int)).toNat = n := by omega
    have e2 : ((n : Int) + (s : Int)).toNat - n = s := by omega
    have q1 : ¬ 512 = n := by omega
    simp only [sizeOf, typeInfo, Sem.run_bind, Sem.run_pure, slicedAt, e1, e2, q1, if_false]
    simp [hi, hz1, Addr.add]
    intro h0; exact h0.symm
  go_enter Tryz.func98, Tryz.ntmps98
  go_wp2_with fail
  go_loop [7, 9, 16] (fun v _ j => ∃ k : Nat, k ≤ s ∧ j = .int .i64 k ∧ v = .int .i64 (Pl.rdK xs n k)) (fun _ _ j => s - (intOf j).toNat)
  case atStart => exact ⟨0, Nat.zero_le _, rfl, rfl⟩
  case round =>
    obtain ⟨k, hk, rfl, rfl⟩ := hrel
    by_cases hlt : k < s
    · obtain ⟨hc, _⟩ := HO.out (n + k) (by rw [HX.out]; omega)
      have b0 := Pl.bytesOk_at HB.out n (by rw [HX.out]; omega)
      have b1 := Pl.bytesOk_at HB.out (n + k) (by rw [HX.out]; omega)
      rw [show xs[n + k]?.getD 0 = el xs (n + k) from rfl] at hc
      obtain ⟨b00, b01⟩ := b0
      obtain ⟨b10, b11⟩ := b1
      by_cases hk0 : k = 0
      · subst hk0
        have hor := Pl.word_or (h := 0) (by decide) (by decide) b10 b11
        rw [Int.zero_mul, Int.zero_add] at hor
        rw [Nat.add_zero] at hc hor b10 b11
        rw [show Pl.rdK xs n 0 = 0 from rfl]
        go_wp2
        go_round
        case rel => exact ⟨1, by omega, rfl, rfl⟩
        case measure => simp [intOf]; omega
      · obtain rfl : k = 1 := by omega
        have hor := Pl.word_or b00 b01 b10 b11
        rw [show Pl.rdK xs n 1 = el xs n from rfl]
        go_wp2
        go_round
        case rel => exact ⟨2, by omega, rfl, rfl⟩
        case measure => simp [intOf]; omega
    · have E : Hid (Pl.rdK xs n k = Pl.rd xs s n) := hide (by
        have : k = 1 ∨ k = 2 := by omega
        unfold Pl.rdK Pl.rd
        rcases this with rfl | rfl
        · rw [if_neg (by decide), if_pos rfl, if_pos (by omega)]
        · rw [if_neg (by decide), if_neg (by decide), if_neg (by omega)])
      go_wp2
      go_ret
      exact ⟨rI E.out, HK.out⟩
end Go.Proofs.YtblddehlkaolbaaGreat

namespace Go.Proofs.YtblddehlkaolbaaGreat
open Go.RowKit
set_option linter.unusedVariables false
theorem codeOf (k s a v c : Int) (w : World) (hs : s = 1 ∨ s = 2) (a0 : 0 ≤ a) (a1 : a ≤ 65535) :
    Calls Tryz.prog 81 #[.agg #[.int .i64 k, .int .i64 s, .int .i64 a, .int .i64 v, .int .i64 c]] w fun e w' => e = .returned (.int .i64 (Pl.code k s a)) ∧ ∃ o, w' = w.alloc o := by
  have G : Hid (Pl.code k s a = if ((s == 2) && decide (a % 2 = 1)) then 2 else if ((Pl.kind a == 3) && (k != 2)) then 0 else Pl.kind a) := hide (by
    rw [Pl.code_part hs]
    simp only [Bool.and_eq_true, beq_iff_eq, decide_eq_true_eq, bne_iff_ne, ne_eq])
  cases h1 : (s == 2)
  · cases h3 : (Pl.kind a == 3)
    · rw [h1, h3] at G
      go_enter Tryz.func81, Tryz.ntmps81
      go_wp2_with (first | (go_at_call 95; refine (isOdd _ _ a0 a1).mono ?_; rintro e w' ⟨rfl, rfl⟩) | (go_at_call 96; refine (partOf _ _).mono ?_; rintro e w' ⟨rfl, rfl⟩))
      go_ret
      exact ⟨rI (by rw [G.out]; simp), _, rfl⟩
    · cases h4 : (k != 2)
      all_goals
        rw [h1, h3, h4] at G
        go_enter Tryz.func81, Tryz.ntmps81
        go_wp2_with (first | (go_at_call 95; refine (isOdd _ _ a0 a1).mono ?_; rintro e w' ⟨rfl, rfl⟩) | (go_at_call 96; refine (partOf _ _).mono ?_; rintro e w' ⟨rfl, rfl⟩))
        go_ret
        exact ⟨rI (by rw [G.out]; simp), _, rfl⟩
  · cases h2 : decide (a % 2 = 1)
    · cases h3 : (Pl.kind a == 3)
      · rw [h1, h2, h3] at G
        go_enter Tryz.func81, Tryz.ntmps81
        go_wp2_with (first | (go_at_call 95; refine (isOdd _ _ a0 a1).mono ?_; rintro e w' ⟨rfl, rfl⟩; rw [h2]) | (go_at_call 96; refine (partOf _ _).mono ?_; rintro e w' ⟨rfl, rfl⟩))
        go_ret
        exact ⟨rI (by rw [G.out]; simp), _, rfl⟩
      · cases h4 : (k != 2)
        all_goals
          rw [h1, h2, h3, h4] at G
          go_enter Tryz.func81, Tryz.ntmps81
          go_wp2_with (first | (go_at_call 95; refine (isOdd _ _ a0 a1).mono ?_; rintro e w' ⟨rfl, rfl⟩; rw [h2]) | (go_at_call 96; refine (partOf _ _).mono ?_; rintro e w' ⟨rfl, rfl⟩))
          go_ret
          exact ⟨rI (by rw [G.out]; simp), _, rfl⟩
    · rw [h1, h2] at G
      go_enter Tryz.func81, Tryz.ntmps81
      go_wp2_with (first | (go_at_call 95; refine (isOdd _ _ a0 a1).mono ?_; rintro e w' ⟨rfl, rfl⟩; rw [h2]) | (go_at_call 96; refine (partOf _ _).mono ?_; rintro e w' ⟨rfl, rfl⟩))
      go_ret
      exact ⟨rI (by rw [G.out]; simp), _, rfl⟩

theorem memReadI (w : World) (xs : List Int) (s : Int) (n : Nat) (lx : xs.length = 512) (hb : Pl.bytesOk xs = true) (hs : s = 1 ∨ s = 2) (hn : (n : Int) + s ≤ 512) :
    Calls Tryz.prog 98 #[.agg (cellsOf xs), .int .i64 s, .int .i64 n] w fun e w' => e = .returned (.int .i64 (Pl.rd xs s n)) ∧ Kept 0 0 w w' := by
  rcases hs with rfl | rfl
  · exact memRead w xs 1 n lx hb (by decide) (by decide) (by omega)
  · exact memRead w xs 2 n lx hb (by decide) (by decide) (by omega)
theorem accS {w : World} {q : Nat} {k s a v c : Int} {ty : TypeId} (h : Blk w q #[.int .i64 k, .int .i64 s, .int .i64 a, .int .i64 v, .int .i64 c] ty) : w.cell? ⟨q, 1, none⟩ = some (.int .i64 s) ∧ w.cell? ⟨q, 2, none⟩ = some (.int .i64 a) ∧ w.cell? ⟨q, 3, none⟩ = some (.int .i64 v) :=
  ⟨h.cell (i := 1) rfl, h.cell (i := 2) rfl, h.cell (i := 3) rfl⟩
theorem accR {w : World} {q : Nat} {k s a v c : Int} {ty : TypeId} (h : Blk w q #[.int .i64 k, .int .i64 s, .int .i64 a, .int .i64 v, .int .i64 c] ty) : w.cell? ⟨q, 1, none⟩ = some (.int .i64 s) ∧ w.cell? ⟨q, 2, none⟩ = some (.int .i64 a) :=
  ⟨h.cell (i := 1) rfl, h.cell (i := 2) rfl⟩

namespace Pl
theorem rd_bd {xs : List Int} {s : Int} {i : Nat} (hb : bytesOk xs = true) (hs : s = 1 ∨ s = 2) (hi : (i : Int) + s ≤ xs.length) : 0 ≤ rd xs s i ∧ rd xs s i ≤ (if s = 1 then 255 else 65535) := by
  unfold rd
  rcases hs with rfl | rfl
  · rw [if_pos rfl, if_pos rfl]; exact bytesOk_at hb i (by omega)
  · rw [if_neg (by decide), if_neg (by decide)]
    have := bytesOk_at hb i (by omega)
    have := bytesOk_at hb (i + 1) (by omega)
    omega
theorem code_bd (k s a : Int) : 0 ≤ code k s a ∧ code k s a ≤ 3 := by
  unfold code
  repeat' split
  all_goals omega
theorem lv_bd {xs : List Int} {k s a v : Int} (hl : xs.length = 512) (hb : bytesOk xs = true) (h : askOk k s a v = true) : 0 ≤ lv xs k s a v ∧ lv xs k s a v ≤ (if s = 1 then 255 else 65535) := by
  obtain ⟨_, hs, v0, ⟨a0, a1⟩, _⟩ := ask_ok h
  unfold lv
  split
  · rename_i hc
    have := code_low hc.1 a0
    exact rd_bd hb (by omega) (by omega)
  · rcases hs with ⟨rfl, h1⟩ | ⟨rfl, h1⟩
    · rw [if_pos rfl]; omega
    · rw [if_neg (by decide)]; omega
theorem acc_logs {xs : List Int} {k s a v : Int} (hl : xs.length = 512) (hb : bytesOk xs = true) (h : askOk k s a v = true) : accOk k s a (lv xs k s a v) (code k s a) = ((k != 3) || (code k s a != 0)) := by
  have hv := lv_bd hl hb h
  have hc := code_bd k s a
  obtain ⟨hk, hs, _, ⟨a0, a1⟩, _⟩ := ask_ok h
  have e1 : accKind k = true := by simp [accKind]; omega
  have e2 : okv s (lv xs k s a v) = true := by
    unfold okv top
    rcases hs with ⟨rfl, _⟩ | ⟨rfl, _⟩
    · rw [if_pos rfl] at hv; simp; omega
    · rw [if_neg (by decide)] at hv; simp; omega
  have e3 : addr a = true := by simp [addr]; omega
  have e4 : (decide (0 ≤ code k s a) && decide (code k s a ≤ 3)) = true := by simp; omega
  unfold accOk
  rw [e1, e2, e3, e4]
  rfl
end Pl

end Go.Proofs.YtblddehlkaolbaaGreat

