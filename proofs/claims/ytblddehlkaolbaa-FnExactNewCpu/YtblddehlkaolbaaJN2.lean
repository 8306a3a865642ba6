/- What the laws' own functions over Cpu and Fault do: size, comparison, marks. What the model's tests of words and operands answer. What the models of chapter 6 answer that make registers: NewRegs, l6Own. Which blocks a call may have written: all but those of a kind are as they were. What the program's test of a value of a size answers: one contract a function; none changes the world. What the model's StepCpu answers, for every processor. How long the lists of a processor that is answered are. What the model of NewBus answers, for every two lists. A store of what lies there already changes nothing. What the model's NewCpu answers, of every list and number. What the program's tests of bytes answer; none changes the world. What the program's functions over the bytes of a bus as one array answer. -/
import Derived.Test.YtblddehlkaolbaaJN1
import Derived.BigQuiet
import Derived.Deep.QuietTactic
import Derived.Deep.AppendLies
import Derived.Deep.RegionHeld3
import Derived.Deep.RegionWith
import Derived.BigRegion
import Derived.Deep.DeepCutAuto
import Derived.Maps.AppendAt
import Derived.Laws.AppendOwnNone
import Derived.Deep.RegionLawGrows
import Derived.Laws.CopyOwn
import Derived.Deep.WholeRow
namespace Go.Proofs.Ytblddehlkaolbaa
open Go.RowKit
set_option linter.unusedVariables false
/-- of the blocks that were there all but two are as they were -/
structure KeptB (p q : Option Nat) (w w' : World) : Prop where
  os : w'.os = w.os
  tape : w'.tape = w.tape
  output : w'.output = w.output
  size : w.heap.size ≤ w'.heap.size
  block : ∀ k, k < w.heap.size → some k ≠ p → some k ≠ q → w'.heap[k]? = w.heap[k]?
theorem kb_of {p q : Option Nat} {w X w1 w2 : World} (k : Kept 0 0 w X) (g1 : X.grownBy w1 p) (g2 : w1.grownBy w2 q) : KeptB p q w w2 :=
  ⟨(g2.os.trans g1.os).trans k.os, (g2.tape.trans g1.tape).trans k.tape, (g2.output.trans g1.output).trans k.output, Nat.le_trans k.size (Nat.le_trans g1.size g2.size), fun i hi h1 h2 =>
    (g2.block i (Nat.lt_of_lt_of_le (Nat.lt_of_lt_of_le hi k.size) g1.size) h2).trans ((g1.block i (Nat.lt_of_lt_of_le hi k.size) h1).trans (k.block i hi (by omega)))⟩
theorem Own.keptB {w w' : World} {g : Nat} {xs : List Int} {p q : Option Nat} (h : Own w g xs) (k : KeptB p q w w') (h1 : some g ≠ p) (h2 : some g ≠ q) : Own w' g xs := by
  intro i hi
  obtain ⟨hc, hf⟩ := h i hi
  have e := k.block g (World.block_lt_of_cell? _ _ hc) h1 h2
  exact ⟨by rw [World.cell?_of_block (w := w) e]; exact hc, by rw [World.frozen?_of_block (w := w) e]; exact hf⟩
theorem SlotIn.keptB {w w' : World} {lo hi : Nat} {a : Option Addr} {xs : List Int} {p q : Option Nat} (h : SlotIn w lo hi a xs) (k : KeptB p q w w') (h1 : ∀ g, blk a = some g → some g ≠ p) (h2 : ∀ g, blk a = some g → some g ≠ q) : SlotIn w' lo hi a xs := by
  rcases h with h | ⟨g, ea, b0, b1, ho⟩
  · exact .inl h
  · exact .inr ⟨g, ea, b0, b1, ho.keptB k (h1 g (by rw [ea]; rfl)) (h2 g (by rw [ea]; rfl))⟩
theorem markRegs2 (w : World) (lo hi : Nat) (o pc fl mk : Int) (su tr : Bool) (a b : Option Addr) (ca cb : Nat) (xs ys : List Int) (q : Int) (ha : SlotIn w lo hi a xs) (hb : SlotIn w lo hi b ys) (hab : ∀ g, blk a = some g → blk b ≠ some g) (hh : hi ≤ w.heap.size) (lx : xs.length ≤ 2000000) (ly : ys.length ≤ 2000000) (q0 : 0 ≤ q) (q1 : q ≤ 10000000) :
    Calls Try.prog 34 #[.agg #[.slice a xs.length ca, .slice b ys.length cb, .int .i64 o, .int .i64 pc, .int .i64 fl, .int .i64 mk, .bool su, .bool tr], .int .i64 q] w fun e w' => e = .returned (.int .i64 (q + (xs.length : Int) + (ys.length : Int))) ∧ SlotIn w' lo hi a (marks q xs.length) ∧ SlotIn w' lo hi b (marks (q + (xs.length : Int)) ys.length) ∧ Kept lo hi w w' ∧ KeptB (blk a) (blk b) w w' := by
  have HA := hide ha
  have HB := hide hb
  have HAB := hide hab
  clear ha hb hab
  go_enter Try.func34, Try.ntmps34
  go_wp2_with fail
  have k0 := kept_alloc w (.cells #[.slice a xs.length ca, .slice b ys.length cb, .int .i64 o, .int .i64 pc, .int .i64 fl, .int .i64 mk, .bool su, .bool tr] 24)
  have s0 := HA.out.kept k0 (by omega)
  have t0 := HB.out.kept k0 (by omega)
  refine (markSlot _ lo ca a xs q (s0.slot (by simp; omega)) lx q0 (by omega)).mono ?_
  rintro e w1 ⟨rfl, s1, g1⟩
  have k1 := kept_row g1 s0.blk_in
  have s1' := s0.again s1
  have B0 := (Blk.new w #[.slice a xs.length ca, .slice b ys.length cb, .int .i64 o, .int .i64 pc, .int .i64 fl, .int .i64 mk, .bool su, .bool tr] 24).kept k1 (by omega)
  have c1 := B0.cell (i := 1) rfl
  have t1 : SlotIn w1 lo hi b ys := by
    rcases t0 with t | ⟨g, eb, b0, b1, ho⟩
    · exact .inl t
    · refine .inr ⟨g, eb, b0, b1, ho.kept g1 ?_⟩
      intro e
      exact HAB.out g e.symm (by rw [eb]; rfl)
  have HG1 := hide g1
  have HK0 := hide k0
  have HK1 := hide ((k0.any (lo := lo) (hi := hi)).trans k1)
  have HS1 := hide s1'
  have HT1 := hide t1
  clear k0 s0 t0 s1 g1 k1 s1' t1 B0
  go_wp2_with fail
  refine (markSlot _ lo cb b ys (q + (xs.length : Int)) (HT1.out.slot (Nat.le_trans hh HK1.out.size)) ly (by omega) (by omega)).mono ?_
  rintro e w2 ⟨rfl, s2, g2⟩
  have k2 := kept_row g2 HT1.out.blk_in
  have HS2 : Hid (SlotIn w2 lo hi a (marks q xs.length)) := hide (by
    rcases HS1.out with t | ⟨g, ea, b0, b1, ho⟩
    · exact .inl t
    · refine .inr ⟨g, ea, b0, b1, ho.kept g2 ?_⟩
      intro e
      exact HAB.out g (by rw [ea]; rfl) e.symm)
  have HT2 := hide (HT1.out.again s2)
  have HK2 := hide (HK1.out.trans k2)
  have HB2 := hide (kb_of HK0.out HG1.out g2)
  clear s2 g2 k2
  go_wp2_with fail
  go_ret
  exact ⟨rfl, HS2.out, HT2.out, HK2.out, HB2.out⟩

theorem markBus2 (w : World) (lo hi : Nat) (a b : Option Addr) (ca cb m : Nat) (xs ys : List Int) (q : Int) (ha : SlotIn w lo hi a xs) (hb : SlotIn w lo hi b ys) (hab : ∀ g, blk a = some g → blk b ≠ some g) (hh : hi ≤ w.heap.size) (lx : xs.length ≤ 2000000) (ly : ys.length = 5 * m) (bm : m ≤ 2000000) (q0 : 0 ≤ q) (q1 : q ≤ 10000000) :
    Calls Try.prog 35 #[.agg #[.slice a xs.length ca, .slice b m cb], .int .i64 q] w fun e w' => e = .returned (.int .i64 (q + (xs.length : Int) + 5 * (m : Int))) ∧ SlotIn w' lo hi a (marks q xs.length) ∧ SlotIn w' lo hi b (marks (q + (xs.length : Int)) (5 * m)) ∧ Kept lo hi w w' ∧ KeptB (blk a) (blk b) w w' := by
  have HY := hide ly
  have HA := hide ha
  have HB := hide hb
  have HAB := hide hab
  clear ly ha hb hab
  go_enter Try.func35, Try.ntmps35
  go_wp2_with fail
  have k0 := kept_alloc w (.cells #[.slice a xs.length ca, .slice b m cb] 27)
  have s0 := HA.out.kept k0 (by omega)
  have t0 := HB.out.kept k0 (by omega)
  refine (markSlot _ lo ca a xs q (s0.slot (by simp; omega)) lx q0 (by omega)).mono ?_
  rintro e w1 ⟨rfl, s1, g1⟩
  have k1 := kept_row g1 s0.blk_in
  have s1' := s0.again s1
  have B0 := (Blk.new w #[.slice a xs.length ca, .slice b m cb] 27).kept k1 (by omega)
  have c1 := B0.cell (i := 1) rfl
  have t1 : SlotIn w1 lo hi b ys := by
    rcases t0 with t | ⟨g, eb, b0, b1, ho⟩
    · exact .inl t
    · refine .inr ⟨g, eb, b0, b1, ho.kept g1 ?_⟩
      intro e
      exact HAB.out g e.symm (by rw [eb]; rfl)
  have HG1 := hide g1
  have HK0 := hide k0
  have HK1 := hide ((k0.any (lo := lo) (hi := hi)).trans k1)
  have HS1 := hide s1'
  have HT1 := hide t1
  clear k0 s0 t0 s1 g1 k1 s1' t1 B0
  go_wp2_with fail
  refine (markSlotA _ lo cb m b ys (q + (xs.length : Int)) (HT1.out.slot (Nat.le_trans hh HK1.out.size)) HY.out bm (by omega) (by omega)).mono ?_
  rintro e w2 ⟨rfl, s2, g2⟩
  have k2 := kept_row g2 HT1.out.blk_in
  have HS2 : Hid (SlotIn w2 lo hi a (marks q xs.length)) := hide (by
    rcases HS1.out with t | ⟨g, ea, b0, b1, ho⟩
    · exact .inl t
    · refine .inr ⟨g, ea, b0, b1, ho.kept g2 ?_⟩
      intro e
      exact HAB.out g (by rw [ea]; rfl) e.symm)
  have HT2 := hide (HT1.out.again s2)
  have HK2 := hide (HK1.out.trans k2)
  have HB2 := hide (kb_of HK0.out HG1.out g2)
  clear s2 g2 k2
  go_wp2_with fail
  go_ret
  exact ⟨rfl, HS2.out, HT2.out, HK2.out, HB2.out⟩

/-- a processor's four lists: each in a block of its own, of the span -/
structure CpSl (w : World) (lo hi : Nat) (c : Pl.Cp) (a b e q : Option Addr) : Prop where
  d : SlotIn w lo hi a c.r.xs
  a' : SlotIn w lo hi b c.r.ys
  b' : SlotIn w lo hi e c.bx
  l : SlotIn w lo hi q c.bl
  n1 : ∀ g, blk a = some g → blk b ≠ some g
  n2 : ∀ g, blk a = some g → blk e ≠ some g
  n3 : ∀ g, blk a = some g → blk q ≠ some g
  n4 : ∀ g, blk b = some g → blk e ≠ some g
  n5 : ∀ g, blk b = some g → blk q ≠ some g
  n6 : ∀ g, blk e = some g → blk q ≠ some g
theorem CpSl.kept {w w' : World} {l h lo hi : Nat} {c : Pl.Cp} {a b e q : Option Addr} (s : CpSl w l h c a b e q) (k : Kept lo hi w w') (hd : h ≤ lo ∨ hi ≤ l ∨ hi ≤ lo) : CpSl w' l h c a b e q :=
  ⟨s.d.kept k hd, s.a'.kept k hd, s.b'.kept k hd, s.l.kept k hd, s.n1, s.n2, s.n3, s.n4, s.n5, s.n6⟩
set_option maxHeartbeats 4000000 in
theorem eqCpu (w : World) (c : Pl.Cp) (a b e q a2 b2 e2 q2 : Option Addr) (ca cb ce cq ca2 cb2 ce2 cq2 : Nat) (ha : IRow w a c.r.xs) (hb : IRow w b c.r.ys) (he : IRow w e c.bx) (hq : IRow w q c.bl) (ha2 : IRow w a2 c.r.xs) (hb2 : IRow w b2 c.r.ys) (he2 : IRow w e2 c.bx) (hq2 : IRow w q2 c.bl) (lx : c.r.xs.length ≤ 2000000) (ly : c.r.ys.length ≤ 2000000) (lb : c.bx.length ≤ 2000000) (ll : c.bl.length = 5 * c.bm) (lm : c.bm ≤ 2000000) :
    Calls Try.prog 11 #[.agg #[.slice a c.r.xs.length ca, .slice b c.r.ys.length cb, .int .i64 c.r.o, .int .i64 c.r.p, .int .i64 c.r.f, .int .i64 c.r.m, .bool c.r.s, .bool c.r.t, .slice e c.bx.length ce, .slice q c.bm cq, .bool c.st, .bool c.ha], .agg #[.slice a2 c.r.xs.length ca2, .slice b2 c.r.ys.length cb2, .int .i64 c.r.o, .int .i64 c.r.p, .int .i64 c.r.f, .int .i64 c.r.m, .bool c.r.s, .bool c.r.t, .slice e2 c.bx.length ce2, .slice q2 c.bm cq2, .bool c.st, .bool c.ha]] w fun r w' => r = .returned (.bool true) ∧ Kept 0 0 w w' := by
  have K0 := hide (kept_new (kept_alloc w (.cells #[.slice a c.r.xs.length ca, .slice b c.r.ys.length cb, .int .i64 c.r.o, .int .i64 c.r.p, .int .i64 c.r.f, .int .i64 c.r.m, .bool c.r.s, .bool c.r.t, .slice e c.bx.length ce, .slice q c.bm cq, .bool c.st, .bool c.ha] 29)) (.cells #[.slice a2 c.r.xs.length ca2, .slice b2 c.r.ys.length cb2, .int .i64 c.r.o, .int .i64 c.r.p, .int .i64 c.r.f, .int .i64 c.r.m, .bool c.r.s, .bool c.r.t, .slice e2 c.bx.length ce2, .slice q2 c.bm cq2, .bool c.st, .bool c.ha] 29))
  have B0 := (Blk.new w #[.slice a c.r.xs.length ca, .slice b c.r.ys.length cb, .int .i64 c.r.o, .int .i64 c.r.p, .int .i64 c.r.f, .int .i64 c.r.m, .bool c.r.s, .bool c.r.t, .slice e c.bx.length ce, .slice q c.bm cq, .bool c.st, .bool c.ha] 29).alloc (.cells #[.slice a2 c.r.xs.length ca2, .slice b2 c.r.ys.length cb2, .int .i64 c.r.o, .int .i64 c.r.p, .int .i64 c.r.f, .int .i64 c.r.m, .bool c.r.s, .bool c.r.t, .slice e2 c.bx.length ce2, .slice q2 c.bm cq2, .bool c.st, .bool c.ha] 29)
  have B1 := Blk.new (w.alloc (.cells #[.slice a c.r.xs.length ca, .slice b c.r.ys.length cb, .int .i64 c.r.o, .int .i64 c.r.p, .int .i64 c.r.f, .int .i64 c.r.m, .bool c.r.s, .bool c.r.t, .slice e c.bx.length ce, .slice q c.bm cq, .bool c.st, .bool c.ha] 29)) #[.slice a2 c.r.xs.length ca2, .slice b2 c.r.ys.length cb2, .int .i64 c.r.o, .int .i64 c.r.p, .int .i64 c.r.f, .int .i64 c.r.m, .bool c.r.s, .bool c.r.t, .slice e2 c.bx.length ce2, .slice q2 c.bm cq2, .bool c.st, .bool c.ha] 29
  simp only [World.size_alloc] at B1
  obtain ⟨X, hX⟩ : ∃ X : World, (w.alloc (.cells #[.slice a c.r.xs.length ca, .slice b c.r.ys.length cb, .int .i64 c.r.o, .int .i64 c.r.p, .int .i64 c.r.f, .int .i64 c.r.m, .bool c.r.s, .bool c.r.t, .slice e c.bx.length ce, .slice q c.bm cq, .bool c.st, .bool c.ha] 29)).alloc (.cells #[.slice a2 c.r.xs.length ca2, .slice b2 c.r.ys.length cb2, .int .i64 c.r.o, .int .i64 c.r.p, .int .i64 c.r.f, .int .i64 c.r.m, .bool c.r.s, .bool c.r.t, .slice e2 c.bx.length ce2, .slice q2 c.bm cq2, .bool c.st, .bool c.ha] 29) = X := ⟨_, rfl⟩
  rw [hX] at K0 B0 B1
  have HB0 := hide B0
  have HB1 := hide B1
  have i0 := B0.cell (i := 0) rfl
  have i1 := B0.cell (i := 1) rfl
  have i2 := B0.cell (i := 2) rfl
  have i3 := B0.cell (i := 3) rfl
  have i4 := B0.cell (i := 4) rfl
  have i5 := B0.cell (i := 5) rfl
  have i6 := B0.cell (i := 6) rfl
  have i7 := B0.cell (i := 7) rfl
  have i8 := B0.cell (i := 8) rfl
  have i9 := B0.cell (i := 9) rfl
  have i10 := B0.cell (i := 10) rfl
  have i11 := B0.cell (i := 11) rfl
  have j0 := B1.cell (i := 0) rfl
  have j1 := B1.cell (i := 1) rfl
  have j2 := B1.cell (i := 2) rfl
  have j3 := B1.cell (i := 3) rfl
  have j4 := B1.cell (i := 4) rfl
  have j5 := B1.cell (i := 5) rfl
  have j6 := B1.cell (i := 6) rfl
  have j7 := B1.cell (i := 7) rfl
  have j8 := B1.cell (i := 8) rfl
  have j9 := B1.cell (i := 9) rfl
  have j10 := B1.cell (i := 10) rfl
  have j11 := B1.cell (i := 11) rfl
  have HL := hide ll
  have HE := hide (he.keptS K0.out)
  have HQ := hide (hq.keptS K0.out)
  have HE2 := hide (he2.keptS K0.out)
  have HQ2 := hide (hq2.keptS K0.out)
  have HA := hide (ha.keptS K0.out)
  have HB := hide (hb.keptS K0.out)
  have HA2 := hide (ha2.keptS K0.out)
  have HBB2 := hide (hb2.keptS K0.out)
  clear B0 B1 ll ha hb he hq ha2 hb2 he2 hq2
  go_enter Try.func11, Try.ntmps11
  go_wp2_with fail
  refine (eqRegs _ c.r.o c.r.p c.r.f c.r.m c.r.s c.r.t a b a2 b2 ca cb ca2 cb2 c.r.xs c.r.ys HA.out HB.out HA2.out HBB2.out lx ly).mono ?_
  rintro e9 w1 ⟨rfl, k⟩
  have K1 := hide (K0.out.trans k)
  have C0 := hide (HB0.out.kept0 k)
  have C1 := hide (HB1.out.kept0 k)
  have HE' := hide (HE.out.keptS k)
  have HQ' := hide (HQ.out.keptS k)
  have HE2' := hide (HE2.out.keptS k)
  have HQ2' := hide (HQ2.out.keptS k)
  clear k i0 j0 i1 j1 i2 j2 i3 j3 i4 j4 i5 j5 i6 j6 i7 j7 i8 j8 i9 j9 i10 j10 i11 j11
  have i8 := C0.out.cell (i := 8) rfl
  have i9 := C0.out.cell (i := 9) rfl
  have i10 := C0.out.cell (i := 10) rfl
  have i11 := C0.out.cell (i := 11) rfl
  have j8 := C1.out.cell (i := 8) rfl
  have j9 := C1.out.cell (i := 9) rfl
  have j10 := C1.out.cell (i := 10) rfl
  have j11 := C1.out.cell (i := 11) rfl
  go_wp2_with fail
  refine (eqBus _ e q e2 q2 ce cq ce2 cq2 c.bm c.bm c.bx c.bl c.bx c.bl HE'.out HQ'.out HE2'.out HQ2'.out lb lb HL.out HL.out lm lm).mono ?_
  rintro e9 w2 ⟨rfl, k⟩
  rw [show (decide (c.bx = c.bx) && decide (c.bl = c.bl)) = true from by simp]
  have K2 := hide (K1.out.trans k)
  have D0 := hide (C0.out.kept0 k)
  have D1 := hide (C1.out.kept0 k)
  clear k i8 i9 i10 i11 j8 j9 j10 j11
  have i10 := D0.out.cell (i := 10) rfl
  have i11 := D0.out.cell (i := 11) rfl
  have j10 := D1.out.cell (i := 10) rfl
  have j11 := D1.out.cell (i := 11) rfl
  go_wp2_with fail
  go_ret
  exact ⟨rfl, K2.out⟩
/-- a processor whose lists hold marks from k on -/
def Pl.mkC (c : Pl.Cp) (k : Int) : Pl.Cp := { c with r := { c.r with xs := marks k c.r.xs.length, ys := marks (k + (c.r.xs.length : Int)) c.r.ys.length }, bx := marks (k + (c.r.xs.length : Int) + (c.r.ys.length : Int)) c.bx.length, bl := marks (k + (c.r.xs.length : Int) + (c.r.ys.length : Int) + (c.bx.length : Int)) (5 * c.bm) }
def Pl.mkN (c : Pl.Cp) (k : Int) : Int := k + (c.r.xs.length : Int) + (c.r.ys.length : Int) + (c.bx.length : Int) + 5 * (c.bm : Int)
set_option maxHeartbeats 4000000 in
theorem markCpu (w : World) (lo hi : Nat) (c : Pl.Cp) (a b e q : Option Addr) (ca cb ce cq : Nat) (hs : CpSl w lo hi c a b e q) (hh : hi ≤ w.heap.size) (lx : c.r.xs.length ≤ 2000000) (ly : c.r.ys.length ≤ 2000000) (lb : c.bx.length ≤ 2000000) (ll : c.bl.length = 5 * c.bm) (lm : c.bm ≤ 2000000) :
    Calls Try.prog 14 #[.agg #[.slice a c.r.xs.length ca, .slice b c.r.ys.length cb, .int .i64 c.r.o, .int .i64 c.r.p, .int .i64 c.r.f, .int .i64 c.r.m, .bool c.r.s, .bool c.r.t, .slice e c.bx.length ce, .slice q c.bm cq, .bool c.st, .bool c.ha], .int .i64 1] w fun r w' => r = .returned (.int .i64 (Pl.mkN c 1)) ∧ CpSl w' lo hi (Pl.mkC c 1) a b e q ∧ Kept lo hi w w' := by
  have E : Hid (Pl.mkN c 1 = 1 + (c.r.xs.length : Int) + (c.r.ys.length : Int) + (c.bx.length : Int) + 5 * (c.bm : Int)) := hide rfl
  have K0 := hide (kept_alloc w (.cells #[.slice a c.r.xs.length ca, .slice b c.r.ys.length cb, .int .i64 c.r.o, .int .i64 c.r.p, .int .i64 c.r.f, .int .i64 c.r.m, .bool c.r.s, .bool c.r.t, .slice e c.bx.length ce, .slice q c.bm cq, .bool c.st, .bool c.ha] 29))
  have B0 := Blk.new w #[.slice a c.r.xs.length ca, .slice b c.r.ys.length cb, .int .i64 c.r.o, .int .i64 c.r.p, .int .i64 c.r.f, .int .i64 c.r.m, .bool c.r.s, .bool c.r.t, .slice e c.bx.length ce, .slice q c.bm cq, .bool c.st, .bool c.ha] 29
  have HS := hide (hs.kept K0.out (by omega))
  have hsz : hi ≤ (w.alloc (.cells #[.slice a c.r.xs.length ca, .slice b c.r.ys.length cb, .int .i64 c.r.o, .int .i64 c.r.p, .int .i64 c.r.f, .int .i64 c.r.m, .bool c.r.s, .bool c.r.t, .slice e c.bx.length ce, .slice q c.bm cq, .bool c.st, .bool c.ha] 29)).heap.size := by simp; omega
  obtain ⟨X, hX⟩ : ∃ X : World, w.alloc (.cells #[.slice a c.r.xs.length ca, .slice b c.r.ys.length cb, .int .i64 c.r.o, .int .i64 c.r.p, .int .i64 c.r.f, .int .i64 c.r.m, .bool c.r.s, .bool c.r.t, .slice e c.bx.length ce, .slice q c.bm cq, .bool c.st, .bool c.ha] 29) = X := ⟨_, rfl⟩
  rw [hX] at K0 B0 HS hsz
  have HB0 := hide B0
  have i0 := B0.cell (i := 0) rfl
  have i1 := B0.cell (i := 1) rfl
  have i2 := B0.cell (i := 2) rfl
  have i3 := B0.cell (i := 3) rfl
  have i4 := B0.cell (i := 4) rfl
  have i5 := B0.cell (i := 5) rfl
  have i6 := B0.cell (i := 6) rfl
  have i7 := B0.cell (i := 7) rfl
  have i8 := B0.cell (i := 8) rfl
  have i9 := B0.cell (i := 9) rfl
  have i10 := B0.cell (i := 10) rfl
  have i11 := B0.cell (i := 11) rfl
  have HL := hide ll
  clear B0 ll hs
  go_enter Try.func14, Try.ntmps14
  go_wp2_with fail
  refine (markRegs2 _ lo hi c.r.o c.r.p c.r.f c.r.m c.r.s c.r.t a b ca cb c.r.xs c.r.ys 1 HS.out.d HS.out.a' HS.out.n1 hsz (by omega) (by omega) (by decide) (by decide)).mono ?_
  rintro e9 w1 ⟨rfl, s1, s2, k, kb⟩
  have K1 := hide ((K0.out.any (lo := lo) (hi := hi)).trans k)
  have C0 := hide (HB0.out.kept k (by omega))
  have HM1 := hide s1
  have HM2 := hide s2
  have HE := hide (HS.out.b'.keptB kb (fun g h1 h2 => HS.out.n2 g h2.symm h1) (fun g h1 h2 => HS.out.n4 g h2.symm h1))
  have HQ := hide (HS.out.l.keptB kb (fun g h1 h2 => HS.out.n3 g h2.symm h1) (fun g h1 h2 => HS.out.n5 g h2.symm h1))
  have hz1 := k.size
  clear k kb s1 s2 i0 i1 i2 i3 i4 i5 i6 i7 i8 i9 i10 i11
  have i8 := C0.out.cell (i := 8) rfl
  have i9 := C0.out.cell (i := 9) rfl
  go_wp2_with fail
  refine (markBus2 _ lo hi e q ce cq c.bm c.bx c.bl (1 + (c.r.xs.length : Int) + (c.r.ys.length : Int)) HE.out HQ.out HS.out.n6 (by omega) lb HL.out lm (by omega) (by omega)).mono ?_
  rintro e9 w2 ⟨rfl, s3, s4, k, kb⟩
  have K2 := hide (K1.out.trans k)
  have HM3 := hide s3
  have HM4 := hide s4
  have HN1 := hide (HM1.out.keptB kb (fun g h1 h2 => HS.out.n2 g h1 h2.symm) (fun g h1 h2 => HS.out.n3 g h1 h2.symm))
  have HN2 := hide (HM2.out.keptB kb (fun g h1 h2 => HS.out.n4 g h1 h2.symm) (fun g h1 h2 => HS.out.n5 g h1 h2.symm))
  clear k kb s3 s4 i8 i9
  go_wp2_with fail
  go_ret
  exact ⟨rI E.out.symm, ⟨HN1.out, HN2.out, HM3.out, HM4.out, HS.out.n1, HS.out.n2, HS.out.n3, HS.out.n4, HS.out.n5, HS.out.n6⟩, K2.out⟩
set_option maxHeartbeats 4000000 in
theorem heldCpu (w : World) (c : Pl.Cp) (a b e q : Option Addr) (ca cb ce cq : Nat) (ha : IRow w a (Pl.mkC c 1).r.xs) (hb : IRow w b (Pl.mkC c 1).r.ys) (he : IRow w e (Pl.mkC c 1).bx) (hq : IRow w q (Pl.mkC c 1).bl) (lx : c.r.xs.length ≤ 400000) (ly : c.r.ys.length ≤ 400000) (lb : c.bx.length ≤ 2000000) (lm : c.bm ≤ 2000000) :
    Calls Try.prog 15 #[.agg #[.slice a c.r.xs.length ca, .slice b c.r.ys.length cb, .int .i64 c.r.o, .int .i64 c.r.p, .int .i64 c.r.f, .int .i64 c.r.m, .bool c.r.s, .bool c.r.t, .slice e c.bx.length ce, .slice q c.bm cq, .bool c.st, .bool c.ha], .int .i64 1] w fun r w' => r = .returned (.int .i64 (Pl.mkN c 1)) ∧ Kept 0 0 w w' := by
  have E : Hid (Pl.mkN c 1 = 1 + (c.r.xs.length : Int) + (c.r.ys.length : Int) + (c.bx.length : Int) + 5 * (c.bm : Int)) := hide rfl
  have K0 := hide (kept_alloc w (.cells #[.slice a c.r.xs.length ca, .slice b c.r.ys.length cb, .int .i64 c.r.o, .int .i64 c.r.p, .int .i64 c.r.f, .int .i64 c.r.m, .bool c.r.s, .bool c.r.t, .slice e c.bx.length ce, .slice q c.bm cq, .bool c.st, .bool c.ha] 29))
  have B0 := Blk.new w #[.slice a c.r.xs.length ca, .slice b c.r.ys.length cb, .int .i64 c.r.o, .int .i64 c.r.p, .int .i64 c.r.f, .int .i64 c.r.m, .bool c.r.s, .bool c.r.t, .slice e c.bx.length ce, .slice q c.bm cq, .bool c.st, .bool c.ha] 29
  have HA := hide (ha.keptS K0.out)
  have HB := hide (hb.keptS K0.out)
  have HE := hide (he.keptS K0.out)
  have HQ := hide (hq.keptS K0.out)
  obtain ⟨X, hX⟩ : ∃ X : World, w.alloc (.cells #[.slice a c.r.xs.length ca, .slice b c.r.ys.length cb, .int .i64 c.r.o, .int .i64 c.r.p, .int .i64 c.r.f, .int .i64 c.r.m, .bool c.r.s, .bool c.r.t, .slice e c.bx.length ce, .slice q c.bm cq, .bool c.st, .bool c.ha] 29) = X := ⟨_, rfl⟩
  rw [hX] at K0 B0 HA HB HE HQ
  have HB0 := hide B0
  have i0 := B0.cell (i := 0) rfl
  have i1 := B0.cell (i := 1) rfl
  have i2 := B0.cell (i := 2) rfl
  have i3 := B0.cell (i := 3) rfl
  have i4 := B0.cell (i := 4) rfl
  have i5 := B0.cell (i := 5) rfl
  have i6 := B0.cell (i := 6) rfl
  have i7 := B0.cell (i := 7) rfl
  have i8 := B0.cell (i := 8) rfl
  have i9 := B0.cell (i := 9) rfl
  have i10 := B0.cell (i := 10) rfl
  have i11 := B0.cell (i := 11) rfl
  clear B0 ha hb he hq
  go_enter Try.func15, Try.ntmps15
  go_wp2_with fail
  refine (heldRegs _ c.r.o c.r.p c.r.f c.r.m c.r.s c.r.t a b ca cb c.r.xs.length c.r.ys.length 1 HA.out HB.out (by omega) (by omega) (by decide) (by decide)).mono ?_
  rintro e9 w1 ⟨rfl, k⟩
  have K1 := hide (K0.out.trans k)
  have C0 := hide (HB0.out.kept0 k)
  have HE' := hide (HE.out.keptS k)
  have HQ' := hide (HQ.out.keptS k)
  clear k i0 i1 i2 i3 i4 i5 i6 i7 i8 i9 i10 i11
  have i8 := C0.out.cell (i := 8) rfl
  have i9 := C0.out.cell (i := 9) rfl
  go_wp2_with fail
  refine (heldBus _ e q ce cq c.bx.length c.bm (1 + (c.r.xs.length : Int) + (c.r.ys.length : Int)) HE'.out HQ'.out lb lm (by omega) (by omega)).mono ?_
  rintro e9 w2 ⟨rfl, k⟩
  have K2 := hide (K1.out.trans k)
  clear k i8 i9
  go_wp2_with fail
  go_ret
  exact ⟨rI E.out.symm, K2.out⟩
end Go.Proofs.Ytblddehlkaolbaa

namespace Go.Proofs.Ytblddehlkaolbaa
open Go.RowKit
set_option linter.unusedVariables false
theorem specWord (n : Int) (w : World) : Calls Try.prog 27 #[.int .i64 n] w fun e w' => e = .returned (.bool (Pl.wordOk n)) ∧ w' = w := by
  go_enter Try.func27, Try.ntmps27
  go_wp2_with (go_at_call 63; refine (l1In _ _ _ _).mono ?_; rintro e w' ⟨rfl, hw⟩; have hw2 := hw.symm; clear hw; subst hw2)
  go_ret
  exact ⟨rfl, rfl⟩
end Go.Proofs.Ytblddehlkaolbaa

namespace Go.Proofs.Ytblddehlkaolbaa
open Go.RowKit
set_option linter.unusedVariables false

/-- the lists of registers lie in new blocks, apart -/
def RegIn (w : World) (base : Nat) (r : Pl.Rg) (a b : Option Addr) : Prop := SlotIn w base w.heap.size a r.xs ∧ SlotIn w base w.heap.size b r.ys ∧ (∀ g, blk a = some g → blk b ≠ some g)
theorem RegIn.base {w : World} {base base1 : Nat} {r : Pl.Rg} {a b : Option Addr} (h : RegIn w base1 r a b) (hb : base ≤ base1) : RegIn w base r a b := ⟨h.1.wide hb (Nat.le_refl _), h.2.1.wide hb (Nat.le_refl _), h.2.2⟩
theorem RegIn.set {w : World} {base : Nat} {r : Pl.Rg} {a b : Option Addr} (h : RegIn w base r a b) (x i : Nat) (v : Value) (hx : x < base) : RegIn (w.setCell ⟨x, i, none⟩ v) base r a b := by
  have k : Kept x (x + 1) w (w.setCell ⟨x, i, none⟩ v) := kept_set (Kept.refl _ _ _) x i v (.inl ⟨Nat.le_refl _, by omega⟩)
  have e : (w.setCell ⟨x, i, none⟩ v).heap.size = w.heap.size := by simp
  refine ⟨?_, ?_, h.2.2⟩
  · rw [e]; exact h.1.kept k (by omega)
  · rw [e]; exact h.2.1.kept k (by omega)
theorem own_zeros {w : World} {g : Nat} {e : TypeId} (h : Blk w g #[.int .i64 0, .int .i64 0, .int .i64 0, .int .i64 0] e) : Own w g [0, 0, 0, 0] := own_of_blk (e := e) h

theorem newRegsEnd (w : World) : ∃ (a b : Option Addr) (ca cb : Nat), Ending.returned (.agg #[.slice (some ⟨w.heap.size + 1, 0, none⟩) 4 4, .slice (some ⟨w.heap.size + 1 + 1, 0, none⟩) 4 4, .int .i64 0, .int .i64 0, .int .i64 0, .int .i64 7, .bool true, .bool false]) = .returned (.agg #[.slice a Pl.rgNew.xs.length ca, .slice b Pl.rgNew.ys.length cb, .int .i64 Pl.rgNew.o, .int .i64 Pl.rgNew.p, .int .i64 Pl.rgNew.f, .int .i64 Pl.rgNew.m, .bool Pl.rgNew.s, .bool Pl.rgNew.t]) ∧ RegIn (((w.alloc (.cells #[.slice (some ⟨w.heap.size + 1, 0, none⟩) 4 4, .slice (some ⟨w.heap.size + 1 + 1, 0, none⟩) 4 4, .int .i64 0, .int .i64 0, .int .i64 0, .int .i64 7, .bool true, .bool false] 24)).alloc (.cells #[.int .i64 0, .int .i64 0, .int .i64 0, .int .i64 0] 3)).alloc (.cells #[.int .i64 0, .int .i64 0, .int .i64 0, .int .i64 0] 3)) w.heap.size Pl.rgNew a b ∧ Kept 0 0 w (((w.alloc (.cells #[.slice (some ⟨w.heap.size + 1, 0, none⟩) 4 4, .slice (some ⟨w.heap.size + 1 + 1, 0, none⟩) 4 4, .int .i64 0, .int .i64 0, .int .i64 0, .int .i64 7, .bool true, .bool false] 24)).alloc (.cells #[.int .i64 0, .int .i64 0, .int .i64 0, .int .i64 0] 3)).alloc (.cells #[.int .i64 0, .int .i64 0, .int .i64 0, .int .i64 0] 3)) := by
  have B1 := (Blk.new (w.alloc (.cells #[.slice (some ⟨w.heap.size + 1, 0, none⟩) 4 4, .slice (some ⟨w.heap.size + 1 + 1, 0, none⟩) 4 4, .int .i64 0, .int .i64 0, .int .i64 0, .int .i64 7, .bool true, .bool false] 24)) #[.int .i64 0, .int .i64 0, .int .i64 0, .int .i64 0] 3).alloc (.cells #[.int .i64 0, .int .i64 0, .int .i64 0, .int .i64 0] 3)
  have B2 := Blk.new ((w.alloc (.cells #[.slice (some ⟨w.heap.size + 1, 0, none⟩) 4 4, .slice (some ⟨w.heap.size + 1 + 1, 0, none⟩) 4 4, .int .i64 0, .int .i64 0, .int .i64 0, .int .i64 7, .bool true, .bool false] 24)).alloc (.cells #[.int .i64 0, .int .i64 0, .int .i64 0, .int .i64 0] 3)) #[.int .i64 0, .int .i64 0, .int .i64 0, .int .i64 0] 3
  simp only [World.size_alloc] at B1 B2
  exact ⟨some ⟨w.heap.size + 1, 0, none⟩, some ⟨w.heap.size + 1 + 1, 0, none⟩, 4, 4, rfl, ⟨.inr ⟨_, rfl, by omega, by simp <;> omega, own_zeros B1⟩, .inr ⟨_, rfl, by omega, by simp, own_zeros B2⟩, by intro g hg hh; simp [blk] at hg hh; omega⟩, kept_new (kept_new (kept_alloc _ _) _) _⟩
theorem specNewRegs (w : World) : Calls Try.prog 28 #[] w fun e w' => ∃ (a b : Option Addr) (ca cb : Nat), e = .returned (.agg #[.slice a Pl.rgNew.xs.length ca, .slice b Pl.rgNew.ys.length cb, .int .i64 Pl.rgNew.o, .int .i64 Pl.rgNew.p, .int .i64 Pl.rgNew.f, .int .i64 Pl.rgNew.m, .bool Pl.rgNew.s, .bool Pl.rgNew.t]) ∧ RegIn w' w.heap.size Pl.rgNew a b ∧ Kept 0 0 w w' := by
  go_enter Try.func28, Try.ntmps28
  go_wp2_with fail
  refine bodyPost_ret (v := .agg #[.slice (some ⟨w.heap.size + 1, 0, none⟩) 4 4, .slice (some ⟨w.heap.size + 1 + 1, 0, none⟩) 4 4, .int .i64 0, .int .i64 0, .int .i64 0, .int .i64 7, .bool true, .bool false]) ?_ rfl ?_
  · rw [results_one rfl]; go_simp
  · exact newRegsEnd w

end Go.Proofs.Ytblddehlkaolbaa

namespace Go.Proofs.Ytblddehlkaolbaa
open Go.RowKit
set_option linter.unusedVariables false
/-- the step's own blocks: from lo to hi, and the log's -/
def own (lo hi g k : Nat) : Prop := (lo ≤ k ∧ k < hi) ∨ k = g
end Go.Proofs.Ytblddehlkaolbaa

namespace Go.Proofs.Ytblddehlkaolbaa
open Go.RowKit
set_option linter.unusedVariables false

theorem signedAs8 (v : Int) (w : World) (lo : -9223372036854775808 ≤ v) (hi : v ≤ 9223372036854775807) :
    Calls Try.prog 88 #[.int .i64 v] w fun e w' => e = .returned (.tuple #[.int .i64 (Pl.sgnV 1 v), .bool (Pl.okv 1 v)]) ∧ w' = w := by
  by_cases h : 0 ≤ v ∧ v < 256
  · obtain ⟨h0, h1⟩ := h
    have hs : IntKind.u8.signed = false := rfl
    have hm : IntKind.u8.max = 255 := by decide
    have hb : bits .xor .u8 255 0 = 255 := by decide
    by_cases h : 127 < v
    all_goals
      go_enter Try.func88, Try.ntmps88
      go_wp2
      go_ret2
      exact ⟨rIB (by simp [Pl.sgnV, Pl.okv, Pl.sg, Pl.top, h0, h1]; omega) (by simp [Pl.okv, Pl.top, h0, h1]), rfl⟩
  · go_enter Try.func88, Try.ntmps88
    go_wp2
    go_ret2
    have k : Pl.okv 1 v = false := by
      cases c : Pl.okv 1 v
      · rfl
      · have := Pl.top_ok c; omega
    exact ⟨rIB (by simp [Pl.sgnV, k]) k.symm, rfl⟩

theorem signedAs16 (v : Int) (w : World) (lo : -9223372036854775808 ≤ v) (hi : v ≤ 9223372036854775807) :
    Calls Try.prog 89 #[.int .i64 v] w fun e w' => e = .returned (.tuple #[.int .i64 (Pl.sgnV 2 v), .bool (Pl.okv 2 v)]) ∧ w' = w := by
  by_cases h : 0 ≤ v ∧ v < 65536
  · obtain ⟨h0, h1⟩ := h
    have hs : IntKind.u16.signed = false := rfl
    have hm : IntKind.u16.max = 65535 := by decide
    have hb : bits .xor .u16 65535 0 = 65535 := by decide
    by_cases h : 32767 < v
    all_goals
      go_enter Try.func89, Try.ntmps89
      go_wp2
      go_ret2
      exact ⟨rIB (by simp [Pl.sgnV, Pl.okv, Pl.sg, Pl.top, h0, h1]; omega) (by simp [Pl.okv, Pl.top, h0, h1]), rfl⟩
  · have hw : IntKind.u16.wrap v = v % 65536 := IntKind.wrap_u16 v
    go_enter Try.func89, Try.ntmps89
    go_wp2
    go_ret2
    have k : Pl.okv 2 v = false := by
      cases c : Pl.okv 2 v
      · rfl
      · have := Pl.top_ok c; omega
    exact ⟨rIB (by simp [Pl.sgnV, k]) k.symm, rfl⟩

theorem signedOf (s v : Int) (w : World) (lo : -9223372036854775808 ≤ v) (hi : v ≤ 9223372036854775807) :
    Calls Try.prog 66 #[.int .i64 s, .int .i64 v] w fun e w' => e = .returned (.tuple #[.int .i64 (Pl.sgnV s v), .bool (Pl.okv s v)]) ∧ w' = w := by
  by_cases h1 : s = 1
  · subst h1
    go_enter Try.func66, Try.ntmps66
    go_wp2_with fail
    refine (signedAs8 v _ lo hi).mono ?_
    rintro e w' ⟨rfl, rfl⟩
    go_wp2_with fail
    go_ret2
    exact ⟨rfl, rfl⟩
  · by_cases h2 : s = 2
    · subst h2
      go_enter Try.func66, Try.ntmps66
      go_wp2_with fail
      refine (signedAs16 v _ lo hi).mono ?_
      rintro e w' ⟨rfl, rfl⟩
      go_wp2_with fail
      go_ret2
      exact ⟨rfl, rfl⟩
    · have k : Pl.okv s v = false := by simp [Pl.okv, h1, h2]
      have k1 : (s == 1) = false := by simpa using h1
      have k2 : (s == 2) = false := by simpa using h2
      go_enter Try.func66, Try.ntmps66
      go_wp2_with fail
      go_ret2
      exact ⟨rIB (by simp [Pl.sgnV, k]) k.symm, rfl⟩

end Go.Proofs.Ytblddehlkaolbaa

namespace Go.Proofs.Ytblddehlkaolbaa
open Go.RowKit
set_option linter.unusedVariables false
def cpuV (c : Pl.Cp) (a b e q : Option Addr) (ca cb ce cq : Nat) : Array Value := #[.slice a c.r.xs.length ca, .slice b c.r.ys.length cb, .int .i64 c.r.o, .int .i64 c.r.p, .int .i64 c.r.f, .int .i64 c.r.m, .bool c.r.s, .bool c.r.t, .slice e c.bx.length ce, .slice q c.bm cq, .bool c.st, .bool c.ha]
/-- a processor that is answered: its lists are new, no two of them share memory -/
structure CpuIn (w : World) (base : Nat) (c : Pl.Cp) (a b e q : Option Addr) : Prop where
  d : SlotIn w base w.heap.size a c.r.xs
  a' : SlotIn w base w.heap.size b c.r.ys
  b' : SlotIn w base w.heap.size e c.bx
  l : SlotIn w base w.heap.size q c.bl
  n1 : ∀ g, blk a = some g → blk b ≠ some g
  n2 : ∀ g, blk a = some g → blk e ≠ some g
  n3 : ∀ g, blk a = some g → blk q ≠ some g
  n4 : ∀ g, blk b = some g → blk e ≠ some g
  n5 : ∀ g, blk b = some g → blk q ≠ some g
  n6 : ∀ g, blk e = some g → blk q ≠ some g
theorem cpuIn_no (w : World) (base : Nat) : CpuIn w base Pl.cpNo none none none none :=
  ⟨.inl ⟨rfl, rfl⟩, .inl ⟨rfl, rfl⟩, .inl ⟨rfl, rfl⟩, .inl ⟨rfl, rfl⟩, by simp [blk], by simp [blk], by simp [blk], by simp [blk], by simp [blk], by simp [blk]⟩
end Go.Proofs.Ytblddehlkaolbaa

namespace Go.Proofs.Ytblddehlkaolbaa
open Go.RowKit
set_option linter.unusedVariables false
namespace Pl
structure CpLen (c : Cp) : Prop where
  d : c.r.xs.length ≤ 4
  a : c.r.ys.length ≤ 4
  b : c.bx.length ≤ 512
  l : c.bl.length = 5 * c.bm
  m : c.bm ≤ 400
theorem cpLen_no : CpLen cpNo := ⟨by decide, by decide, by decide, by decide, by decide⟩
end Pl
theorem CpuIn.sl {w : World} {base : Nat} {c : Pl.Cp} {a b e q : Option Addr} (h : CpuIn w base c a b e q) : CpSl w base w.heap.size c a b e q :=
  ⟨h.d, h.a', h.b', h.l, h.n1, h.n2, h.n3, h.n4, h.n5, h.n6⟩
end Go.Proofs.Ytblddehlkaolbaa

namespace Go.Proofs.Ytblddehlkaolbaa
open Go.RowKit
set_option linter.unusedVariables false

namespace Pl
def newOk (xs us : List Int) : Bool := bytesOk xs && (bytesOk us && (decide (xs.length ≤ 384) && decide (us.length ≤ 64)))
def newAt (xs us : List Int) (i : Nat) : Int := if i < 384 then el xs i else el us (i - 384)
def newB (xs us : List Int) : List Int := if newOk xs us = true then (List.range 512).map (newAt xs us) else []
theorem newB_ok {xs us : List Int} (h : newOk xs us = true) : newB xs us = (List.range 512).map (newAt xs us) := by simp [newB, h]
theorem newB_eq {xs us zs : List Int} (h : newOk xs us = true) (hl : zs.length = 512) (hz : ∀ i, i < 512 → el zs i = newAt xs us i) : zs = newB xs us := by
  rw [newB_ok h]
  refine ext_of (by simp [hl]) (fun i hi => ?_)
  have hi' : i < 512 := by omega
  have := hz i hi'
  unfold el at this
  rw [this]
  simp [hi']
end Pl
theorem specNewBus_good (w : World) (a c : Option Addr) (ca cc : Nat) (xs us : List Int) (ha : IRow w a xs) (hc : IRow w c us) (lx : xs.length ≤ 2000000) (lu : us.length ≤ 2000000) (h1 : Pl.bytesOk xs = true) (h2 : Pl.bytesOk us = true) (h3 : xs.length ≤ 384) (h4 : us.length ≤ 64) :
    Calls Try.prog 26 #[.slice a xs.length ca, .slice c us.length cc] w fun e w' => ∃ (b : Option Addr) (cb : Nat), e = .returned (.tuple #[.agg #[.slice b (Pl.newB xs us).length cb, .slice none 0 0], .bool (Pl.newOk xs us)]) ∧ SlotIn w' w.heap.size w'.heap.size b (Pl.newB xs us) ∧ Kept 0 0 w w' := by
  have HA := hide ha
  have HC := hide hc
  clear ha hc
  have d3 : decide ((384 : Int) < (xs.length : Int)) = false := by simp; omega
  have d4 : decide ((64 : Int) < (us.length : Int)) = false := by simp; omega
  obtain ⟨i, hi, hz0, hz1, hz2⟩ := info_parts Try.info3
  have k0 := kept_alloc w (.cells #[.slice none 0 0, .slice none 0 0] 27)
  have HK0 := hide k0
  clear k0
  go_enter Try.func26, Try.ntmps26
  go_wp2_with fail
  refine (l4Bytes _ a ca xs (HA.out.keptS HK0.out) lx).mono ?_
  rintro e w' ⟨rfl, rfl⟩
  rw [h1]
  go_wp2_with fail
  refine (l4Bytes _ c cc us (HC.out.keptS HK0.out) lu).mono ?_
  rintro e w' ⟨rfl, rfl⟩
  rw [h2]
  go_wp2_with (first | (at_make; refine wpList_make_full _ rfl _ _ 22 rfl w.heap.size 3 i (.int .i64 0) 1 Try.underlying22 hi hz0 hz1 _ _ _ _ 512 rfl rfl rfl rfl ?c1 ?c2 ?c3 ?_))
  case c1 => rw [hz2]; decide
  case c2 => unfold maxLen; decide
  case c3 => simp
  intro w1 hown hg
  have ho : Own w1 (w.heap.size + 1) (List.replicate 512 0) := own_of_row (base := w.heap.size) (n := 512) (cap := 512) (by
    have e : (madeCells #[Value.int .i64 0] 512).toList = (List.replicate 512 (0 : Int)).map (Value.int .i64) := by
      rw [toList_madeCells_one, List.map_replicate]
    rw [← e]; exact hown)
  have hs : w.heap.size + 1 < w1.heap.size := (hown.lt _ rfl).2
  have HK1 := hide (HK0.out.trans (kept_grown hg))
  have HR1 := hide ((Blk.new w #[.slice none 0 0, .slice none 0 0] 27).kept0 (kept_grown hg))
  have HO := hide ho
  have HS := hide hs
  clear hown hg ho hs HK0
  go_wp2_with fail
  go_loopw [7, 8, 34] (fun _ _ j wr => ∃ (k : Nat) (zs : List Int), k ≤ xs.length ∧ j = .int .i64 k ∧ zs.length = 512 ∧ Own wr (w.heap.size + 1) zs ∧ (∀ i, i < 512 → el zs i = if i < k then el xs i else 0) ∧ Blk wr w1.heap.size #[.slice (some ⟨w.heap.size + 1, 0, none⟩) 512 512, .slice none 0 0] 27 ∧ Blk wr w.heap.size #[.slice none 0 0, .slice none 0 0] 27 ∧ Kept 0 0 w wr) (fun _ _ j _ => xs.length - (intOf j).toNat)
  case atStart =>
    have h512 : ∀ i, i < 512 → el (List.replicate 512 (0 : Int)) i = if i < 0 then el xs i else 0 := by
      intro i hi
      unfold el
      rw [if_neg (Nat.not_lt_zero i), List.getElem?_replicate, if_pos hi]; rfl
    exact ⟨0, _, Nat.zero_le _, rfl, List.length_replicate .., HO.out.keptS (kept_alloc _ _) (by omega), h512, Blk.new _ _ _, HR1.out.alloc _, kept_new HK1.out _⟩
  case round =>
    obtain ⟨k, zs, hk, rfl, hl, hown, heq, hB, hR, hkept⟩ := hrel
    have HE := hide heq
    have HL := hide hl
    have HO1 := hide hown
    have HB1 := hide hB
    have HR := hide hR
    have HK := hide hkept
    clear heq hl hkept hR
    have b0 := hB.cell (i := 0) rfl
    clear hB
    by_cases hlt : k < xs.length
    · obtain ⟨g1, o1, rfl, p0⟩ := (HA.out.keptS HK.out) k hlt
      rw [show xs[k]?.getD 0 = el xs k from rfl] at p0
      obtain ⟨q0, q1⟩ := hown k (by have := HL.out; omega)
      have hk5 : k < 512 := by omega
      clear hown
      go_wp2
      go_roundw
      case rel =>
        have hz : k < zs.length := by have := HL.out; omega
        have hS := HS.out
        refine ⟨k + 1, zs.set k (el xs k), by omega, by go_num, by rw [List.length_set]; exact HL.out, HO1.out.set _, ?_, HB1.out.other _ _ _ (by omega), HR.out.other _ _ _ (by omega), kept_set HK.out _ _ _ (.inr (by omega))⟩
        intro i hi
        rw [el_set hz, HE.out i hi]
        by_cases e : i = k
        · subst e; simp
        · simp only [e, if_false]
          by_cases e2 : i < k
          · simp [e2, show i < k + 1 from by omega]
          · simp [e2, show ¬ i < k + 1 from by omega]
      case measure => simp [intOf]; omega
    · clear hown
      have HE2 : Hid (∀ i, i < 512 → el zs i = if i < 384 then el xs i else 0) := hide (by
        intro i hi
        rw [HE.out i hi]
        by_cases e : i < k
        · rw [if_pos e, if_pos (by omega)]
        · rw [if_neg e]
          by_cases e2 : i < 384
          · rw [if_pos e2, Pl.el_out (by omega)]
          · rw [if_neg e2])
      clear HE
      go_wp2_with fail
      go_loopw [9, 10, 47] (fun _ _ j wx => ∃ (n : Nat) (ts : List Int), n ≤ us.length ∧ j = .int .i64 n ∧ ts.length = 512 ∧ Own wx (w.heap.size + 1) ts ∧ (∀ i, i < 512 → el ts i = if i < 384 then el xs i else if i < 384 + n then el us (i - 384) else 0) ∧ Blk wx w1.heap.size #[.slice (some ⟨w.heap.size + 1, 0, none⟩) 512 512, .slice none 0 0] 27 ∧ Blk wx w.heap.size #[.slice none 0 0, .slice none 0 0] 27 ∧ Kept 0 0 w wx) (fun _ _ j _ => us.length - (intOf j).toNat)
      case atStart =>
        refine ⟨0, zs, Nat.zero_le _, rfl, HL.out, HO1.out, ?_, HB1.out, HR.out, HK.out⟩
        intro i hi
        rw [HE2.out i hi]
        by_cases e : i < 384
        · rw [if_pos e, if_pos e]
        · rw [if_neg e, if_neg e, if_neg (by omega)]
      case round =>
        obtain ⟨n, ts, hn, rfl, hl, hown, heq, hB, hR, hkept⟩ := hrel
        have HE3 := hide heq
        have HL3 := hide hl
        have HO3 := hide hown
        have HB3 := hide hB
        have HR3 := hide hR
        have HK3 := hide hkept
        have b1 := hB.cell (i := 0) rfl
        have b2 := hB.cell (i := 1) rfl
        have r0 := hR.cell (i := 0) rfl
        have r1 := hR.cell (i := 1) rfl
        have f0 := hR.frozen 0
        have f1 := hR.frozen 1
        clear heq hl hkept hR hB b0
        by_cases hlt2 : n < us.length
        · obtain ⟨g1, o1, rfl, p0⟩ := (HC.out.keptS HK3.out) n hlt2
          rw [show us[n]?.getD 0 = el us n from rfl] at p0
          obtain ⟨q0, q1⟩ := hown (384 + n) (by have := HL3.out; omega)
          have hk5 : n < 64 := by omega
          clear hown
          go_wp2
          go_roundw
          case rel =>
            have hz : 384 + n < ts.length := by have := HL3.out; omega
            have hS := HS.out
            refine ⟨n + 1, ts.set (384 + n) (el us n), by omega, by go_num, by rw [List.length_set]; exact HL3.out, HO3.out.set _, ?_, HB3.out.other _ _ _ (by omega), HR3.out.other _ _ _ (by omega), kept_set HK3.out _ _ _ (.inr (by omega))⟩
            intro i hi
            rw [el_set hz, HE3.out i hi]
            by_cases e : i = 384 + n
            · subst e
              rw [if_pos rfl, if_neg (by omega), if_pos (by omega), show 384 + n - 384 = n from by omega]
            · rw [if_neg e]
              by_cases e2 : i < 384
              · rw [if_pos e2, if_pos e2]
              · rw [if_neg e2, if_neg e2]
                by_cases e3 : i < 384 + n
                · rw [if_pos e3, if_pos (by omega)]
                · rw [if_neg e3, if_neg (by omega)]
          case measure => simp [intOf]; omega
        · clear hown
          have hok : Pl.newOk xs us = true := by simp [Pl.newOk, h1, h2, h3, h4]
          have HT : Hid (ts = Pl.newB xs us) := hide (Pl.newB_eq hok HL3.out (fun i hi => by
            rw [HE3.out i hi]
            unfold Pl.newAt
            by_cases e : i < 384
            · rw [if_pos e, if_pos e]
            · rw [if_neg e, if_neg e]
              by_cases e3 : i < 384 + n
              · rw [if_pos e3]
              · rw [if_neg e3, Pl.el_out (by omega)]))
          have HOK := hide hok
          clear hok
          go_wp2_with fail
          have hT := HT.out
          have hL := HL3.out
          have hS := HS.out
          refine bodyPost_ret (v := .tuple #[.agg #[.slice (some ⟨w.heap.size + 1, 0, none⟩) 512 512, .slice none 0 0], .bool true]) ?_ rfl ⟨some ⟨w.heap.size + 1, 0, none⟩, 512, ?_, ?_, ?_⟩
          · rw [results_cell_tmp rfl]; go_simp
          · rw [← hT, hL, HOK.out]
          · rw [← hT]
            exact .inr ⟨_, rfl, by omega, by have := HK3.out.size; have := HB3.out.lt; simp; omega, (HO3.out.setOther _ _ _ (by omega)).setOther _ _ _ (by omega)⟩
          · exact kept_set (kept_set HK3.out _ _ _ (.inr (by omega))) _ _ _ (.inr (by omega))

theorem specNewBus (w : World) (a c : Option Addr) (ca cc : Nat) (xs us : List Int) (ha : IRow w a xs) (hc : IRow w c us) (lx : xs.length ≤ 2000000) (lu : us.length ≤ 2000000) :
    Calls Try.prog 26 #[.slice a xs.length ca, .slice c us.length cc] w fun e w' => ∃ (b : Option Addr) (cb : Nat), e = .returned (.tuple #[.agg #[.slice b (Pl.newB xs us).length cb, .slice none 0 0], .bool (Pl.newOk xs us)]) ∧ SlotIn w' w.heap.size w'.heap.size b (Pl.newB xs us) ∧ Kept 0 0 w w' := by
  cases hok : Pl.newOk xs us
  · have K : Hid (Pl.newOk xs us = false ∧ Pl.newB xs us = []) := hide (by simp [Pl.newB, hok])
    have HA := hide ha
    have HC := hide hc
    clear ha hc
    have HK0 := hide (kept_alloc w (.cells #[.slice none 0 0, .slice none 0 0] 27))
    have H : Pl.bytesOk xs = false ∨ (Pl.bytesOk xs = true ∧ Pl.bytesOk us = false) ∨ (Pl.bytesOk xs = true ∧ Pl.bytesOk us = true ∧ decide ((384 : Int) < (xs.length : Int)) = true) ∨ (Pl.bytesOk xs = true ∧ Pl.bytesOk us = true ∧ decide ((384 : Int) < (xs.length : Int)) = false ∧ decide ((64 : Int) < (us.length : Int)) = true) := by
      unfold Pl.newOk at hok
      cases hb1 : Pl.bytesOk xs
      · exact .inl rfl
      · cases hb2 : Pl.bytesOk us
        · exact .inr (.inl ⟨rfl, rfl⟩)
        · by_cases e : xs.length ≤ 384
          · refine .inr (.inr (.inr ⟨rfl, rfl, by simp; omega, ?_⟩))
            simp [hb1, hb2, e] at hok
            simp; omega
          · exact .inr (.inr (.inl ⟨rfl, rfl, by simp; omega⟩))
    clear hok
    rcases H with h1 | ⟨h1, h2⟩ | ⟨h1, h2, h3⟩ | ⟨h1, h2, h3, h4⟩
    · go_enter Try.func26, Try.ntmps26
      go_wp2_with fail
      refine (l4Bytes _ a ca xs (HA.out.keptS HK0.out) lx).mono ?_
      rintro e w' ⟨rfl, rfl⟩
      rw [h1]
      go_wp2_with fail
      refine bodyPost_ret (v := .tuple #[.agg #[.slice none 0 0, .slice none 0 0], .bool false]) ?_ rfl ⟨none, 0, ?_, ?_, HK0.out⟩
      · rw [results_cell_tmp rfl]; go_simp
      · rw [K.out.2]; rfl
      · rw [K.out.2]; exact .inl ⟨rfl, rfl⟩
    all_goals
      go_enter Try.func26, Try.ntmps26
      go_wp2_with fail
      refine (l4Bytes _ a ca xs (HA.out.keptS HK0.out) lx).mono ?_
      rintro e w' ⟨rfl, rfl⟩
      rw [h1]
      go_wp2_with fail
      refine (l4Bytes _ c cc us (HC.out.keptS HK0.out) lu).mono ?_
      rintro e w' ⟨rfl, rfl⟩
      rw [h2]
      go_wp2_with fail
      refine bodyPost_ret (v := .tuple #[.agg #[.slice none 0 0, .slice none 0 0], .bool false]) ?_ rfl ⟨none, 0, ?_, ?_, HK0.out⟩
      · rw [results_cell_tmp rfl]; go_simp
      · rw [K.out.2]; rfl
      · rw [K.out.2]; exact .inl ⟨rfl, rfl⟩
  · have h := hok
    simp only [Pl.newOk, Bool.and_eq_true, decide_eq_true_eq] at h
    have := specNewBus_good w a c ca cc xs us ha hc lx lu h.1 h.2.1 h.2.2.1 h.2.2.2
    rw [hok] at this
    exact this
end Go.Proofs.Ytblddehlkaolbaa

namespace Go.Proofs.Ytblddehlkaolbaa
open Go.RowKit
theorem set_same2 (w : World) (x y : Value) (t : TypeId) : (w.alloc (.cells #[x, y] t)).setCell ⟨w.heap.size, 1, none⟩ y = w.alloc (.cells #[x, y] t) := by
  have e : ((w.alloc (.cells #[x, y] t)).setCell ⟨w.heap.size, 1, none⟩ y).heap = (w.alloc (.cells #[x, y] t)).heap := by
    unfold World.setCell
    dsimp only
    refine Array.ext (by simp) (fun i h1 h2 => ?_)
    rw [Array.getElem_modify]
    split
    · rename_i h
      subst h
      have e2 : (w.alloc (.cells #[x, y] t)).heap[w.heap.size] = .cells #[x, y] t := (Array.getElem?_eq_some_iff.1 (heap_alloc_new w (.cells #[x, y] t))).2
      rw [e2]
      rfl
    · rfl
  unfold World.setCell at e ⊢
  simp only at e ⊢
  rw [e]
end Go.Proofs.Ytblddehlkaolbaa

namespace Go.Proofs.Ytblddehlkaolbaa
open Go.RowKit
set_option linter.unusedVariables false
def Pl.ncOk (xs : List Int) (pc : Int) : Bool := Pl.newOk xs [] && Pl.wordOk pc
def Pl.ncC (xs : List Int) (pc : Int) : Pl.Cp := bif Pl.ncOk xs pc then { r := { Pl.rgNew with p := pc, ys := [0, 0, 0, 384] }, bx := Pl.newB xs [], bl := [], bm := 0, st := false, ha := false } else Pl.cpNo
theorem results_cell_tmp1 {fn : Func} {p u1 : Tmp} {ty : TypeId} (h : fn.results = #[.cell p ty, .tmp u1]) (tmps : Array Value) (P : Program) (w : World) :
    (results fn tmps).run P w = ((asAddr (tmps.getD p undef)).run P w).andThen fun a w₁ => ((loadVar ty a).run P w₁).andThen fun v w₂ => .ok (.tuple #[v, tmps.getD u1 undef]) w₂ := by
  simp only [results, h]
  simp [Sem.run_bind, Result.andThen]
set_option maxRecDepth 20000 in
set_option maxHeartbeats 4000000 in
theorem specNewCpu_bad (w : World) (a : Option Addr) (ca : Nat) (xs : List Int) (pc : Int) (ha : IRow w a xs) (lx : xs.length ≤ 2000000) (h1 : Pl.newOk xs [] = false) (h2 : True) :
    Calls Try.prog 8 #[.slice a xs.length ca, .int .i64 pc] w fun r w' => ∃ (a' b' e' q' : Option Addr) (ca' cb' ce' cq' : Nat), r = .returned (.tuple #[.agg (cpuV (Pl.ncC xs pc) a' b' e' q' ca' cb' ce' cq'), .bool (Pl.ncOk xs pc)]) ∧ CpuIn w' w.heap.size (Pl.ncC xs pc) a' b' e' q' ∧ Kept 0 0 w w' := by
  have EO : Hid (Pl.ncOk xs pc = false) := hide (by unfold Pl.ncOk; rw [h1]; simp)
  have EC : Hid (Pl.ncC xs pc = Pl.cpNo) := hide (by unfold Pl.ncC; rw [EO.out]; rfl)
  have H1 := hide h1
  have H2 := hide h2
  clear h1 h2
  have K0 := hide (kept_alloc w (.cells #[.slice none 0 0, .slice none 0 0, .int .i64 0, .int .i64 0, .int .i64 0, .int .i64 0, .bool false, .bool false, .slice none 0 0, .slice none 0 0, .bool false, .bool false] 29))
  have BR := Blk.new w #[.slice none 0 0, .slice none 0 0, .int .i64 0, .int .i64 0, .int .i64 0, .int .i64 0, .bool false, .bool false, .slice none 0 0, .slice none 0 0, .bool false, .bool false] 29
  obtain ⟨X, hX⟩ : ∃ X : World, w.alloc (.cells #[.slice none 0 0, .slice none 0 0, .int .i64 0, .int .i64 0, .int .i64 0, .int .i64 0, .bool false, .bool false, .slice none 0 0, .slice none 0 0, .bool false, .bool false] 29) = X := ⟨_, rfl⟩
  have szX : X.heap.size = w.heap.size + 1 := by rw [← hX]; simp
  rw [hX] at K0 BR
  have HR := hide BR
  have HA := hide (ha.keptS K0.out)
  clear BR ha
  have r0 := HR.out.cell (i := 0) rfl
  have rf0 := HR.out.frozen 0
  have r1 := HR.out.cell (i := 1) rfl
  have rf1 := HR.out.frozen 1
  have r2 := HR.out.cell (i := 2) rfl
  have rf2 := HR.out.frozen 2
  have r3 := HR.out.cell (i := 3) rfl
  have rf3 := HR.out.frozen 3
  have r4 := HR.out.cell (i := 4) rfl
  have rf4 := HR.out.frozen 4
  have r5 := HR.out.cell (i := 5) rfl
  have rf5 := HR.out.frozen 5
  have r6 := HR.out.cell (i := 6) rfl
  have rf6 := HR.out.frozen 6
  have r7 := HR.out.cell (i := 7) rfl
  have rf7 := HR.out.frozen 7
  have r8 := HR.out.cell (i := 8) rfl
  have rf8 := HR.out.frozen 8
  have r9 := HR.out.cell (i := 9) rfl
  have rf9 := HR.out.frozen 9
  have r10 := HR.out.cell (i := 10) rfl
  have rf10 := HR.out.frozen 10
  have r11 := HR.out.cell (i := 11) rfl
  have rf11 := HR.out.frozen 11
  go_enter Try.func8, Try.ntmps8
  go_wp2_with fail
  refine (specNewBus _ a none ca 0 xs [] HA.out (fun i hi => absurd hi (Nat.not_lt_zero i)) lx (by simp)).mono ?_
  rintro e9 w1 ⟨e, ce, rfl, hs9, k9⟩
  rw [H1.out]
  have HS1 := hide hs9
  have K1 := hide (K0.out.trans k9)
  have HR1 := hide (HR.out.kept0 k9)
  have kz1 := k9.size
  clear hs9 k9 r0 rf0 r1 rf1 r2 rf2 r3 rf3 r4 rf4 r5 rf5 r6 rf6 r7 rf7 r8 rf8 r9 rf9 r10 rf10 r11 rf11
  have KY := kept_alloc w1 (.cells #[.slice e (Pl.newB xs []).length ce, .slice none 0 0] 27)
  have BY := Blk.new w1 #[.slice e (Pl.newB xs []).length ce, .slice none 0 0] 27
  obtain ⟨Y, hY⟩ : ∃ Y : World, w1.alloc (.cells #[.slice e (Pl.newB xs []).length ce, .slice none 0 0] 27) = Y := ⟨_, rfl⟩
  have szY : Y.heap.size = w1.heap.size + 1 := by simp [← hY]
  have hYY : Y.setCell ⟨w1.heap.size, 1, none⟩ (.slice none 0 0) = Y := by rw [← hY, set_same2]
  rw [hY] at KY BY
  have HS2 := hide (HS1.out.kept KY (by omega))
  have K2 := hide (K1.out.trans KY)
  have HR2 := hide (HR1.out.kept0 KY)
  have HBY := hide BY
  clear KY BY
  have r0 := HR2.out.cell (i := 0) rfl
  have rf0 := HR2.out.frozen 0
  have r1 := HR2.out.cell (i := 1) rfl
  have rf1 := HR2.out.frozen 1
  have r2 := HR2.out.cell (i := 2) rfl
  have rf2 := HR2.out.frozen 2
  have r3 := HR2.out.cell (i := 3) rfl
  have rf3 := HR2.out.frozen 3
  have r4 := HR2.out.cell (i := 4) rfl
  have rf4 := HR2.out.frozen 4
  have r5 := HR2.out.cell (i := 5) rfl
  have rf5 := HR2.out.frozen 5
  have r6 := HR2.out.cell (i := 6) rfl
  have rf6 := HR2.out.frozen 6
  have r7 := HR2.out.cell (i := 7) rfl
  have rf7 := HR2.out.frozen 7
  have r8 := HR2.out.cell (i := 8) rfl
  have rf8 := HR2.out.frozen 8
  have r9 := HR2.out.cell (i := 9) rfl
  have rf9 := HR2.out.frozen 9
  have r10 := HR2.out.cell (i := 10) rfl
  have rf10 := HR2.out.frozen 10
  have r11 := HR2.out.cell (i := 11) rfl
  have rf11 := HR2.out.frozen 11
  have b0 := HBY.out.cell (i := 0) rfl
  have bf0 := HBY.out.frozen 0
  have b1 := HBY.out.cell (i := 1) rfl
  have bf1 := HBY.out.frozen 1
  go_wp2_with (go_at_call 27; refine (specWord _ _).mono ?_; rintro e9 w9 ⟨rfl, hw⟩; have hw2 := hw.symm; clear hw; subst hw2; fail)
  refine bodyPost_ret (v := .tuple #[.agg (cpuV (Pl.ncC xs pc) none none none none 0 0 0 0), .bool (Pl.ncOk xs pc)]) ?_ rfl ⟨none, none, none, none, 0, 0, 0, 0, rfl, by rw [EC.out]; exact cpuIn_no _ _, ?kw⟩
  case kw => repeat (first | with_reducible exact K2.out | refine kept_set ?_ _ _ _ (.inr (by omega)))
  rw [results_cell_tmp1 rfl, EC.out, EO.out]; go_simp; first | rfl | exact ⟨rfl, rfl⟩
set_option maxRecDepth 20000 in
set_option maxHeartbeats 4000000 in
theorem specNewCpu_badp (w : World) (a : Option Addr) (ca : Nat) (xs : List Int) (pc : Int) (ha : IRow w a xs) (lx : xs.length ≤ 2000000) (h1 : Pl.newOk xs [] = true) (h2 : Pl.wordOk pc = false) :
    Calls Try.prog 8 #[.slice a xs.length ca, .int .i64 pc] w fun r w' => ∃ (a' b' e' q' : Option Addr) (ca' cb' ce' cq' : Nat), r = .returned (.tuple #[.agg (cpuV (Pl.ncC xs pc) a' b' e' q' ca' cb' ce' cq'), .bool (Pl.ncOk xs pc)]) ∧ CpuIn w' w.heap.size (Pl.ncC xs pc) a' b' e' q' ∧ Kept 0 0 w w' := by
  have EO : Hid (Pl.ncOk xs pc = false) := hide (by unfold Pl.ncOk; rw [h1, h2]; simp)
  have EC : Hid (Pl.ncC xs pc = Pl.cpNo) := hide (by unfold Pl.ncC; rw [EO.out]; rfl)
  have H1 := hide h1
  have H2 := hide h2
  clear h1 h2
  have K0 := hide (kept_alloc w (.cells #[.slice none 0 0, .slice none 0 0, .int .i64 0, .int .i64 0, .int .i64 0, .int .i64 0, .bool false, .bool false, .slice none 0 0, .slice none 0 0, .bool false, .bool false] 29))
  have BR := Blk.new w #[.slice none 0 0, .slice none 0 0, .int .i64 0, .int .i64 0, .int .i64 0, .int .i64 0, .bool false, .bool false, .slice none 0 0, .slice none 0 0, .bool false, .bool false] 29
  obtain ⟨X, hX⟩ : ∃ X : World, w.alloc (.cells #[.slice none 0 0, .slice none 0 0, .int .i64 0, .int .i64 0, .int .i64 0, .int .i64 0, .bool false, .bool false, .slice none 0 0, .slice none 0 0, .bool false, .bool false] 29) = X := ⟨_, rfl⟩
  have szX : X.heap.size = w.heap.size + 1 := by rw [← hX]; simp
  rw [hX] at K0 BR
  have HR := hide BR
  have HA := hide (ha.keptS K0.out)
  clear BR ha
  have r0 := HR.out.cell (i := 0) rfl
  have rf0 := HR.out.frozen 0
  have r1 := HR.out.cell (i := 1) rfl
  have rf1 := HR.out.frozen 1
  have r2 := HR.out.cell (i := 2) rfl
  have rf2 := HR.out.frozen 2
  have r3 := HR.out.cell (i := 3) rfl
  have rf3 := HR.out.frozen 3
  have r4 := HR.out.cell (i := 4) rfl
  have rf4 := HR.out.frozen 4
  have r5 := HR.out.cell (i := 5) rfl
  have rf5 := HR.out.frozen 5
  have r6 := HR.out.cell (i := 6) rfl
  have rf6 := HR.out.frozen 6
  have r7 := HR.out.cell (i := 7) rfl
  have rf7 := HR.out.frozen 7
  have r8 := HR.out.cell (i := 8) rfl
  have rf8 := HR.out.frozen 8
  have r9 := HR.out.cell (i := 9) rfl
  have rf9 := HR.out.frozen 9
  have r10 := HR.out.cell (i := 10) rfl
  have rf10 := HR.out.frozen 10
  have r11 := HR.out.cell (i := 11) rfl
  have rf11 := HR.out.frozen 11
  go_enter Try.func8, Try.ntmps8
  go_wp2_with fail
  refine (specNewBus _ a none ca 0 xs [] HA.out (fun i hi => absurd hi (Nat.not_lt_zero i)) lx (by simp)).mono ?_
  rintro e9 w1 ⟨e, ce, rfl, hs9, k9⟩
  rw [H1.out]
  have HS1 := hide hs9
  have K1 := hide (K0.out.trans k9)
  have HR1 := hide (HR.out.kept0 k9)
  have kz1 := k9.size
  clear hs9 k9 r0 rf0 r1 rf1 r2 rf2 r3 rf3 r4 rf4 r5 rf5 r6 rf6 r7 rf7 r8 rf8 r9 rf9 r10 rf10 r11 rf11
  have KY := kept_alloc w1 (.cells #[.slice e (Pl.newB xs []).length ce, .slice none 0 0] 27)
  have BY := Blk.new w1 #[.slice e (Pl.newB xs []).length ce, .slice none 0 0] 27
  obtain ⟨Y, hY⟩ : ∃ Y : World, w1.alloc (.cells #[.slice e (Pl.newB xs []).length ce, .slice none 0 0] 27) = Y := ⟨_, rfl⟩
  have szY : Y.heap.size = w1.heap.size + 1 := by simp [← hY]
  have hYY : Y.setCell ⟨w1.heap.size, 1, none⟩ (.slice none 0 0) = Y := by rw [← hY, set_same2]
  rw [hY] at KY BY
  have HS2 := hide (HS1.out.kept KY (by omega))
  have K2 := hide (K1.out.trans KY)
  have HR2 := hide (HR1.out.kept0 KY)
  have HBY := hide BY
  clear KY BY
  have r0 := HR2.out.cell (i := 0) rfl
  have rf0 := HR2.out.frozen 0
  have r1 := HR2.out.cell (i := 1) rfl
  have rf1 := HR2.out.frozen 1
  have r2 := HR2.out.cell (i := 2) rfl
  have rf2 := HR2.out.frozen 2
  have r3 := HR2.out.cell (i := 3) rfl
  have rf3 := HR2.out.frozen 3
  have r4 := HR2.out.cell (i := 4) rfl
  have rf4 := HR2.out.frozen 4
  have r5 := HR2.out.cell (i := 5) rfl
  have rf5 := HR2.out.frozen 5
  have r6 := HR2.out.cell (i := 6) rfl
  have rf6 := HR2.out.frozen 6
  have r7 := HR2.out.cell (i := 7) rfl
  have rf7 := HR2.out.frozen 7
  have r8 := HR2.out.cell (i := 8) rfl
  have rf8 := HR2.out.frozen 8
  have r9 := HR2.out.cell (i := 9) rfl
  have rf9 := HR2.out.frozen 9
  have r10 := HR2.out.cell (i := 10) rfl
  have rf10 := HR2.out.frozen 10
  have r11 := HR2.out.cell (i := 11) rfl
  have rf11 := HR2.out.frozen 11
  have b0 := HBY.out.cell (i := 0) rfl
  have bf0 := HBY.out.frozen 0
  have b1 := HBY.out.cell (i := 1) rfl
  have bf1 := HBY.out.frozen 1
  go_wp2_with (go_at_call 27; refine (specWord _ _).mono ?_; rintro e9 w9 ⟨rfl, hw⟩; have hw2 := hw.symm; clear hw; subst hw2; rw [H2.out])
  refine bodyPost_ret (v := .tuple #[.agg (cpuV (Pl.ncC xs pc) none none none none 0 0 0 0), .bool (Pl.ncOk xs pc)]) ?_ rfl ⟨none, none, none, none, 0, 0, 0, 0, rfl, by rw [EC.out]; exact cpuIn_no _ _, ?kw⟩
  case kw => repeat (first | with_reducible exact K2.out | refine kept_set ?_ _ _ _ (.inr (by omega)))
  rw [results_cell_tmp1 rfl, EC.out, EO.out]; go_simp; first | rfl | exact ⟨rfl, rfl⟩
theorem specNewRegsX (w : World) : Calls Try.prog 28 #[] w fun e w' => ∃ ga gb ca cb : Nat, e = .returned (.agg #[.slice (some ⟨ga, 0, none⟩) 4 ca, .slice (some ⟨gb, 0, none⟩) 4 cb, .int .i64 0, .int .i64 0, .int .i64 0, .int .i64 7, .bool true, .bool false]) ∧ Own w' ga [0, 0, 0, 0] ∧ Own w' gb [0, 0, 0, 0] ∧ w.heap.size ≤ ga ∧ ga < w'.heap.size ∧ w.heap.size ≤ gb ∧ gb < w'.heap.size ∧ ga ≠ gb ∧ Kept 0 0 w w' := by
  refine (specNewRegs w).mono ?_
  rintro e w' ⟨a, b, ca, cb, rfl, ⟨sa, sb, hab⟩, k⟩
  rcases sa with ⟨_, h⟩ | ⟨ga, rfl, a0, a1, oa⟩
  · cases h
  · rcases sb with ⟨_, h⟩ | ⟨gb, rfl, b0, b1, ob⟩
    · cases h
    · exact ⟨ga, gb, ca, cb, rfl, oa, ob, a0, a1, b0, b1, fun e => hab ga rfl (by rw [e]; rfl), k⟩
set_option maxRecDepth 100000 in
set_option maxHeartbeats 8000000 in
theorem specNewCpu_ok (w : World) (a : Option Addr) (ca : Nat) (xs : List Int) (pc : Int) (ha : IRow w a xs) (lx : xs.length ≤ 2000000) (h1 : Pl.newOk xs [] = true) (h2 : Pl.wordOk pc = true) :
    Calls Try.prog 8 #[.slice a xs.length ca, .int .i64 pc] w fun r w' => ∃ (a' b' e' q' : Option Addr) (ca' cb' ce' cq' : Nat), r = .returned (.tuple #[.agg (cpuV (Pl.ncC xs pc) a' b' e' q' ca' cb' ce' cq'), .bool (Pl.ncOk xs pc)]) ∧ CpuIn w' w.heap.size (Pl.ncC xs pc) a' b' e' q' ∧ Kept 0 0 w w' := by
  have EO : Hid (Pl.ncOk xs pc = true) := hide (by unfold Pl.ncOk; rw [h1, h2]; rfl)
  have EC : Hid (Pl.ncC xs pc = { r := { Pl.rgNew with p := pc, ys := [0, 0, 0, 384] }, bx := Pl.newB xs [], bl := [], bm := 0, st := false, ha := false }) := hide (by unfold Pl.ncC; rw [EO.out]; rfl)
  have H1 := hide h1
  have H2 := hide h2
  clear h1 h2
  have K0 := hide (kept_alloc w (.cells #[.slice none 0 0, .slice none 0 0, .int .i64 0, .int .i64 0, .int .i64 0, .int .i64 0, .bool false, .bool false, .slice none 0 0, .slice none 0 0, .bool false, .bool false] 29))
  have BR := Blk.new w #[.slice none 0 0, .slice none 0 0, .int .i64 0, .int .i64 0, .int .i64 0, .int .i64 0, .bool false, .bool false, .slice none 0 0, .slice none 0 0, .bool false, .bool false] 29
  obtain ⟨X, hX⟩ : ∃ X : World, w.alloc (.cells #[.slice none 0 0, .slice none 0 0, .int .i64 0, .int .i64 0, .int .i64 0, .int .i64 0, .bool false, .bool false, .slice none 0 0, .slice none 0 0, .bool false, .bool false] 29) = X := ⟨_, rfl⟩
  have szX : X.heap.size = w.heap.size + 1 := by rw [← hX]; simp
  rw [hX] at K0 BR
  have HR := hide BR
  have HA := hide (ha.keptS K0.out)
  clear BR ha
  have r0 := HR.out.cell (i := 0) rfl
  have rf0 := HR.out.frozen 0
  have r1 := HR.out.cell (i := 1) rfl
  have rf1 := HR.out.frozen 1
  have r2 := HR.out.cell (i := 2) rfl
  have rf2 := HR.out.frozen 2
  have r3 := HR.out.cell (i := 3) rfl
  have rf3 := HR.out.frozen 3
  have r4 := HR.out.cell (i := 4) rfl
  have rf4 := HR.out.frozen 4
  have r5 := HR.out.cell (i := 5) rfl
  have rf5 := HR.out.frozen 5
  have r6 := HR.out.cell (i := 6) rfl
  have rf6 := HR.out.frozen 6
  have r7 := HR.out.cell (i := 7) rfl
  have rf7 := HR.out.frozen 7
  have r8 := HR.out.cell (i := 8) rfl
  have rf8 := HR.out.frozen 8
  have r9 := HR.out.cell (i := 9) rfl
  have rf9 := HR.out.frozen 9
  have r10 := HR.out.cell (i := 10) rfl
  have rf10 := HR.out.frozen 10
  have r11 := HR.out.cell (i := 11) rfl
  have rf11 := HR.out.frozen 11
  go_enter Try.func8, Try.ntmps8
  go_wp2_with fail
  refine (specNewBus _ a none ca 0 xs [] HA.out (fun i hi => absurd hi (Nat.not_lt_zero i)) lx (by simp)).mono ?_
  rintro e9 w1 ⟨e, ce, rfl, hs9, k9⟩
  rw [H1.out]
  have HS1 := hide hs9
  have K1 := hide (K0.out.trans k9)
  have HR1 := hide (HR.out.kept0 k9)
  have kz1 := k9.size
  clear hs9 k9 r0 rf0 r1 rf1 r2 rf2 r3 rf3 r4 rf4 r5 rf5 r6 rf6 r7 rf7 r8 rf8 r9 rf9 r10 rf10 r11 rf11
  have KY := kept_alloc w1 (.cells #[.slice e (Pl.newB xs []).length ce, .slice none 0 0] 27)
  have BY := Blk.new w1 #[.slice e (Pl.newB xs []).length ce, .slice none 0 0] 27
  obtain ⟨Y, hY⟩ : ∃ Y : World, w1.alloc (.cells #[.slice e (Pl.newB xs []).length ce, .slice none 0 0] 27) = Y := ⟨_, rfl⟩
  have szY : Y.heap.size = w1.heap.size + 1 := by simp [← hY]
  have hYY : Y.setCell ⟨w1.heap.size, 1, none⟩ (.slice none 0 0) = Y := by rw [← hY, set_same2]
  rw [hY] at KY BY
  have HS2 := hide (HS1.out.kept KY (by omega))
  have K2 := hide (K1.out.trans KY)
  have HR2 := hide (HR1.out.kept0 KY)
  have HBY := hide BY
  clear KY BY
  have r0 := HR2.out.cell (i := 0) rfl
  have rf0 := HR2.out.frozen 0
  have r1 := HR2.out.cell (i := 1) rfl
  have rf1 := HR2.out.frozen 1
  have r2 := HR2.out.cell (i := 2) rfl
  have rf2 := HR2.out.frozen 2
  have r3 := HR2.out.cell (i := 3) rfl
  have rf3 := HR2.out.frozen 3
  have r4 := HR2.out.cell (i := 4) rfl
  have rf4 := HR2.out.frozen 4
  have r5 := HR2.out.cell (i := 5) rfl
  have rf5 := HR2.out.frozen 5
  have r6 := HR2.out.cell (i := 6) rfl
  have rf6 := HR2.out.frozen 6
  have r7 := HR2.out.cell (i := 7) rfl
  have rf7 := HR2.out.frozen 7
  have r8 := HR2.out.cell (i := 8) rfl
  have rf8 := HR2.out.frozen 8
  have r9 := HR2.out.cell (i := 9) rfl
  have rf9 := HR2.out.frozen 9
  have r10 := HR2.out.cell (i := 10) rfl
  have rf10 := HR2.out.frozen 10
  have r11 := HR2.out.cell (i := 11) rfl
  have rf11 := HR2.out.frozen 11
  have b0 := HBY.out.cell (i := 0) rfl
  have bf0 := HBY.out.frozen 0
  have b1 := HBY.out.cell (i := 1) rfl
  have bf1 := HBY.out.frozen 1
  go_wp2_with (go_at_call 27; refine (specWord _ _).mono ?_; rintro e9 w9 ⟨rfl, hw⟩; have hw2 := hw.symm; clear hw; subst hw2; rw [H2.out])
  refine (specNewRegsX _).mono ?_
  rintro e9 w2 ⟨ga, gb, c1, c2, rfl, oa, ob, a0, a1, b0', b1', hab, k9⟩
  have HR3 := hide (HR2.out.kept0 k9)
  have HB3 := hide (HBY.out.kept0 k9)
  have K3 := hide (K2.out.trans k9)
  have HS3 := hide (HS2.out.kept k9 (by omega))
  have kz2 := k9.size
  have OA := hide oa
  have OB := hide ob
  obtain ⟨cb3, fb3⟩ := ob 3 (by decide)
  clear k9 oa ob hX hY hYY b0 b1 bf0 bf1 r0 rf0 r1 rf1 r2 rf2 r3 rf3 r4 rf4 r5 rf5 r6 rf6 r7 rf7 r8 rf8 r9 rf9 r10 rf10 r11 rf11
  have sz3 : (w2.setCell ⟨gb, 3, none⟩ (.int .i64 384)).heap.size = w2.heap.size := by simp
  have K4 : Kept 0 0 w ((w2.setCell ⟨gb, 3, none⟩ (.int .i64 384)).alloc (.cells #[.slice (some ⟨ga, 0, none⟩) 4 c1, .slice (some ⟨gb, 0, none⟩) 4 c2, .int .i64 0, .int .i64 pc, .int .i64 0, .int .i64 7, .bool true, .bool false] 24)) := kept_new (kept_set K3.out gb 3 _ (.inr (by omega))) _
  have BR4 : Blk ((w2.setCell ⟨gb, 3, none⟩ (.int .i64 384)).alloc (.cells #[.slice (some ⟨ga, 0, none⟩) 4 c1, .slice (some ⟨gb, 0, none⟩) 4 c2, .int .i64 0, .int .i64 pc, .int .i64 0, .int .i64 7, .bool true, .bool false] 24)) w.heap.size #[.slice none 0 0, .slice none 0 0, .int .i64 0, .int .i64 0, .int .i64 0, .int .i64 0, .bool false, .bool false, .slice none 0 0, .slice none 0 0, .bool false, .bool false] 29 := (HR3.out.other gb 3 _ (by omega)).alloc _
  have BB4 : Blk ((w2.setCell ⟨gb, 3, none⟩ (.int .i64 384)).alloc (.cells #[.slice (some ⟨ga, 0, none⟩) 4 c1, .slice (some ⟨gb, 0, none⟩) 4 c2, .int .i64 0, .int .i64 pc, .int .i64 0, .int .i64 7, .bool true, .bool false] 24)) w1.heap.size #[.slice e (Pl.newB xs []).length ce, .slice none 0 0] 27 := (HB3.out.other gb 3 _ (by omega)).alloc _
  have BG4 : Blk ((w2.setCell ⟨gb, 3, none⟩ (.int .i64 384)).alloc (.cells #[.slice (some ⟨ga, 0, none⟩) 4 c1, .slice (some ⟨gb, 0, none⟩) 4 c2, .int .i64 0, .int .i64 pc, .int .i64 0, .int .i64 7, .bool true, .bool false] 24)) w2.heap.size #[.slice (some ⟨ga, 0, none⟩) 4 c1, .slice (some ⟨gb, 0, none⟩) 4 c2, .int .i64 0, .int .i64 pc, .int .i64 0, .int .i64 7, .bool true, .bool false] 24 := by
    have := Blk.new (w2.setCell ⟨gb, 3, none⟩ (.int .i64 384)) #[.slice (some ⟨ga, 0, none⟩) 4 c1, .slice (some ⟨gb, 0, none⟩) 4 c2, .int .i64 0, .int .i64 pc, .int .i64 0, .int .i64 7, .bool true, .bool false] 24
    rwa [sz3] at this
  have O1 : Own ((w2.setCell ⟨gb, 3, none⟩ (.int .i64 384)).alloc (.cells #[.slice (some ⟨ga, 0, none⟩) 4 c1, .slice (some ⟨gb, 0, none⟩) 4 c2, .int .i64 0, .int .i64 pc, .int .i64 0, .int .i64 7, .bool true, .bool false] 24)) ga [0, 0, 0, 0] := (OA.out.setOther gb 3 _ hab).keptS (kept_alloc _ _) (by omega)
  have O2 : Own ((w2.setCell ⟨gb, 3, none⟩ (.int .i64 384)).alloc (.cells #[.slice (some ⟨ga, 0, none⟩) 4 c1, .slice (some ⟨gb, 0, none⟩) 4 c2, .int .i64 0, .int .i64 pc, .int .i64 0, .int .i64 7, .bool true, .bool false] 24)) gb [0, 0, 0, 384] := (OB.out.set (k := 3) 384).keptS (kept_alloc _ _) (by omega)
  have S4 : SlotIn ((w2.setCell ⟨gb, 3, none⟩ (.int .i64 384)).alloc (.cells #[.slice (some ⟨ga, 0, none⟩) 4 c1, .slice (some ⟨gb, 0, none⟩) 4 c2, .int .i64 0, .int .i64 pc, .int .i64 0, .int .i64 7, .bool true, .bool false] 24)) X.heap.size w1.heap.size e (Pl.newB xs []) := (HS3.out.kept (kept_set (lo := gb) (hi := gb + 1) (Kept.refl _ _ w2) gb 3 (.int .i64 384) (.inl (by omega))) (by omega)).kept (kept_alloc _ _) (by omega)
  have szV : ((w2.setCell ⟨gb, 3, none⟩ (.int .i64 384)).alloc (.cells #[.slice (some ⟨ga, 0, none⟩) 4 c1, .slice (some ⟨gb, 0, none⟩) 4 c2, .int .i64 0, .int .i64 pc, .int .i64 0, .int .i64 7, .bool true, .bool false] 24)).heap.size = w2.heap.size + 1 := by simp
  obtain ⟨V, hV⟩ : ∃ V : World, (w2.setCell ⟨gb, 3, none⟩ (.int .i64 384)).alloc (.cells #[.slice (some ⟨ga, 0, none⟩) 4 c1, .slice (some ⟨gb, 0, none⟩) 4 c2, .int .i64 0, .int .i64 pc, .int .i64 0, .int .i64 7, .bool true, .bool false] 24) = V := ⟨_, rfl⟩
  rw [hV] at K4 BR4 BB4 BG4 O1 O2 S4 szV
  replace K4 := hide K4
  replace O1 := hide O1
  replace O2 := hide O2
  replace S4 := hide S4
  have r0 := BR4.cell (i := 0) rfl
  have rf0 := BR4.frozen 0
  have r1 := BR4.cell (i := 1) rfl
  have rf1 := BR4.frozen 1
  have r2 := BR4.cell (i := 2) rfl
  have rf2 := BR4.frozen 2
  have r3 := BR4.cell (i := 3) rfl
  have rf3 := BR4.frozen 3
  have r4 := BR4.cell (i := 4) rfl
  have rf4 := BR4.frozen 4
  have r5 := BR4.cell (i := 5) rfl
  have rf5 := BR4.frozen 5
  have r6 := BR4.cell (i := 6) rfl
  have rf6 := BR4.frozen 6
  have r7 := BR4.cell (i := 7) rfl
  have rf7 := BR4.frozen 7
  have r8 := BR4.cell (i := 8) rfl
  have rf8 := BR4.frozen 8
  have r9 := BR4.cell (i := 9) rfl
  have rf9 := BR4.frozen 9
  have r10 := BR4.cell (i := 10) rfl
  have rf10 := BR4.frozen 10
  have r11 := BR4.cell (i := 11) rfl
  have rf11 := BR4.frozen 11
  have b0 := BB4.cell (i := 0) rfl
  have b1 := BB4.cell (i := 1) rfl
  have g0 := BG4.cell (i := 0) rfl
  have g1 := BG4.cell (i := 1) rfl
  have g2 := BG4.cell (i := 2) rfl
  have g3 := BG4.cell (i := 3) rfl
  have g4 := BG4.cell (i := 4) rfl
  have g5 := BG4.cell (i := 5) rfl
  have g6 := BG4.cell (i := 6) rfl
  have g7 := BG4.cell (i := 7) rfl
  have HR4 := hide BR4
  clear BR4 BB4 BG4
  go_wp2_with fail
  clear hV
  have FF_0 : Blk (V.setCell ⟨w.heap.size, 0, none⟩ (.slice (some ⟨ga, 0, none⟩) 4 c1)) (w.heap.size) #[.slice (some ⟨ga, 0, none⟩) 4 c1, .slice none 0 0, .int .i64 0, .int .i64 0, .int .i64 0, .int .i64 0, .bool false, .bool false, .slice none 0 0, .slice none 0 0, .bool false, .bool false] 29 := HR4.out.set 0 (.slice (some ⟨ga, 0, none⟩) 4 c1)
  have FF_1 : Blk ((V.setCell ⟨w.heap.size, 0, none⟩ (.slice (some ⟨ga, 0, none⟩) 4 c1)).setCell ⟨w.heap.size, 1, none⟩ (.slice (some ⟨gb, 0, none⟩) 4 c2)) (w.heap.size) #[.slice (some ⟨ga, 0, none⟩) 4 c1, .slice (some ⟨gb, 0, none⟩) 4 c2, .int .i64 0, .int .i64 0, .int .i64 0, .int .i64 0, .bool false, .bool false, .slice none 0 0, .slice none 0 0, .bool false, .bool false] 29 := FF_0.set 1 (.slice (some ⟨gb, 0, none⟩) 4 c2)
  have FF_2 : Blk (((V.setCell ⟨w.heap.size, 0, none⟩ (.slice (some ⟨ga, 0, none⟩) 4 c1)).setCell ⟨w.heap.size, 1, none⟩ (.slice (some ⟨gb, 0, none⟩) 4 c2)).setCell ⟨w.heap.size, 2, none⟩ (.int .i64 0)) (w.heap.size) #[.slice (some ⟨ga, 0, none⟩) 4 c1, .slice (some ⟨gb, 0, none⟩) 4 c2, .int .i64 0, .int .i64 0, .int .i64 0, .int .i64 0, .bool false, .bool false, .slice none 0 0, .slice none 0 0, .bool false, .bool false] 29 := FF_1.set 2 (.int .i64 0)
  have FF_3 : Blk ((((V.setCell ⟨w.heap.size, 0, none⟩ (.slice (some ⟨ga, 0, none⟩) 4 c1)).setCell ⟨w.heap.size, 1, none⟩ (.slice (some ⟨gb, 0, none⟩) 4 c2)).setCell ⟨w.heap.size, 2, none⟩ (.int .i64 0)).setCell ⟨w.heap.size, 3, none⟩ (.int .i64 pc)) (w.heap.size) #[.slice (some ⟨ga, 0, none⟩) 4 c1, .slice (some ⟨gb, 0, none⟩) 4 c2, .int .i64 0, .int .i64 pc, .int .i64 0, .int .i64 0, .bool false, .bool false, .slice none 0 0, .slice none 0 0, .bool false, .bool false] 29 := FF_2.set 3 (.int .i64 pc)
  have FF_4 : Blk (((((V.setCell ⟨w.heap.size, 0, none⟩ (.slice (some ⟨ga, 0, none⟩) 4 c1)).setCell ⟨w.heap.size, 1, none⟩ (.slice (some ⟨gb, 0, none⟩) 4 c2)).setCell ⟨w.heap.size, 2, none⟩ (.int .i64 0)).setCell ⟨w.heap.size, 3, none⟩ (.int .i64 pc)).setCell ⟨w.heap.size, 4, none⟩ (.int .i64 0)) (w.heap.size) #[.slice (some ⟨ga, 0, none⟩) 4 c1, .slice (some ⟨gb, 0, none⟩) 4 c2, .int .i64 0, .int .i64 pc, .int .i64 0, .int .i64 0, .bool false, .bool false, .slice none 0 0, .slice none 0 0, .bool false, .bool false] 29 := FF_3.set 4 (.int .i64 0)
  have FF_5 : Blk ((((((V.setCell ⟨w.heap.size, 0, none⟩ (.slice (some ⟨ga, 0, none⟩) 4 c1)).setCell ⟨w.heap.size, 1, none⟩ (.slice (some ⟨gb, 0, none⟩) 4 c2)).setCell ⟨w.heap.size, 2, none⟩ (.int .i64 0)).setCell ⟨w.heap.size, 3, none⟩ (.int .i64 pc)).setCell ⟨w.heap.size, 4, none⟩ (.int .i64 0)).setCell ⟨w.heap.size, 5, none⟩ (.int .i64 7)) (w.heap.size) #[.slice (some ⟨ga, 0, none⟩) 4 c1, .slice (some ⟨gb, 0, none⟩) 4 c2, .int .i64 0, .int .i64 pc, .int .i64 0, .int .i64 7, .bool false, .bool false, .slice none 0 0, .slice none 0 0, .bool false, .bool false] 29 := FF_4.set 5 (.int .i64 7)
  have FF_6 : Blk (((((((V.setCell ⟨w.heap.size, 0, none⟩ (.slice (some ⟨ga, 0, none⟩) 4 c1)).setCell ⟨w.heap.size, 1, none⟩ (.slice (some ⟨gb, 0, none⟩) 4 c2)).setCell ⟨w.heap.size, 2, none⟩ (.int .i64 0)).setCell ⟨w.heap.size, 3, none⟩ (.int .i64 pc)).setCell ⟨w.heap.size, 4, none⟩ (.int .i64 0)).setCell ⟨w.heap.size, 5, none⟩ (.int .i64 7)).setCell ⟨w.heap.size, 6, none⟩ (.bool true)) (w.heap.size) #[.slice (some ⟨ga, 0, none⟩) 4 c1, .slice (some ⟨gb, 0, none⟩) 4 c2, .int .i64 0, .int .i64 pc, .int .i64 0, .int .i64 7, .bool true, .bool false, .slice none 0 0, .slice none 0 0, .bool false, .bool false] 29 := FF_5.set 6 (.bool true)
  have FF_7 : Blk ((((((((V.setCell ⟨w.heap.size, 0, none⟩ (.slice (some ⟨ga, 0, none⟩) 4 c1)).setCell ⟨w.heap.size, 1, none⟩ (.slice (some ⟨gb, 0, none⟩) 4 c2)).setCell ⟨w.heap.size, 2, none⟩ (.int .i64 0)).setCell ⟨w.heap.size, 3, none⟩ (.int .i64 pc)).setCell ⟨w.heap.size, 4, none⟩ (.int .i64 0)).setCell ⟨w.heap.size, 5, none⟩ (.int .i64 7)).setCell ⟨w.heap.size, 6, none⟩ (.bool true)).setCell ⟨w.heap.size, 7, none⟩ (.bool false)) (w.heap.size) #[.slice (some ⟨ga, 0, none⟩) 4 c1, .slice (some ⟨gb, 0, none⟩) 4 c2, .int .i64 0, .int .i64 pc, .int .i64 0, .int .i64 7, .bool true, .bool false, .slice none 0 0, .slice none 0 0, .bool false, .bool false] 29 := FF_6.set 7 (.bool false)
  have FF_8 : Blk (((((((((V.setCell ⟨w.heap.size, 0, none⟩ (.slice (some ⟨ga, 0, none⟩) 4 c1)).setCell ⟨w.heap.size, 1, none⟩ (.slice (some ⟨gb, 0, none⟩) 4 c2)).setCell ⟨w.heap.size, 2, none⟩ (.int .i64 0)).setCell ⟨w.heap.size, 3, none⟩ (.int .i64 pc)).setCell ⟨w.heap.size, 4, none⟩ (.int .i64 0)).setCell ⟨w.heap.size, 5, none⟩ (.int .i64 7)).setCell ⟨w.heap.size, 6, none⟩ (.bool true)).setCell ⟨w.heap.size, 7, none⟩ (.bool false)).setCell ⟨w.heap.size, 8, none⟩ (.slice e (Pl.newB xs []).length ce)) (w.heap.size) #[.slice (some ⟨ga, 0, none⟩) 4 c1, .slice (some ⟨gb, 0, none⟩) 4 c2, .int .i64 0, .int .i64 pc, .int .i64 0, .int .i64 7, .bool true, .bool false, .slice e (Pl.newB xs []).length ce, .slice none 0 0, .bool false, .bool false] 29 := FF_7.set 8 (.slice e (Pl.newB xs []).length ce)
  have FF_9 : Blk ((((((((((V.setCell ⟨w.heap.size, 0, none⟩ (.slice (some ⟨ga, 0, none⟩) 4 c1)).setCell ⟨w.heap.size, 1, none⟩ (.slice (some ⟨gb, 0, none⟩) 4 c2)).setCell ⟨w.heap.size, 2, none⟩ (.int .i64 0)).setCell ⟨w.heap.size, 3, none⟩ (.int .i64 pc)).setCell ⟨w.heap.size, 4, none⟩ (.int .i64 0)).setCell ⟨w.heap.size, 5, none⟩ (.int .i64 7)).setCell ⟨w.heap.size, 6, none⟩ (.bool true)).setCell ⟨w.heap.size, 7, none⟩ (.bool false)).setCell ⟨w.heap.size, 8, none⟩ (.slice e (Pl.newB xs []).length ce)).setCell ⟨w.heap.size, 9, none⟩ (.slice none 0 0)) (w.heap.size) #[.slice (some ⟨ga, 0, none⟩) 4 c1, .slice (some ⟨gb, 0, none⟩) 4 c2, .int .i64 0, .int .i64 pc, .int .i64 0, .int .i64 7, .bool true, .bool false, .slice e (Pl.newB xs []).length ce, .slice none 0 0, .bool false, .bool false] 29 := FF_8.set 9 (.slice none 0 0)
  have FF_10 : Blk (((((((((((V.setCell ⟨w.heap.size, 0, none⟩ (.slice (some ⟨ga, 0, none⟩) 4 c1)).setCell ⟨w.heap.size, 1, none⟩ (.slice (some ⟨gb, 0, none⟩) 4 c2)).setCell ⟨w.heap.size, 2, none⟩ (.int .i64 0)).setCell ⟨w.heap.size, 3, none⟩ (.int .i64 pc)).setCell ⟨w.heap.size, 4, none⟩ (.int .i64 0)).setCell ⟨w.heap.size, 5, none⟩ (.int .i64 7)).setCell ⟨w.heap.size, 6, none⟩ (.bool true)).setCell ⟨w.heap.size, 7, none⟩ (.bool false)).setCell ⟨w.heap.size, 8, none⟩ (.slice e (Pl.newB xs []).length ce)).setCell ⟨w.heap.size, 9, none⟩ (.slice none 0 0)).setCell ⟨w.heap.size, 10, none⟩ (.bool false)) (w.heap.size) #[.slice (some ⟨ga, 0, none⟩) 4 c1, .slice (some ⟨gb, 0, none⟩) 4 c2, .int .i64 0, .int .i64 pc, .int .i64 0, .int .i64 7, .bool true, .bool false, .slice e (Pl.newB xs []).length ce, .slice none 0 0, .bool false, .bool false] 29 := FF_9.set 10 (.bool false)
  have FF : Blk ((((((((((((V.setCell ⟨w.heap.size, 0, none⟩ (.slice (some ⟨ga, 0, none⟩) 4 c1)).setCell ⟨w.heap.size, 1, none⟩ (.slice (some ⟨gb, 0, none⟩) 4 c2)).setCell ⟨w.heap.size, 2, none⟩ (.int .i64 0)).setCell ⟨w.heap.size, 3, none⟩ (.int .i64 pc)).setCell ⟨w.heap.size, 4, none⟩ (.int .i64 0)).setCell ⟨w.heap.size, 5, none⟩ (.int .i64 7)).setCell ⟨w.heap.size, 6, none⟩ (.bool true)).setCell ⟨w.heap.size, 7, none⟩ (.bool false)).setCell ⟨w.heap.size, 8, none⟩ (.slice e (Pl.newB xs []).length ce)).setCell ⟨w.heap.size, 9, none⟩ (.slice none 0 0)).setCell ⟨w.heap.size, 10, none⟩ (.bool false)).setCell ⟨w.heap.size, 11, none⟩ (.bool false)) (w.heap.size) #[.slice (some ⟨ga, 0, none⟩) 4 c1, .slice (some ⟨gb, 0, none⟩) 4 c2, .int .i64 0, .int .i64 pc, .int .i64 0, .int .i64 7, .bool true, .bool false, .slice e (Pl.newB xs []).length ce, .slice none 0 0, .bool false, .bool false] 29 := FF_10.set 11 (.bool false)
  have KF : Kept w.heap.size (w.heap.size + 1) V ((((((((((((V.setCell ⟨w.heap.size, 0, none⟩ (.slice (some ⟨ga, 0, none⟩) 4 c1)).setCell ⟨w.heap.size, 1, none⟩ (.slice (some ⟨gb, 0, none⟩) 4 c2)).setCell ⟨w.heap.size, 2, none⟩ (.int .i64 0)).setCell ⟨w.heap.size, 3, none⟩ (.int .i64 pc)).setCell ⟨w.heap.size, 4, none⟩ (.int .i64 0)).setCell ⟨w.heap.size, 5, none⟩ (.int .i64 7)).setCell ⟨w.heap.size, 6, none⟩ (.bool true)).setCell ⟨w.heap.size, 7, none⟩ (.bool false)).setCell ⟨w.heap.size, 8, none⟩ (.slice e (Pl.newB xs []).length ce)).setCell ⟨w.heap.size, 9, none⟩ (.slice none 0 0)).setCell ⟨w.heap.size, 10, none⟩ (.bool false)).setCell ⟨w.heap.size, 11, none⟩ (.bool false)) := by
    repeat (first | with_reducible exact Kept.refl _ _ _ | refine kept_set ?_ _ _ _ (.inl (by omega)))
  have szF : ((((((((((((V.setCell ⟨w.heap.size, 0, none⟩ (.slice (some ⟨ga, 0, none⟩) 4 c1)).setCell ⟨w.heap.size, 1, none⟩ (.slice (some ⟨gb, 0, none⟩) 4 c2)).setCell ⟨w.heap.size, 2, none⟩ (.int .i64 0)).setCell ⟨w.heap.size, 3, none⟩ (.int .i64 pc)).setCell ⟨w.heap.size, 4, none⟩ (.int .i64 0)).setCell ⟨w.heap.size, 5, none⟩ (.int .i64 7)).setCell ⟨w.heap.size, 6, none⟩ (.bool true)).setCell ⟨w.heap.size, 7, none⟩ (.bool false)).setCell ⟨w.heap.size, 8, none⟩ (.slice e (Pl.newB xs []).length ce)).setCell ⟨w.heap.size, 9, none⟩ (.slice none 0 0)).setCell ⟨w.heap.size, 10, none⟩ (.bool false)).setCell ⟨w.heap.size, 11, none⟩ (.bool false)).heap.size = V.heap.size := by simp [World.setCell]
  refine bodyPost_ret (v := .tuple #[.agg (cpuV (Pl.ncC xs pc) (some ⟨ga, 0, none⟩) (some ⟨gb, 0, none⟩) e none c1 c2 ce 0), .bool (Pl.ncOk xs pc)]) ?_ rfl ⟨some ⟨ga, 0, none⟩, some ⟨gb, 0, none⟩, e, none, c1, c2, ce, 0, rfl, ?co, ?kw⟩
  case co =>
    rw [EC.out]
    refine ⟨.inr ⟨ga, rfl, by omega, by omega, O1.out.keptS KF (by omega)⟩, .inr ⟨gb, rfl, by omega, by omega, O2.out.keptS KF (by omega)⟩, (S4.out.kept KF (by omega)).wide (by omega) (by omega), .inl ⟨rfl, rfl⟩, ?_, ?_, ?_, ?_, ?_, ?_⟩
    · intro g h1 h2; simp [blk] at h1 h2; omega
    · intro g h1 h2; have := S4.out.blk_in g h2; simp [blk] at h1; omega
    · intro g h1 h2; simp [blk] at h2
    · intro g h1 h2; have := S4.out.blk_in g h2; simp [blk] at h1; omega
    · intro g h1 h2; simp [blk] at h2
    · intro g h1 h2; simp [blk] at h2
  case kw =>
    repeat (first | with_reducible exact K4.out | refine kept_set ?_ _ _ _ (.inr (by omega)))
  have m0 := FF.cell (i := 0) rfl
  have m1 := FF.cell (i := 1) rfl
  have m2 := FF.cell (i := 2) rfl
  have m3 := FF.cell (i := 3) rfl
  have m4 := FF.cell (i := 4) rfl
  have m5 := FF.cell (i := 5) rfl
  have m6 := FF.cell (i := 6) rfl
  have m7 := FF.cell (i := 7) rfl
  have m8 := FF.cell (i := 8) rfl
  have m9 := FF.cell (i := 9) rfl
  have m10 := FF.cell (i := 10) rfl
  have m11 := FF.cell (i := 11) rfl
  rw [results_cell_tmp1 rfl, EC.out, EO.out]
  clear KF szF FF FF_0 FF_1 FF_2 FF_3 FF_4 FF_5 FF_6 FF_7 FF_8 FF_9 FF_10
  unfold cpuV
  go_simp
  first | rfl | exact ⟨rfl, rfl⟩ | (repeat' apply And.intro) <;> rfl
theorem specNewCpu (w : World) (a : Option Addr) (ca : Nat) (xs : List Int) (pc : Int) (ha : IRow w a xs) (lx : xs.length ≤ 2000000) :
    Calls Try.prog 8 #[.slice a xs.length ca, .int .i64 pc] w fun r w' => ∃ (a' b' e' q' : Option Addr) (ca' cb' ce' cq' : Nat), r = .returned (.tuple #[.agg (cpuV (Pl.ncC xs pc) a' b' e' q' ca' cb' ce' cq'), .bool (Pl.ncOk xs pc)]) ∧ CpuIn w' w.heap.size (Pl.ncC xs pc) a' b' e' q' ∧ Kept 0 0 w w' := by
  cases h1 : Pl.newOk xs []
  · exact specNewCpu_bad w a ca xs pc ha lx h1 trivial
  · cases h2 : Pl.wordOk pc
    · exact specNewCpu_badp w a ca xs pc ha lx h1 h2
    · exact specNewCpu_ok w a ca xs pc ha lx h1 h2
end Go.Proofs.Ytblddehlkaolbaa

namespace Go.Proofs.Ytblddehlkaolbaa
open Go.RowKit
set_option linter.unusedVariables false

theorem okv1 (v : Int) : Pl.okv 1 v = Pl.byteOk v := by
  unfold Pl.okv Pl.byteOk Pl.top
  rw [Bool.eq_iff_iff]; simp; omega
theorem isByte (v : Int) (w : World) (lo : -9223372036854775808 ≤ v) (hi : v ≤ 9223372036854775807) :
    Calls Try.prog 87 #[.int .i64 v] w fun e w' => e = .returned (.bool (Pl.byteOk v)) ∧ w' = w := by
  go_enter Try.func87, Try.ntmps87
  go_wp2_with (go_at_call 66; refine (signedOf _ _ _ lo hi).mono ?_; rintro e w' ⟨rfl, hw⟩; have hw2 := hw.symm; clear hw; subst hw2; rw [okv1])
  go_ret
  exact ⟨rfl, rfl⟩
theorem areBytes (w : World) (a : Option Addr) (ca : Nat) (xs : List Int) (ha : Came w a xs) (lx : xs.length ≤ 2000000) :
    Calls Try.prog 64 #[.slice a xs.length ca] w fun e w' => e = .returned (.bool (Pl.bytesOk xs)) ∧ w' = w := by
  have HA := hide ha
  clear ha
  go_enter Try.func64, Try.ntmps64
  go_wp2
  go_loop [4, 7] (fun _ j => ∃ k : Nat, k ≤ xs.length ∧ j = .int .i64 k ∧ ∀ i, i < k → Pl.byteOk (el xs i) = true) (fun _ j => xs.length - (intOf j).toNat)
  case atStart => exact ⟨0, Nat.zero_le _, rfl, fun i hi => absurd hi (Nat.not_lt_zero i)⟩
  case round =>
    obtain ⟨k, hk, rfl, heq⟩ := hrel
    have HE := hide heq
    clear heq
    by_cases hlt : k < xs.length
    · obtain ⟨g1, o1, rfl, hc1⟩ := HA.out.1 k hlt
      obtain ⟨lo, hi⟩ := HA.out.2 k hlt
      rw [show xs[k]?.getD 0 = el xs k from rfl] at hc1 lo hi
      cases hb : Pl.byteOk (el xs k)
      · go_wp2_with (go_at_call 87; refine (isByte _ _ lo hi).mono ?_; rintro e w' ⟨rfl, rfl⟩; rw [hb])
        go_ret
        exact ⟨rB (Pl.bytesOk_no hlt hb).symm, rfl⟩
      · go_wp2_with (go_at_call 87; refine (isByte _ _ lo hi).mono ?_; rintro e w' ⟨rfl, rfl⟩; rw [hb])
        go_round
        case rel => exact ⟨k + 1, by omega, by go_num, snoc_all HE.out hb⟩
        case measure => simp [intOf]; omega
    · go_wp2
      go_ret
      exact ⟨rB (Pl.bytesOk_of (fun i hi => HE.out i (by omega))).symm, rfl⟩
end Go.Proofs.Ytblddehlkaolbaa

namespace Go.Proofs.Ytblddehlkaolbaa
open Go.RowKit
set_option linter.unusedVariables false

def zeros : List Int := List.replicate 512 0
theorem zeros_len : zeros.length = 512 := List.length_replicate ..
theorem Try.infoMem : (Try.prog.info? 88).map (fun i => (i.zero, i.size)) = some (some (.agg (cellsOf zeros)), 512) := by kernel_rfl
theorem Try.memZero : ∀ w, (zeroValue 88).run Try.prog w = .ok (.agg (cellsOf zeros)) w := (zero_of_info Try.infoMem).1
theorem Try.memSize : (Try.prog.info? 88).map (·.size) = some 512 := (zero_of_info Try.infoMem).2
set_option maxHeartbeats 4000000 in
theorem memList (w : World) (xs : List Int) (lx : xs.length = 512) :
    Calls Try.prog 65 #[.agg (cellsOf xs)] w fun e w' => ∃ g : Nat, e = .returned (.slice (some ⟨g, 0, none⟩) 512 512) ∧ Blk w' g (cellsOf xs) 3 ∧ w.heap.size ≤ g ∧ Kept 0 0 w w' := by
  obtain ⟨i, hi, hz0, hz1, hz2⟩ := info_parts Try.info3
  have HS : Hid ((Try.prog.info? 3).map (·.size) = some 1) := hide (by kernel_rfl)
  have HX := hide lx
  clear lx
  go_enter Try.func65, Try.ntmps65
  go_wp2_with (first | (at_make; refine wpList_make_full _ rfl _ _ 22 rfl w.heap.size 3 i (.int .i64 0) 1 Try.underlying22 hi hz0 hz1 _ _ _ _ 512 rfl rfl rfl rfl ?c1 ?c2 ?c3 ?_))
  case c1 => rw [hz2]; decide
  case c2 => unfold maxLen; decide
  case c3 => simp
  intro w1 hown hg
  have K1 := hide ((kept_alloc w (.cells (cellsOf xs) 88)).trans (kept_grown hg))
  have B0 := hide ((Blk.new w (cellsOf xs) 88).kept0 (kept_grown hg))
  have B1 : Hid (Blk w1 (w.heap.size + 1) (cellsOf zeros) 3) := hide (by
    have h := blk_of_row hown
    have e : (madeCells #[Value.int .i64 0] 512).toList = zeros.map (Value.int .i64) := by
      rw [toList_madeCells_one, zeros, List.map_replicate]
    rw [e] at h
    exact h)
  clear hown hg
  have HR : Hid (IRow w1 (some ⟨w.heap.size, 0, none⟩) xs) := hide (own_of_blk B0.out).row
  have hcopy : (Builtin.copy_ #[22, 22] 3 #[.slice (some ⟨w.heap.size + 1, 0, none⟩) 512 512, .slice (some ⟨w.heap.size, 0, none⟩) 512 512]).run Try.prog w1 = .ok (.int .i64 512) (w1.setRow (w.heap.size + 1) (cellsOf xs)) := by
    have h := run_copy_row Try.prog w1 22 22 3 3 (w.heap.size + 1) 0 512 512 ⟨w.heap.size, 0, none⟩ 512 512 (cellsOf zeros) 3 (xs.map (Value.int .i64)) Try.underlying22 HS.out B1.out (by simp [HX.out]) (news_of HR.out) (by simp [HX.out, cellsOf_size, zeros_len]) news_one
    rw [h]
    have e : (List.take 0 (cellsOf zeros).toList ++ xs.map (Value.int .i64) ++ List.drop (0 + (xs.map (Value.int .i64)).length) (cellsOf zeros).toList) = xs.map (Value.int .i64) := by
      rw [List.drop_eq_nil_of_le (by simp [HX.out, cellsOf_size, zeros_len])]; simp
    rw [e, show (xs.map (Value.int .i64)).length = 512 by simp [HX.out]]
    rfl
  go_wp2_with fail
  have hl := B1.out.lt
  refine bodyPost_ret (results_tmp rfl _ _ _) rfl ⟨w.heap.size + 1, rfl, B1.out.setRow, by omega, kept_setRow K1.out _ _ (by omega)⟩

end Go.Proofs.Ytblddehlkaolbaa

