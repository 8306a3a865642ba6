/- What the laws' own functions over Cpu and Fault do: size, comparison, marks. The form of a processor that is answered. A processor that is answered, behind stores. Registers whose numbers are ints. What the program's test of a value of a size answers: one contract a function; none changes the world. What the program's tests of words, sizes and register numbers answer; none changes the world. What the program's small functions of chapter 6 answer: tests of numbers and registers; no old block is changed. What the program's GoodRegs answers, for all registers. The program's registers as one value (fourteen cells): how they are laid out and read. The program's processor that is worked on, as it lies in memory: one block (fourteen cells of registers, the bytes, the log, two more), and the log's own. Fourteen cells of a block written anew. A processor with its line, as it lies in memory: as a value (fourteen cells), and as the program's listener (a core and two cells more). What the model's GoodCpu answers, for every processor. What the model's small functions of interrupts answer. -/
import Derived.Test.YtndhiaommphegaaJN2
import Derived.Test.YtndhiaommphegaaJN1
import Derived.Deep.RegionHeld3
import Derived.Laws.CopyOwn
import Derived.Laws.Rows
import Derived.Laws.Tables
namespace Go.Proofs.Ytndhiaommphegaa
open Go.RowKit
set_option linter.unusedVariables false
/-- of the blocks that were there all but two are as they were -/
structure KeptB (p q : Option Nat) (w w' : World) : Prop where
  os : w'.os = w.os
  tape : w'.tape = w.tape
  output : w'.output = w.output
  size : w.heap.size ≤ w'.heap.size
  block : ∀ k, k < w.heap.size → some k ≠ p → some k ≠ q → w'.heap[k]? = w.heap[k]?
theorem kb_of {p q : Option Nat} {w X w1 w2 : World} (k : Kept 0 0 w X) (g1 : X.grownBy w1 p) (g2 : w1.grownBy w2 q) : KeptB p q w w2 :=
  ⟨(g2.os.trans g1.os).trans k.os, (g2.tape.trans g1.tape).trans k.tape, (g2.output.trans g1.output).trans k.output, Nat.le_trans k.size (Nat.le_trans g1.size g2.size), fun i hi h1 h2 =>
    (g2.block i (Nat.lt_of_lt_of_le (Nat.lt_of_lt_of_le hi k.size) g1.size) h2).trans ((g1.block i (Nat.lt_of_lt_of_le hi k.size) h1).trans (k.block i hi (by omega)))⟩
theorem Own.keptB {w w' : World} {g : Nat} {xs : List Int} {p q : Option Nat} (h : Own w g xs) (k : KeptB p q w w') (h1 : some g ≠ p) (h2 : some g ≠ q) : Own w' g xs := by
  intro i hi
  obtain ⟨hc, hf⟩ := h i hi
  have e := k.block g (World.block_lt_of_cell? _ _ hc) h1 h2
  exact ⟨by rw [World.cell?_of_block (w := w) e]; exact hc, by rw [World.frozen?_of_block (w := w) e]; exact hf⟩
theorem SlotIn.keptB {w w' : World} {lo hi : Nat} {a : Option Addr} {xs : List Int} {p q : Option Nat} (h : SlotIn w lo hi a xs) (k : KeptB p q w w') (h1 : ∀ g, blk a = some g → some g ≠ p) (h2 : ∀ g, blk a = some g → some g ≠ q) : SlotIn w' lo hi a xs := by
  rcases h with h | ⟨g, ea, b0, b1, ho⟩
  · exact .inl h
  · exact .inr ⟨g, ea, b0, b1, ho.keptB k (h1 g (by rw [ea]; rfl)) (h2 g (by rw [ea]; rfl))⟩
theorem markRegs2 (w : World) (lo hi : Nat) (o pc fl mk : Int) (su tr : Bool) (a b : Option Addr) (ca cb : Nat) (xs ys : List Int) (q : Int) (ha : SlotIn w lo hi a xs) (hb : SlotIn w lo hi b ys) (hab : ∀ g, blk a = some g → blk b ≠ some g) (hh : hi ≤ w.heap.size) (lx : xs.length ≤ 2000000) (ly : ys.length ≤ 2000000) (q0 : 0 ≤ q) (q1 : q ≤ 10000000) :
    Calls Try.prog 35 #[.agg #[.slice a xs.length ca, .slice b ys.length cb, iv o, iv pc, iv fl, iv mk, .bool su, .bool tr], iv q] w fun e w' => e = .returned (iv (q + (xs.length : Int) + (ys.length : Int))) ∧ SlotIn w' lo hi a (marks q xs.length) ∧ SlotIn w' lo hi b (marks (q + (xs.length : Int)) ys.length) ∧ Kept lo hi w w' ∧ KeptB (blk a) (blk b) w w' := by
  have HA := hide ha
  have HB := hide hb
  have HAB := hide hab
  clear ha hb hab
  go_enter Try.func35, Try.ntmps35
  go_wp2_with fail
  have k0 := kept_alloc w (.cells #[.slice a xs.length ca, .slice b ys.length cb, iv o, iv pc, iv fl, iv mk, .bool su, .bool tr] 31)
  have s0 := HA.out.kept k0 (by omega)
  have t0 := HB.out.kept k0 (by omega)
  refine (markSlot _ lo ca a xs q (s0.slot (by simp; omega)) lx q0 (by omega)).mono ?_
  rintro e w1 ⟨rfl, s1, g1⟩
  have k1 := kept_row g1 s0.blk_in
  have s1' := s0.again s1
  have B0 := (Blk.new w #[.slice a xs.length ca, .slice b ys.length cb, iv o, iv pc, iv fl, iv mk, .bool su, .bool tr] 31).kept k1 (by omega)
  have c1 := B0.cell (i := 1) rfl
  have t1 : SlotIn w1 lo hi b ys := by
    rcases t0 with t | ⟨g, eb, b0, b1, ho⟩
    · exact .inl t
    · refine .inr ⟨g, eb, b0, b1, ho.kept g1 ?_⟩
      intro e
      exact HAB.out g e.symm (by rw [eb]; rfl)
  have HG1 := hide g1
  have HK0 := hide k0
  have HK1 := hide ((k0.any (lo := lo) (hi := hi)).trans k1)
  have HS1 := hide s1'
  have HT1 := hide t1
  clear k0 s0 t0 s1 g1 k1 s1' t1 B0
  go_wp2_with fail
  refine (markSlot _ lo cb b ys (q + (xs.length : Int)) (HT1.out.slot (Nat.le_trans hh HK1.out.size)) ly (by omega) (by omega)).mono ?_
  rintro e w2 ⟨rfl, s2, g2⟩
  have k2 := kept_row g2 HT1.out.blk_in
  have HS2 : Hid (SlotIn w2 lo hi a (marks q xs.length)) := hide (by
    rcases HS1.out with t | ⟨g, ea, b0, b1, ho⟩
    · exact .inl t
    · refine .inr ⟨g, ea, b0, b1, ho.kept g2 ?_⟩
      intro e
      exact HAB.out g (by rw [ea]; rfl) e.symm)
  have HT2 := hide (HT1.out.again s2)
  have HK2 := hide (HK1.out.trans k2)
  have HB2 := hide (kb_of HK0.out HG1.out g2)
  clear s2 g2 k2
  go_wp2_with fail
  go_ret
  exact ⟨rfl, HS2.out, HT2.out, HK2.out, HB2.out⟩

theorem markBus2 (w : World) (lo hi : Nat) (a b : Option Addr) (ca cb m : Nat) (xs ys : List Int) (q : Int) (ha : SlotIn w lo hi a xs) (hb : SlotIn w lo hi b ys) (hab : ∀ g, blk a = some g → blk b ≠ some g) (hh : hi ≤ w.heap.size) (lx : xs.length ≤ 2000000) (ly : ys.length = 5 * m) (bm : m ≤ 2000000) (q0 : 0 ≤ q) (q1 : q ≤ 10000000) :
    Calls Try.prog 36 #[.agg #[.slice a xs.length ca, .slice b m cb], iv q] w fun e w' => e = .returned (iv (q + (xs.length : Int) + 5 * (m : Int))) ∧ SlotIn w' lo hi a (marks q xs.length) ∧ SlotIn w' lo hi b (marks (q + (xs.length : Int)) (5 * m)) ∧ Kept lo hi w w' ∧ KeptB (blk a) (blk b) w w' := by
  have HY := hide ly
  have HA := hide ha
  have HB := hide hb
  have HAB := hide hab
  clear ly ha hb hab
  go_enter Try.func36, Try.ntmps36
  go_wp2_with fail
  have k0 := kept_alloc w (.cells #[.slice a xs.length ca, .slice b m cb] 34)
  have s0 := HA.out.kept k0 (by omega)
  have t0 := HB.out.kept k0 (by omega)
  refine (markSlot _ lo ca a xs q (s0.slot (by simp; omega)) lx q0 (by omega)).mono ?_
  rintro e w1 ⟨rfl, s1, g1⟩
  have k1 := kept_row g1 s0.blk_in
  have s1' := s0.again s1
  have B0 := (Blk.new w #[.slice a xs.length ca, .slice b m cb] 34).kept k1 (by omega)
  have c1 := B0.cell (i := 1) rfl
  have t1 : SlotIn w1 lo hi b ys := by
    rcases t0 with t | ⟨g, eb, b0, b1, ho⟩
    · exact .inl t
    · refine .inr ⟨g, eb, b0, b1, ho.kept g1 ?_⟩
      intro e
      exact HAB.out g e.symm (by rw [eb]; rfl)
  have HG1 := hide g1
  have HK0 := hide k0
  have HK1 := hide ((k0.any (lo := lo) (hi := hi)).trans k1)
  have HS1 := hide s1'
  have HT1 := hide t1
  clear k0 s0 t0 s1 g1 k1 s1' t1 B0
  go_wp2_with fail
  refine (markSlotA _ lo cb m b ys (q + (xs.length : Int)) (HT1.out.slot (Nat.le_trans hh HK1.out.size)) HY.out bm (by omega) (by omega)).mono ?_
  rintro e w2 ⟨rfl, s2, g2⟩
  have k2 := kept_row g2 HT1.out.blk_in
  have HS2 : Hid (SlotIn w2 lo hi a (marks q xs.length)) := hide (by
    rcases HS1.out with t | ⟨g, ea, b0, b1, ho⟩
    · exact .inl t
    · refine .inr ⟨g, ea, b0, b1, ho.kept g2 ?_⟩
      intro e
      exact HAB.out g (by rw [ea]; rfl) e.symm)
  have HT2 := hide (HT1.out.again s2)
  have HK2 := hide (HK1.out.trans k2)
  have HB2 := hide (kb_of HK0.out HG1.out g2)
  clear s2 g2 k2
  go_wp2_with fail
  go_ret
  exact ⟨rfl, HS2.out, HT2.out, HK2.out, HB2.out⟩

/-- a processor's four lists: each in a block of its own, of the span -/
structure CpSl (w : World) (lo hi : Nat) (c : Pl.Cp) (a b e q : Option Addr) : Prop where
  d : SlotIn w lo hi a c.r.xs
  a' : SlotIn w lo hi b c.r.ys
  b' : SlotIn w lo hi e c.bx
  l : SlotIn w lo hi q c.bl
  n1 : ∀ g, blk a = some g → blk b ≠ some g
  n2 : ∀ g, blk a = some g → blk e ≠ some g
  n3 : ∀ g, blk a = some g → blk q ≠ some g
  n4 : ∀ g, blk b = some g → blk e ≠ some g
  n5 : ∀ g, blk b = some g → blk q ≠ some g
  n6 : ∀ g, blk e = some g → blk q ≠ some g
theorem CpSl.kept {w w' : World} {l h lo hi : Nat} {c : Pl.Cp} {a b e q : Option Addr} (s : CpSl w l h c a b e q) (k : Kept lo hi w w') (hd : h ≤ lo ∨ hi ≤ l ∨ hi ≤ lo) : CpSl w' l h c a b e q :=
  ⟨s.d.kept k hd, s.a'.kept k hd, s.b'.kept k hd, s.l.kept k hd, s.n1, s.n2, s.n3, s.n4, s.n5, s.n6⟩
def szC (n m k j : Nat) (left : Int) : Int := if szB n m left < 0 then -1 else szB k j (szB n m left)
theorem szC_neg {n m k j : Nat} {left : Int} (h : ¬ szC n m k j left < 0) : (n : Int) + (m : Int) + (k : Int) + (j : Int) ≤ left := by
  unfold szC at h
  split at h
  · exact absurd (by decide) h
  · rename_i h1
    have a1 := szB_neg h1
    have a2 := szB_neg h
    unfold szB at a2
    split at a2
    · omega
    · split at a2 <;> omega
theorem szB_hi {n m : Nat} {left : Int} (h : ¬ szB n m left < 0) : 0 ≤ szB n m left ∧ szB n m left ≤ left := by
  unfold szB at h ⊢
  split
  · rename_i h1; rw [if_pos h1] at h; exact absurd (by decide) h
  · rename_i h1
    rw [if_neg h1] at h
    split
    · rename_i h2; rw [if_pos h2] at h; exact absurd (by decide) h
    · omega
theorem szB_minus {n m : Nat} {left : Int} (h : szB n m left < 0) : szB n m left = -1 := by
  unfold szB at h ⊢
  split
  · rfl
  · rename_i h1
    rw [if_neg h1] at h
    split
    · rfl
    · rename_i h2; rw [if_neg h2] at h; omega
theorem szCpu (w : World) (c : Pl.Cp) (a b e q : Option Addr) (ca cb ce cq : Nat) (left : Int) (lx : c.r.xs.length ≤ 9223372036854775807) (ly : c.r.ys.length ≤ 9223372036854775807) (lb : c.bx.length ≤ 9223372036854775807) (lm : c.bm ≤ 9223372036854775807) (l0 : 0 ≤ left) (l1 : left ≤ 2000000) :
    Calls Try.prog 7 #[.agg (cpA c a b e q ca cb ce cq), iv left] w fun r w' => r = .returned (iv (szC c.r.xs.length c.r.ys.length c.bx.length c.bm left)) ∧ Kept 0 0 w w' := by
  have K0 := hide (kept_alloc w (.cells (cpA c a b e q ca cb ce cq) 29))
  have B0 := hide (Blk.new w (cpA c a b e q ca cb ce cq) 29)
  by_cases h : szB c.r.xs.length c.r.ys.length left < 0
  · have E : Hid (szC c.r.xs.length c.r.ys.length c.bx.length c.bm left = -1) := hide (by simp [szC, h])
    have e1 := szB_minus h
    go_enter Try.func7, Try.ntmps7
    go_wp2_with fail
    refine (szRegs _ _ _ _ _ _ _ _ _ _ _ _ _ left lx ly l0 l1).mono ?_
    rintro e9 w1 ⟨rfl, k⟩
    rw [e1]
    have HK := hide (K0.out.trans k)
    clear k
    go_wp2_with fail
    go_ret
    exact ⟨rI E.out.symm, HK.out⟩
  · obtain ⟨s0, s1⟩ := szB_hi h
    have E : Hid (szC c.r.xs.length c.r.ys.length c.bx.length c.bm left = szB c.bx.length c.bm (szB c.r.xs.length c.r.ys.length left)) := hide (by simp [szC, h])
    revert h s0 s1 E
    generalize hS : szB c.r.xs.length c.r.ys.length left = S
    have HS := hide hS
    clear hS
    intro h s0 s1 E
    by_cases h2 : szB c.bx.length c.bm S < 0
    all_goals
      have E2 := hide (fun q => @szB_minus c.bx.length c.bm S q)
      go_enter Try.func7, Try.ntmps7
      go_wp2_with fail
      refine (szRegs _ _ _ _ _ _ _ _ _ _ _ _ _ left lx ly l0 l1).mono ?_
      rintro e9 w1 ⟨rfl, k⟩
      rw [HS.out]
      have HK := hide (K0.out.trans k)
      have B1 := hide (B0.out.kept0 k)
      clear k
      have i8 := B1.out.cell (i := 8) rfl
      have i9 := B1.out.cell (i := 9) rfl
      go_wp2_with fail
      refine (szBus _ _ _ _ _ _ _ S lb lm s0 (by omega)).mono ?_
      rintro e9 w2 ⟨rfl, k⟩
      have HK2 := hide (HK.out.trans k)
      clear k i8 i9
      go_wp2_with fail
      go_ret
      first
        | exact ⟨rI E.out.symm, HK2.out⟩
        | exact ⟨rI (by rw [E.out, E2.out h2]), HK2.out⟩
set_option maxHeartbeats 4000000 in
theorem eqCpu (w : World) (c : Pl.Cp) (a b e q a2 b2 e2 q2 : Option Addr) (ca cb ce cq ca2 cb2 ce2 cq2 : Nat) (ha : IRow w a c.r.xs) (hb : IRow w b c.r.ys) (he : IRow w e c.bx) (hq : IRow w q c.bl) (ha2 : IRow w a2 c.r.xs) (hb2 : IRow w b2 c.r.ys) (he2 : IRow w e2 c.bx) (hq2 : IRow w q2 c.bl) (lx : c.r.xs.length ≤ 2000000) (ly : c.r.ys.length ≤ 2000000) (lb : c.bx.length ≤ 2000000) (ll : c.bl.length = 5 * c.bm) (lm : c.bm ≤ 2000000) :
    Calls Try.prog 12 #[.agg (cpA c a b e q ca cb ce cq), .agg (cpA c a2 b2 e2 q2 ca2 cb2 ce2 cq2)] w fun r w' => r = .returned (.bool true) ∧ Kept 0 0 w w' := by
  have K0 := hide (kept_new (kept_alloc w (.cells (cpA c a b e q ca cb ce cq) 36)) (.cells (cpA c a2 b2 e2 q2 ca2 cb2 ce2 cq2) 36))
  have B0 := (Blk.new w (cpA c a b e q ca cb ce cq) 36).alloc (.cells (cpA c a2 b2 e2 q2 ca2 cb2 ce2 cq2) 36)
  have B1 := Blk.new (w.alloc (.cells (cpA c a b e q ca cb ce cq) 36)) (cpA c a2 b2 e2 q2 ca2 cb2 ce2 cq2) 36
  simp only [World.size_alloc] at B1
  obtain ⟨X, hX⟩ : ∃ X : World, (w.alloc (.cells (cpA c a b e q ca cb ce cq) 36)).alloc (.cells (cpA c a2 b2 e2 q2 ca2 cb2 ce2 cq2) 36) = X := ⟨_, rfl⟩
  rw [hX] at K0 B0 B1
  have HB0 := hide B0
  have HB1 := hide B1
  have i0 := B0.all
  have j0 := B1.all
  have HL := hide ll
  have HE := hide (he.keptS K0.out)
  have HQ := hide (hq.keptS K0.out)
  have HE2 := hide (he2.keptS K0.out)
  have HQ2 := hide (hq2.keptS K0.out)
  have HA := hide (ha.keptS K0.out)
  have HB := hide (hb.keptS K0.out)
  have HA2 := hide (ha2.keptS K0.out)
  have HBB2 := hide (hb2.keptS K0.out)
  clear B0 B1 ll ha hb he hq ha2 hb2 he2 hq2
  go_enter Try.func12, Try.ntmps12
  go_wp2_with fail
  refine (eqRegs _ c.r.o c.r.p c.r.f c.r.m c.r.s c.r.t a b a2 b2 ca cb ca2 cb2 c.r.xs c.r.ys HA.out HB.out HA2.out HBB2.out lx ly).mono ?_
  rintro e9 w1 ⟨rfl, k⟩
  have K1 := hide (K0.out.trans k)
  have C0 := hide (HB0.out.kept0 k)
  have C1 := hide (HB1.out.kept0 k)
  have HE' := hide (HE.out.keptS k)
  have HQ' := hide (HQ.out.keptS k)
  have HE2' := hide (HE2.out.keptS k)
  have HQ2' := hide (HQ2.out.keptS k)
  clear k i0 j0
  have i8 := C0.out.all
  have j8 := C1.out.all
  go_wp2_with fail
  refine (eqBus _ e q e2 q2 ce cq ce2 cq2 c.bm c.bm c.bx c.bl c.bx c.bl HE'.out HQ'.out HE2'.out HQ2'.out lb lb HL.out HL.out lm lm).mono ?_
  rintro e9 w2 ⟨rfl, k⟩
  rw [show (decide (c.bx = c.bx) && decide (c.bl = c.bl)) = true from by simp]
  have K2 := hide (K1.out.trans k)
  have D0 := hide (C0.out.kept0 k)
  have D1 := hide (C1.out.kept0 k)
  clear k
  have i10 := D0.out.cell (i := 10) rfl
  have i11 := D0.out.cell (i := 11) rfl
  have j10 := D1.out.cell (i := 10) rfl
  have j11 := D1.out.cell (i := 11) rfl
  go_wp2_with fail
  go_ret
  exact ⟨rfl, K2.out⟩
/-- a processor whose lists hold marks from k on -/
def Pl.mkC (c : Pl.Cp) (k : Int) : Pl.Cp := { c with r := { c.r with xs := marks k c.r.xs.length, ys := marks (k + (c.r.xs.length : Int)) c.r.ys.length }, bx := marks (k + (c.r.xs.length : Int) + (c.r.ys.length : Int)) c.bx.length, bl := marks (k + (c.r.xs.length : Int) + (c.r.ys.length : Int) + (c.bx.length : Int)) (5 * c.bm) }
def Pl.mkN (c : Pl.Cp) (k : Int) : Int := k + (c.r.xs.length : Int) + (c.r.ys.length : Int) + (c.bx.length : Int) + 5 * (c.bm : Int)
set_option maxHeartbeats 4000000 in
theorem heldCpu (w : World) (c : Pl.Cp) (a b e q : Option Addr) (ca cb ce cq : Nat) (ha : IRow w a (Pl.mkC c 1).r.xs) (hb : IRow w b (Pl.mkC c 1).r.ys) (he : IRow w e (Pl.mkC c 1).bx) (hq : IRow w q (Pl.mkC c 1).bl) (lx : c.r.xs.length ≤ 400000) (ly : c.r.ys.length ≤ 400000) (lb : c.bx.length ≤ 2000000) (lm : c.bm ≤ 2000000) :
    Calls Try.prog 37 #[.agg (cpA c a b e q ca cb ce cq), iv 1] w fun r w' => r = .returned (iv (Pl.mkN c 1)) ∧ Kept 0 0 w w' := by
  have E : Hid (Pl.mkN c 1 = 1 + (c.r.xs.length : Int) + (c.r.ys.length : Int) + (c.bx.length : Int) + 5 * (c.bm : Int)) := hide rfl
  have K0 := hide (kept_alloc w (.cells (cpA c a b e q ca cb ce cq) 36))
  have B0 := Blk.new w (cpA c a b e q ca cb ce cq) 36
  have HA := hide (ha.keptS K0.out)
  have HB := hide (hb.keptS K0.out)
  have HE := hide (he.keptS K0.out)
  have HQ := hide (hq.keptS K0.out)
  obtain ⟨X, hX⟩ : ∃ X : World, w.alloc (.cells (cpA c a b e q ca cb ce cq) 36) = X := ⟨_, rfl⟩
  rw [hX] at K0 B0 HA HB HE HQ
  have HB0 := hide B0
  have i0 := B0.all
  clear B0 ha hb he hq
  go_enter Try.func37, Try.ntmps37
  go_wp2_with fail
  refine (heldRegs _ c.r.o c.r.p c.r.f c.r.m c.r.s c.r.t a b ca cb c.r.xs.length c.r.ys.length 1 HA.out HB.out (by omega) (by omega) (by decide) (by decide)).mono ?_
  rintro e9 w1 ⟨rfl, k⟩
  have K1 := hide (K0.out.trans k)
  have C0 := hide (HB0.out.kept0 k)
  have HE' := hide (HE.out.keptS k)
  have HQ' := hide (HQ.out.keptS k)
  clear k i0
  have i8 := C0.out.cell (i := 8) rfl
  have i9 := C0.out.cell (i := 9) rfl
  go_wp2_with fail
  refine (heldBus _ e q ce cq c.bx.length c.bm (1 + (c.r.xs.length : Int) + (c.r.ys.length : Int)) HE'.out HQ'.out lb lm (by omega) (by omega)).mono ?_
  rintro e9 w2 ⟨rfl, k⟩
  have K2 := hide (K1.out.trans k)
  clear k
  go_wp2_with fail
  go_ret
  exact ⟨rI E.out.symm, K2.out⟩
end Go.Proofs.Ytndhiaommphegaa

namespace Go.Proofs.Ytndhiaommphegaa
open Go.RowKit
set_option linter.unusedVariables false
def cpuV (c : Pl.Cp) (a b e q : Option Addr) (ca cb ce cq : Nat) : Array Value := #[.slice a c.r.xs.length ca, .slice b c.r.ys.length cb, iv c.r.o, iv c.r.p, iv c.r.f, iv c.r.m, .bool c.r.s, .bool c.r.t, .slice e c.bx.length ce, .slice q c.bm cq, .bool c.st, .bool c.ha]
/-- a processor that is answered: its lists are new, no two of them share memory -/
structure CpuIn (w : World) (base : Nat) (c : Pl.Cp) (a b e q : Option Addr) : Prop where
  d : SlotIn w base w.heap.size a c.r.xs
  a' : SlotIn w base w.heap.size b c.r.ys
  b' : SlotIn w base w.heap.size e c.bx
  l : SlotIn w base w.heap.size q c.bl
  n1 : ∀ g, blk a = some g → blk b ≠ some g
  n2 : ∀ g, blk a = some g → blk e ≠ some g
  n3 : ∀ g, blk a = some g → blk q ≠ some g
  n4 : ∀ g, blk b = some g → blk e ≠ some g
  n5 : ∀ g, blk b = some g → blk q ≠ some g
  n6 : ∀ g, blk e = some g → blk q ≠ some g
theorem CO.cpuIn {w : World} {lo mid gd ga g1 g2 c2 : Nat} {c : Pl.Cp} (h : CO w lo mid c gd ga g1 g2 c2) : CpuIn w lo c (some ⟨gd, 0, none⟩) (some ⟨ga, 0, none⟩) (some ⟨g1, 0, none⟩) (some ⟨g2, 0, none⟩) := by
  have := h.d0; have := h.d1; have := h.a0; have := h.a1; have := h.da; have := h.b0; have := h.b1; have := h.bl
  have q := h.l.lt g2 rfl
  refine ⟨.inr ⟨gd, rfl, by omega, by omega, h.d⟩, .inr ⟨ga, rfl, by omega, by omega, h.a⟩, .inr ⟨g1, rfl, by omega, by omega, h.b⟩, .inr ⟨g2, rfl, by omega, by omega, own_of_row5 h.l⟩, ?_, ?_, ?_, ?_, ?_, ?_⟩ <;>
  · intro g e1 e2
    simp [blk] at e1 e2
    omega
theorem cpuIn_no (w : World) (base : Nat) : CpuIn w base Pl.cpNo none none none none :=
  ⟨.inl ⟨rfl, rfl⟩, .inl ⟨rfl, rfl⟩, .inl ⟨rfl, rfl⟩, .inl ⟨rfl, rfl⟩, by simp [blk], by simp [blk], by simp [blk], by simp [blk], by simp [blk], by simp [blk]⟩
end Go.Proofs.Ytndhiaommphegaa

namespace Go.Proofs.Ytndhiaommphegaa
open Go.RowKit
set_option linter.unusedVariables false
theorem CpuIn.mvs {w w' : World} {base base' x y : Nat} {c : Pl.Cp} {a b e q : Option Addr} (h : CpuIn w base c a b e q) (k : Kept x y w w') (hy : y ≤ base) (hb : base' ≤ base) : CpuIn w' base' c a b e q :=
  ⟨(SlotIn.kept h.d k (.inr (.inl hy))).wide hb k.size, (SlotIn.kept h.a' k (.inr (.inl hy))).wide hb k.size, (SlotIn.kept h.b' k (.inr (.inl hy))).wide hb k.size, (SlotIn.kept h.l k (.inr (.inl hy))).wide hb k.size, h.n1, h.n2, h.n3, h.n4, h.n5, h.n6⟩
end Go.Proofs.Ytndhiaommphegaa

namespace Go.Proofs.Ytndhiaommphegaa
open Go.RowKit
/-- the numbers of registers that came in are ints -/
structure Pl.WfR (d : Pl.Rg) : Prop where
  o : (Lit.int .i64 d.o).wf = true
  p : (Lit.int .i64 d.p).wf = true
  f : (Lit.int .i64 d.f).wf = true
  m : (Lit.int .i64 d.m).wf = true
end Go.Proofs.Ytndhiaommphegaa

namespace Go.Proofs.Ytndhiaommphegaa
open Go.RowKit
set_option linter.unusedVariables false

theorem signedAs8 (v : Int) (w : World) (lo : -9223372036854775808 ≤ v) (hi : v ≤ 9223372036854775807) :
    Calls Try.prog 91 #[iv v] w fun e w' => e = .returned (.tuple #[iv (Pl.sgnV 1 v), .bool (Pl.okv 1 v)]) ∧ w' = w := by
  by_cases h : 0 ≤ v ∧ v < 256
  · obtain ⟨h0, h1⟩ := h
    have hs : IntKind.u8.signed = false := rfl
    have hm : IntKind.u8.max = 255 := by decide
    have hb : bits .xor .u8 255 0 = 255 := by decide
    by_cases h : 127 < v
    all_goals
      go_enter Try.func91, Try.ntmps91
      go_wp2
      go_ret2
      exact ⟨rIB (by simp [Pl.sgnV, Pl.okv, Pl.sg, Pl.top, h0, h1]; omega) (by simp [Pl.okv, Pl.top, h0, h1]), rfl⟩
  · go_enter Try.func91, Try.ntmps91
    go_wp2
    go_ret2
    have k : Pl.okv 1 v = false := by
      cases c : Pl.okv 1 v
      · rfl
      · have := Pl.top_ok c; omega
    exact ⟨rIB (by simp [Pl.sgnV, k]) k.symm, rfl⟩

theorem signedAs16 (v : Int) (w : World) (lo : -9223372036854775808 ≤ v) (hi : v ≤ 9223372036854775807) :
    Calls Try.prog 92 #[iv v] w fun e w' => e = .returned (.tuple #[iv (Pl.sgnV 2 v), .bool (Pl.okv 2 v)]) ∧ w' = w := by
  by_cases h : 0 ≤ v ∧ v < 65536
  · obtain ⟨h0, h1⟩ := h
    have hs : IntKind.u16.signed = false := rfl
    have hm : IntKind.u16.max = 65535 := by decide
    have hb : bits .xor .u16 65535 0 = 65535 := by decide
    by_cases h : 32767 < v
    all_goals
      go_enter Try.func92, Try.ntmps92
      go_wp2
      go_ret2
      exact ⟨rIB (by simp [Pl.sgnV, Pl.okv, Pl.sg, Pl.top, h0, h1]; omega) (by simp [Pl.okv, Pl.top, h0, h1]), rfl⟩
  · have hw : IntKind.u16.wrap v = v % 65536 := IntKind.wrap_u16 v
    go_enter Try.func92, Try.ntmps92
    go_wp2
    go_ret2
    have k : Pl.okv 2 v = false := by
      cases c : Pl.okv 2 v
      · rfl
      · have := Pl.top_ok c; omega
    exact ⟨rIB (by simp [Pl.sgnV, k]) k.symm, rfl⟩

theorem signedOf (s v : Int) (w : World) (lo : -9223372036854775808 ≤ v) (hi : v ≤ 9223372036854775807) :
    Calls Try.prog 83 #[iv s, iv v] w fun e w' => e = .returned (.tuple #[iv (Pl.sgnV s v), .bool (Pl.okv s v)]) ∧ w' = w := by
  by_cases h1 : s = 1
  · subst h1
    go_enter Try.func83, Try.ntmps83
    go_wp2_with fail
    refine (signedAs8 v _ lo hi).mono ?_
    rintro e w' ⟨rfl, rfl⟩
    go_wp2_with fail
    go_ret2
    exact ⟨rfl, rfl⟩
  · by_cases h2 : s = 2
    · subst h2
      go_enter Try.func83, Try.ntmps83
      go_wp2_with fail
      refine (signedAs16 v _ lo hi).mono ?_
      rintro e w' ⟨rfl, rfl⟩
      go_wp2_with fail
      go_ret2
      exact ⟨rfl, rfl⟩
    · have k : Pl.okv s v = false := by simp [Pl.okv, h1, h2]
      have k1 : (s == 1) = false := by simpa using h1
      have k2 : (s == 2) = false := by simpa using h2
      go_enter Try.func83, Try.ntmps83
      go_wp2_with fail
      go_ret2
      exact ⟨rIB (by simp [Pl.sgnV, k]) k.symm, rfl⟩

end Go.Proofs.Ytndhiaommphegaa

namespace Go.Proofs.Ytndhiaommphegaa
open Go.RowKit
set_option linter.unusedVariables false
theorem wfB {v : Int} (h : (Lit.int .i64 v).wf = true) : -9223372036854775808 ≤ v ∧ v ≤ 9223372036854775807 := bounds_i64 h
theorem okv2 (v : Int) : Pl.okv 2 v = Pl.wordOk v := by
  unfold Pl.okv Pl.wordOk Pl.within Pl.top
  rw [Bool.eq_iff_iff]; simp; omega
theorem isWord (v : Int) (w : World) (lo : -9223372036854775808 ≤ v) (hi : v ≤ 9223372036854775807) :
    Calls Try.prog 70 #[iv v] w fun e w' => e = .returned (.bool (Pl.wordOk v)) ∧ w' = w := by
  go_enter Try.func70, Try.ntmps70
  go_wp2_with (go_at_call 83; refine (signedOf _ _ _ lo hi).mono ?_; rintro e w' ⟨rfl, hw⟩; have hw2 := hw.symm; clear hw; subst hw2; rw [okv2])
  go_ret
  exact ⟨rfl, rfl⟩
end Go.Proofs.Ytndhiaommphegaa

namespace Go.Proofs.Ytndhiaommphegaa
open Go.RowKit
set_option linter.unusedVariables false

theorem isFlags6 (k : Int) (w : World) : Calls Try.prog 71 #[iv k] w fun e w' => e = .returned (.bool (Pl.within k 0 31)) ∧ w' = w := by
  by_cases h0 : 0 ≤ k
  · by_cases h1 : k ≤ 31
    · go_enter Try.func71, Try.ntmps71
      go_wp2
      go_ret
      exact ⟨rB (by simp [Pl.within, h0, h1]), rfl⟩
    · go_enter Try.func71, Try.ntmps71
      go_wp2
      go_ret
      exact ⟨rB (by simp [Pl.within, h0]; omega), rfl⟩
  · go_enter Try.func71, Try.ntmps71
    go_wp2
    go_ret
    exact ⟨rB (by simp [Pl.within]; omega), rfl⟩
theorem areWords (w : World) (a : Option Addr) (ca : Nat) (xs : List Int) (ha : Came w a xs) (lx : xs.length ≤ 2000000) :
    Calls Try.prog 69 #[.slice a xs.length ca] w fun e w' => e = .returned (.bool (xs.all Pl.wordOk)) ∧ w' = w := by
  have HA := hide ha
  clear ha
  go_enter Try.func69, Try.ntmps69
  go_wp2
  go_loop [4, 7] (fun _ j => ∃ k : Nat, k ≤ xs.length ∧ j = iv k ∧ ∀ i, i < k → Pl.wordOk (el xs i) = true) (fun _ j => xs.length - (intOf j).toNat)
  case atStart => exact ⟨0, Nat.zero_le _, rfl, fun i hi => absurd hi (Nat.not_lt_zero i)⟩
  case round =>
    obtain ⟨k, hk, rfl, heq⟩ := hrel
    have HE := hide heq
    clear heq
    by_cases hlt : k < xs.length
    · obtain ⟨g1, o1, rfl, hc1⟩ := HA.out.1 k hlt
      obtain ⟨lo, hi⟩ := HA.out.2 k hlt
      rw [show xs[k]?.getD 0 = el xs k from rfl] at hc1 lo hi
      cases hb : Pl.wordOk (el xs k)
      · go_wp2_with (go_at_call 70; refine (isWord _ _ lo hi).mono ?_; rintro e w' ⟨rfl, rfl⟩; rw [hb])
        go_ret
        refine ⟨rB ?_, rfl⟩
        have hm : xs[k]'hlt ∈ xs := List.getElem_mem hlt
        have he : el xs k = xs[k]'hlt := by simp [el, List.getElem?_eq_getElem hlt]
        rw [he] at hb
        cases hq : xs.all Pl.wordOk
        · rfl
        · have := List.all_eq_true.1 hq _ hm
          rw [hb] at this; cases this
      · go_wp2_with (go_at_call 70; refine (isWord _ _ lo hi).mono ?_; rintro e w' ⟨rfl, rfl⟩; rw [hb])
        go_round
        case rel => exact ⟨k + 1, by omega, by go_num, snoc_all HE.out hb⟩
        case measure => simp [intOf]; omega
    · go_wp2
      go_ret
      refine ⟨rB ?_, rfl⟩
      symm
      rw [List.all_eq_true]
      intro x hx
      obtain ⟨i, hi, rfl⟩ := List.getElem_of_mem hx
      have := HE.out i (by omega)
      simpa [el, List.getElem?_eq_getElem hi] using this
end Go.Proofs.Ytndhiaommphegaa

namespace Go.Proofs.Ytndhiaommphegaa
open Go.RowKit
set_option linter.unusedVariables false
set_option maxHeartbeats 4000000 in
theorem implGoodRegs (w : World) (d : Pl.Rg) (a b : Option Addr) (ca cb : Nat) (ha : Came w a d.xs) (hb : Came w b d.ys) (lx : d.xs.length ≤ 2000000) (ly : d.ys.length ≤ 2000000) (wfd : Pl.WfR d) :
    Calls Try.prog 53 #[.agg #[.slice a d.xs.length ca, .slice b d.ys.length cb, iv d.o, iv d.p, iv d.f, iv d.m, .bool d.s, .bool d.t]] w fun e w' => e = .returned (.bool (Pl.rgOk d)) ∧ Kept 0 0 w w' := by
  have HA := hide ha
  have HB := hide hb
  have HK := hide (kept_alloc w (.cells #[.slice a d.xs.length ca, .slice b d.ys.length cb, iv d.o, iv d.p, iv d.f, iv d.m, .bool d.s, .bool d.t] 31))
  clear ha hb
  have G : Hid (Pl.rgOk d = ((d.xs.all Pl.wordOk && decide ((d.xs.length : Int) = 4)) && ((d.ys.all Pl.wordOk && decide ((d.ys.length : Int) = 4)) && (Pl.wordOk d.o && (Pl.wordOk d.p && (Pl.within d.f 0 31 && (decide (0 ≤ d.m) && decide (d.m ≤ 7)))))))) := hide rfl
  cases l1 : ((d.xs.length : Int) == 4)
  · have q1 : decide ((d.xs.length : Int) = 4) = false := by simpa using l1
    go_enter Try.func53, Try.ntmps53
    go_wp2
    go_ret
    exact ⟨rB (by rw [G.out, q1]; simp), HK.out⟩
  · have q1 : decide ((d.xs.length : Int) = 4) = true := by simpa using l1
    cases h2 : d.xs.all Pl.wordOk
    · have qh2 : True := trivial
      go_enter Try.func53, Try.ntmps53
      go_wp2_with (first | (go_at_call 69; refine (areWords _ a ca d.xs (HA.out.keptS HK.out) lx).mono ?_; rintro e w' ⟨rfl, hw⟩; have hw2 := hw.symm; clear hw; subst hw2; rw [h2]; have Z1 : True := trivial))
      go_ret
      exact ⟨rB (by rw [G.out, q1, h2]; simp), HK.out⟩
    · have qh2 : True := trivial
      cases l3 : ((d.ys.length : Int) == 4)
      · have q3 : decide ((d.ys.length : Int) = 4) = false := by simpa using l3
        go_enter Try.func53, Try.ntmps53
        go_wp2_with (first | (go_at_call 69; refine (areWords _ a ca d.xs (HA.out.keptS HK.out) lx).mono ?_; rintro e w' ⟨rfl, hw⟩; have hw2 := hw.symm; clear hw; subst hw2; rw [h2]; have Z1 : True := trivial))
        go_ret
        exact ⟨rB (by rw [G.out, q1, h2, q3]; simp), HK.out⟩
      · have q3 : decide ((d.ys.length : Int) = 4) = true := by simpa using l3
        cases h4 : d.ys.all Pl.wordOk
        · have qh4 : True := trivial
          go_enter Try.func53, Try.ntmps53
          go_wp2_with (first | (go_at_call 69; have z := Z1; refine (areWords _ b cb d.ys (HB.out.keptS HK.out) ly).mono ?_; rintro e w' ⟨rfl, hw⟩; have hw2 := hw.symm; clear hw; subst hw2; rw [h4]) | (go_at_call 69; refine (areWords _ a ca d.xs (HA.out.keptS HK.out) lx).mono ?_; rintro e w' ⟨rfl, hw⟩; have hw2 := hw.symm; clear hw; subst hw2; rw [h2]; have Z1 : True := trivial))
          go_ret
          exact ⟨rB (by rw [G.out, q1, h2, q3, h4]; simp), HK.out⟩
        · have qh4 : True := trivial
          cases h5 : Pl.wordOk d.o
          · have qh5 : True := trivial
            go_enter Try.func53, Try.ntmps53
            go_wp2_with (first | (go_at_call 69; have z := Z1; refine (areWords _ b cb d.ys (HB.out.keptS HK.out) ly).mono ?_; rintro e w' ⟨rfl, hw⟩; have hw2 := hw.symm; clear hw; subst hw2; rw [h4]) | (go_at_call 69; refine (areWords _ a ca d.xs (HA.out.keptS HK.out) lx).mono ?_; rintro e w' ⟨rfl, hw⟩; have hw2 := hw.symm; clear hw; subst hw2; rw [h2]; have Z1 : True := trivial) | (go_at_call 70; refine (isWord d.o _ (wfB wfd.o).1 (wfB wfd.o).2).mono ?_; rintro e w' ⟨rfl, hw⟩; have hw2 := hw.symm; clear hw; subst hw2; rw [h5]; have Z3 : True := trivial))
            go_ret
            exact ⟨rB (by rw [G.out, q1, h2, q3, h4, h5]; simp), HK.out⟩
          · have qh5 : True := trivial
            cases h6 : Pl.wordOk d.p
            · have qh6 : True := trivial
              go_enter Try.func53, Try.ntmps53
              go_wp2_with (first | (go_at_call 69; have z := Z1; refine (areWords _ b cb d.ys (HB.out.keptS HK.out) ly).mono ?_; rintro e w' ⟨rfl, hw⟩; have hw2 := hw.symm; clear hw; subst hw2; rw [h4]) | (go_at_call 69; refine (areWords _ a ca d.xs (HA.out.keptS HK.out) lx).mono ?_; rintro e w' ⟨rfl, hw⟩; have hw2 := hw.symm; clear hw; subst hw2; rw [h2]; have Z1 : True := trivial) | (go_at_call 70; have z := Z3; refine (isWord d.p _ (wfB wfd.p).1 (wfB wfd.p).2).mono ?_; rintro e w' ⟨rfl, hw⟩; have hw2 := hw.symm; clear hw; subst hw2; rw [h6]) | (go_at_call 70; refine (isWord d.o _ (wfB wfd.o).1 (wfB wfd.o).2).mono ?_; rintro e w' ⟨rfl, hw⟩; have hw2 := hw.symm; clear hw; subst hw2; rw [h5]; have Z3 : True := trivial))
              go_ret
              exact ⟨rB (by rw [G.out, q1, h2, q3, h4, h5, h6]; simp), HK.out⟩
            · have qh6 : True := trivial
              cases h7 : Pl.within d.f 0 31
              · have qh7 : True := trivial
                go_enter Try.func53, Try.ntmps53
                go_wp2_with (first | (go_at_call 69; have z := Z1; refine (areWords _ b cb d.ys (HB.out.keptS HK.out) ly).mono ?_; rintro e w' ⟨rfl, hw⟩; have hw2 := hw.symm; clear hw; subst hw2; rw [h4]) | (go_at_call 69; refine (areWords _ a ca d.xs (HA.out.keptS HK.out) lx).mono ?_; rintro e w' ⟨rfl, hw⟩; have hw2 := hw.symm; clear hw; subst hw2; rw [h2]; have Z1 : True := trivial) | (go_at_call 70; have z := Z3; refine (isWord d.p _ (wfB wfd.p).1 (wfB wfd.p).2).mono ?_; rintro e w' ⟨rfl, hw⟩; have hw2 := hw.symm; clear hw; subst hw2; rw [h6]) | (go_at_call 70; refine (isWord d.o _ (wfB wfd.o).1 (wfB wfd.o).2).mono ?_; rintro e w' ⟨rfl, hw⟩; have hw2 := hw.symm; clear hw; subst hw2; rw [h5]; have Z3 : True := trivial) | (go_at_call 71; refine (isFlags6 d.f _).mono ?_; rintro e w' ⟨rfl, hw⟩; have hw2 := hw.symm; clear hw; subst hw2; rw [h7]))
                go_ret
                exact ⟨rB (by rw [G.out, q1, h2, q3, h4, h5, h6, h7]; simp), HK.out⟩
              · have qh7 : True := trivial
                cases h8 : decide (0 ≤ d.m)
                · have qh8 : True := trivial
                  go_enter Try.func53, Try.ntmps53
                  go_wp2_with (first | (go_at_call 69; have z := Z1; refine (areWords _ b cb d.ys (HB.out.keptS HK.out) ly).mono ?_; rintro e w' ⟨rfl, hw⟩; have hw2 := hw.symm; clear hw; subst hw2; rw [h4]) | (go_at_call 69; refine (areWords _ a ca d.xs (HA.out.keptS HK.out) lx).mono ?_; rintro e w' ⟨rfl, hw⟩; have hw2 := hw.symm; clear hw; subst hw2; rw [h2]; have Z1 : True := trivial) | (go_at_call 70; have z := Z3; refine (isWord d.p _ (wfB wfd.p).1 (wfB wfd.p).2).mono ?_; rintro e w' ⟨rfl, hw⟩; have hw2 := hw.symm; clear hw; subst hw2; rw [h6]) | (go_at_call 70; refine (isWord d.o _ (wfB wfd.o).1 (wfB wfd.o).2).mono ?_; rintro e w' ⟨rfl, hw⟩; have hw2 := hw.symm; clear hw; subst hw2; rw [h5]; have Z3 : True := trivial) | (go_at_call 71; refine (isFlags6 d.f _).mono ?_; rintro e w' ⟨rfl, hw⟩; have hw2 := hw.symm; clear hw; subst hw2; rw [h7]))
                  go_ret
                  exact ⟨rB (by rw [G.out, q1, h2, q3, h4, h5, h6, h7, h8]; simp), HK.out⟩
                · have qh8 : True := trivial
                  cases h9 : decide (d.m ≤ 7)
                  · have qh9 : True := trivial
                    go_enter Try.func53, Try.ntmps53
                    go_wp2_with (first | (go_at_call 69; have z := Z1; refine (areWords _ b cb d.ys (HB.out.keptS HK.out) ly).mono ?_; rintro e w' ⟨rfl, hw⟩; have hw2 := hw.symm; clear hw; subst hw2; rw [h4]) | (go_at_call 69; refine (areWords _ a ca d.xs (HA.out.keptS HK.out) lx).mono ?_; rintro e w' ⟨rfl, hw⟩; have hw2 := hw.symm; clear hw; subst hw2; rw [h2]; have Z1 : True := trivial) | (go_at_call 70; have z := Z3; refine (isWord d.p _ (wfB wfd.p).1 (wfB wfd.p).2).mono ?_; rintro e w' ⟨rfl, hw⟩; have hw2 := hw.symm; clear hw; subst hw2; rw [h6]) | (go_at_call 70; refine (isWord d.o _ (wfB wfd.o).1 (wfB wfd.o).2).mono ?_; rintro e w' ⟨rfl, hw⟩; have hw2 := hw.symm; clear hw; subst hw2; rw [h5]; have Z3 : True := trivial) | (go_at_call 71; refine (isFlags6 d.f _).mono ?_; rintro e w' ⟨rfl, hw⟩; have hw2 := hw.symm; clear hw; subst hw2; rw [h7]))
                    go_ret
                    exact ⟨rB (by rw [G.out, q1, h2, q3, h4, h5, h6, h7, h8, h9]; simp), HK.out⟩
                  · have qh9 : True := trivial
                    go_enter Try.func53, Try.ntmps53
                    go_wp2_with (first | (go_at_call 69; have z := Z1; refine (areWords _ b cb d.ys (HB.out.keptS HK.out) ly).mono ?_; rintro e w' ⟨rfl, hw⟩; have hw2 := hw.symm; clear hw; subst hw2; rw [h4]) | (go_at_call 69; refine (areWords _ a ca d.xs (HA.out.keptS HK.out) lx).mono ?_; rintro e w' ⟨rfl, hw⟩; have hw2 := hw.symm; clear hw; subst hw2; rw [h2]; have Z1 : True := trivial) | (go_at_call 70; have z := Z3; refine (isWord d.p _ (wfB wfd.p).1 (wfB wfd.p).2).mono ?_; rintro e w' ⟨rfl, hw⟩; have hw2 := hw.symm; clear hw; subst hw2; rw [h6]) | (go_at_call 70; refine (isWord d.o _ (wfB wfd.o).1 (wfB wfd.o).2).mono ?_; rintro e w' ⟨rfl, hw⟩; have hw2 := hw.symm; clear hw; subst hw2; rw [h5]; have Z3 : True := trivial) | (go_at_call 71; refine (isFlags6 d.f _).mono ?_; rintro e w' ⟨rfl, hw⟩; have hw2 := hw.symm; clear hw; subst hw2; rw [h7]))
                    go_ret
                    exact ⟨rB (by rw [G.out, q1, h2, q3, h4, h5, h6, h7, h8, h9]; simp), HK.out⟩
end Go.Proofs.Ytndhiaommphegaa

namespace Go.Proofs.Ytndhiaommphegaa
open Go.RowKit
set_option linter.unusedVariables false
/-- the fourteen cells of registers in one value -/
def bkR (r : Pl.Rg) : Array Value := #[iv (el r.xs 0), iv (el r.xs 1), iv (el r.xs 2), iv (el r.xs 3), iv (el r.ys 0), iv (el r.ys 1), iv (el r.ys 2), iv (el r.ys 3), iv r.o, iv r.p, iv r.f, iv r.m, .bool r.s, .bool r.t]
theorem bkR_one (r : Pl.Rg) : (bkR r).all (·.oneCell') = true := by simp [bkR, Value.oneCell']
theorem bkR_info (r : Pl.Rg) : (Try.prog.info? 87).map (·.size) = some (bkR r).size := by
  have : (Try.prog.info? 87).map (·.size) = some 14 := by kernel_rfl
  exact this
theorem list4 {xs : List Int} (h : xs.length = 4) : xs = [el xs 0, el xs 1, el xs 2, el xs 3] := by
  match xs, h with
  | [a, b, c, d], _ => rfl

theorem mk4 (w : World) : (Instr.makeSlice 22 (iv 4) (iv 4)).run Try.prog w = .ok (.slice (some ⟨w.heap.size, 0, none⟩) 4 4) (w.alloc (.cells #[iv 0, iv 0, iv 0, iv 0] 3)) := by kernel_rfl
theorem listOf4 (x0 x1 x2 x3 : Int) (w : World) :
    Calls Try.prog 87 #[.agg #[iv x0, iv x1, iv x2, iv x3]] w fun e w' => e = .returned (.slice (some ⟨w.heap.size + 1, 0, none⟩) 4 4) ∧ Blk w' (w.heap.size + 1) (cellsOf [x0, x1, x2, x3]) 3 ∧ Kept 0 0 w w' := by
  have B0 : Blk ((w.alloc (.cells #[iv x0, iv x1, iv x2, iv x3] 85)).alloc (.cells #[iv 0, iv 0, iv 0, iv 0] 3)) w.heap.size (cellsOf [x0, x1, x2, x3]) 85 := (Blk.new w #[iv x0, iv x1, iv x2, iv x3] 85).alloc _
  have B1 := Blk.new (w.alloc (.cells #[iv x0, iv x1, iv x2, iv x3] 85)) #[iv 0, iv 0, iv 0, iv 0] 3
  simp only [World.size_alloc] at B1
  obtain ⟨W1, hcopy, C1, k1⟩ := copy_at _ (w.heap.size + 1) 0 4 4 4 (some ⟨w.heap.size, 0, none⟩) [x0, x1, x2, x3] [iv 0, iv 0, iv 0, iv 0] 3 B1 (own_of_blk B0).row (by simp) (by simp)
  have hc : (Builtin.copy_ #[22, 22] 3 #[.slice (some ⟨w.heap.size + 1, 0, none⟩) 4 4, .slice (some ⟨w.heap.size, 0, none⟩) 4 4]).run Try.prog ((w.alloc (.cells #[iv x0, iv x1, iv x2, iv x3] 85)).alloc (.cells #[iv 0, iv 0, iv 0, iv 0] 3)) = .ok (iv 4) W1 := hcopy
  have C := hide (show Blk W1 (w.heap.size + 1) (cellsOf [x0, x1, x2, x3]) 3 from C1)
  have K := hide (kept_over (kept_new (kept_alloc w _) _) k1 (by omega))
  clear B0 B1 hcopy C1 k1
  have mk := mk4
  go_enter Try.func87, Try.ntmps87
  go_wp2
  go_ret
  exact ⟨rfl, C.out, K.out⟩
theorem bankOf (w : World) (d : Pl.Rg) (a b : Option Addr) (ca cb : Nat) (ha : IRow w a d.xs) (hb : IRow w b d.ys) (lx : d.xs.length = 4) (ly : d.ys.length = 4) :
    Calls Try.prog 74 #[.agg #[.slice a d.xs.length ca, .slice b d.ys.length cb, iv d.o, iv d.p, iv d.f, iv d.m, .bool d.s, .bool d.t]] w fun e w' => e = .returned (.agg (bkR d)) ∧ Kept 0 0 w w' := by
  rw [lx, ly]
  obtain ⟨W0, h0⟩ : ∃ W : World, W = ((w.alloc (.cells #[.slice a 4 ca, .slice b 4 cb, iv d.o, iv d.p, iv d.f, iv d.m, .bool d.s, .bool d.t] 31)).alloc (.cells #[iv 0, iv 0, iv 0, iv 0, iv 0, iv 0, iv 0, iv 0, iv 0, iv 0, iv 0, iv 0, .bool false, .bool false] 87)).alloc (.cells #[iv 0, iv 0, iv 0, iv 0, iv 0, iv 0, iv 0, iv 0, iv d.o, iv d.p, iv d.f, iv d.m, .bool d.s, .bool d.t] 87) := ⟨_, rfl⟩
  have R0 : Blk W0 w.heap.size #[.slice a 4 ca, .slice b 4 cb, iv d.o, iv d.p, iv d.f, iv d.m, .bool d.s, .bool d.t] 31 := by rw [h0]; exact ((Blk.new w _ _).alloc _).alloc _
  have Z0 : Blk W0 (w.heap.size + 1) #[iv 0, iv 0, iv 0, iv 0, iv 0, iv 0, iv 0, iv 0, iv 0, iv 0, iv 0, iv 0, .bool false, .bool false] 87 := by
    rw [h0]
    have := Blk.new (w.alloc (.cells #[.slice a 4 ca, .slice b 4 cb, iv d.o, iv d.p, iv d.f, iv d.m, .bool d.s, .bool d.t] 31)) #[iv 0, iv 0, iv 0, iv 0, iv 0, iv 0, iv 0, iv 0, iv 0, iv 0, iv 0, iv 0, .bool false, .bool false] 87
    simp only [World.size_alloc] at this
    exact this.alloc _
  have B0 : Blk W0.drew (w.heap.size + 1 + 1) #[iv 0, iv 0, iv 0, iv 0, iv 0, iv 0, iv 0, iv 0, iv d.o, iv d.p, iv d.f, iv d.m, .bool d.s, .bool d.t] 87 := by
    rw [h0]
    have := Blk.new ((w.alloc (.cells #[.slice a 4 ca, .slice b 4 cb, iv d.o, iv d.p, iv d.f, iv d.m, .bool d.s, .bool d.t] 31)).alloc (.cells #[iv 0, iv 0, iv 0, iv 0, iv 0, iv 0, iv 0, iv 0, iv 0, iv 0, iv 0, iv 0, .bool false, .bool false] 87)) #[iv 0, iv 0, iv 0, iv 0, iv 0, iv 0, iv 0, iv 0, iv d.o, iv d.p, iv d.f, iv d.m, .bool d.s, .bool d.t] 87
    simp only [World.size_alloc] at this
    exact this
  have K0 : Kept 0 0 w W0.drew := by rw [h0]; exact kept_drew (kept_new (kept_new (kept_alloc w _) _) _)
  have r00 := R0.cell (i := 0) rfl
  have r01 := R0.cell (i := 1) rfl
  obtain ⟨W1, hc1, B1, k1⟩ := copy_at W0.drew (w.heap.size + 1 + 1) 0 4 4 ca a d.xs _ _ B0 (ha.keptS K0) (by omega) (by rw [lx]; simp)
  have K1 : Kept 0 0 w W1.drew := kept_drew (kept_over K0 k1 (by omega))
  have R1 : Blk W1 w.heap.size #[.slice a 4 ca, .slice b 4 cb, iv d.o, iv d.p, iv d.f, iv d.m, .bool d.s, .bool d.t] 31 := Blk.kept (show Blk W0.drew _ _ _ from R0) k1 (by omega)
  have r11 := R1.cell (i := 1) rfl
  obtain ⟨W2, hc2, B2, k2⟩ := copy_at W1.drew (w.heap.size + 1 + 1) 4 4 4 cb b d.ys _ _ (show Blk W1.drew _ _ _ from B1) (hb.keptS K1) (by omega) (by rw [ly, length_splice _ _ _ (by simp [lx])]; simp)
  have Z1 := Blk.kept (show Blk W0.drew _ _ _ from Z0) k1 (by omega)
  have Z2 := hide (Blk.kept (show Blk W1.drew _ _ _ from Z1) k2 (by omega))
  have K2 := hide (kept_over K1 k2 (by omega))
  rw [lx] at hc1
  rw [ly] at hc2
  have D2 : Hid (Blk W2 (w.heap.size + 1 + 1) (bkR d) 87) := hide (by
    rw [list4 lx, list4 ly] at B2
    exact B2)
  clear B0 B1 B2 k1 k2 K0 K1 R0 Z0 R1 Z1
  go_enter Try.func74, Try.ntmps74
  go_wp2_with fail
  rw [← h0]
  clear h0
  go_region
  go_wp2_with fail
  go_region
  go_wp2_with (first | (refine wpList_load_row rfl 87 (.tmp 3) rfl (w.heap.size + 1 + 1) rfl 87 (bkR d) (0, 0) _ D2.out Try.underlying87 rfl (bkR_info d) ?_) | (refine wpList_store_row rfl 87 (.tmp 2) (.tmp 27) rfl (w.heap.size + 1) (bkR d) rfl rfl 87 _ Z2.out (bkR_info d) rfl (bkR_one d) ?_))
  refine bodyPost_ret (v := .agg (bkR d)) ?_ rfl ⟨rfl, kept_setRow K2.out _ _ (by omega)⟩
  exact results_cell_row rfl _ _ _ _ _ (0, 0) _ rfl Z2.out.setRow Try.underlying87 rfl (bkR_info d)
end Go.Proofs.Ytndhiaommphegaa

namespace Go.Proofs.Ytndhiaommphegaa
open Go.RowKit
set_option linter.unusedVariables false
/-- what lies in the block behind a core, and the block's type -/
structure Tl where
  c : Array Value
  y : TypeId
structure Hl where
  a : Bool
  t : Tl
abbrev tl0 : Tl := ⟨#[], 93⟩
def cor (r : Pl.Rg) (xs : List Int) (u : Value) (st : Bool) (ha : Hl) : Array Value := bkR r ++ (cellsOf xs ++ (#[u, .bool st, .bool ha.a] ++ ha.t.c))
section
variable {r : Pl.Rg} {xs : List Int} {u : Value} {st : Bool} {ha : Hl}
theorem cor_size {x : Bool} (hl : xs.length = 512) : (cor r xs u st ⟨x, tl0⟩).size = 529 := by
  have : (bkR r).size = 14 := rfl
  simp [cor, this, cellsOf_size, hl]
theorem cor_lo {i : Nat} (h : i < 14) : (cor r xs u st ha)[i]? = (bkR r)[i]? := Array.getElem?_append_left h
theorem cor_hi (i : Nat) : (cor r xs u st ha)[14 + i]? = (cellsOf xs ++ (#[u, .bool st, .bool ha.a] ++ ha.t.c))[i]? := by
  have := Array.getElem?_append_right (xs := bkR r) (ys := cellsOf xs ++ (#[u, .bool st, .bool ha.a] ++ ha.t.c)) (i := 14 + i) (Nat.le_add_right 14 i)
  rw [show 14 + i - (bkR r).size = i from Nat.add_sub_cancel_left 14 i] at this
  exact this
theorem cor_at {i : Nat} (hi : i < xs.length) : (cor r xs u st ha)[14 + i]? = some (iv (el xs i)) := by
  rw [cor_hi, Array.getElem?_append_left (by rw [cellsOf_size]; exact hi)]
  simp [cellsOf, el, hi]
theorem cor_up (hl : xs.length = 512) (i : Nat) : (cor r xs u st ha)[14 + (512 + i)]? = ((#[u, .bool st, .bool ha.a] ++ ha.t.c : Array Value))[i]? := by
  rw [cor_hi, Array.getElem?_append_right (by rw [cellsOf_size, hl]; omega), cellsOf_size, hl, Nat.add_sub_cancel_left]
theorem cor_log (hl : xs.length = 512) : (cor r xs u st ha)[526]? = some u := (cor_up hl 0).trans (Array.getElem?_append_left (by simp))
theorem cor_st (hl : xs.length = 512) : (cor r xs u st ha)[527]? = some (.bool st) := (cor_up hl 1).trans (Array.getElem?_append_left (by simp))
theorem cor_ha (hl : xs.length = 512) : (cor r xs u st ha)[528]? = some (.bool ha.a) := (cor_up hl 2).trans (Array.getElem?_append_left (by simp))
theorem cor_tl (hl : xs.length = 512) (i : Nat) : (cor r xs u st ha)[529 + i]? = ha.t.c[i]? := by
  rw [show 529 + i = 14 + (512 + (3 + i)) by omega]
  refine (cor_up hl (3 + i)).trans ((Array.getElem?_append_right (by simp)).trans ?_)
  simp
end
theorem bk_at {r : Pl.Rg} {k : Nat} (hk : k < 4) : (bkR r)[k]? = some (iv (el r.xs k)) ∧ (bkR r)[4 + k]? = some (iv (el r.ys k)) := by
  have : k = 0 ∨ k = 1 ∨ k = 2 ∨ k = 3 := by omega
  rcases this with rfl | rfl | rfl | rfl <;> exact ⟨rfl, rfl⟩
/-- the block -/
def CBk (w : World) (b g cu : Nat) (c : Pl.Mc) (h : Hl) : Prop := Blk w b (cor c.r c.bx (.slice (some ⟨g, 0, none⟩) c.bm cu) c.st h) h.t.y
/-- the log -/
structure CLg (w : World) (lo b g cu : Nat) (bl : List Int) (bm : Nat) : Prop where
  l : w.ownsRow lo 104 5 (.slice (some ⟨g, 0, none⟩) bm cu) bm (bl.map (Value.int .i64))
  lo' : lo ≤ b
  ne : b ≠ g
def CAt (w : World) (lo b g : Nat) (c : Pl.Mc) (h : Hl) : Prop := ∃ cu : Nat, CBk w b g cu c h ∧ CLg w lo b g cu c.bl c.bm
section
variable {w w' : World} {lo b g cu : Nat} {c : Pl.Mc} {h : Hl} {bl : List Int} {bm : Nat}
theorem CLg.any (o : CLg w lo b g cu bl bm) (k : Kept 0 0 w w') : CLg w' lo b g cu bl bm := ⟨ownsRow_keptS o.l k (by omega), o.lo', o.ne⟩
theorem CLg.lt (o : CLg w lo b g cu bl bm) : lo ≤ g ∧ g < w.heap.size := o.l.lt g rfl
theorem CAt.lt (a : CAt w lo b g c h) : lo ≤ b ∧ b < w.heap.size ∧ lo ≤ g ∧ g < w.heap.size ∧ b ≠ g := by
  obtain ⟨cu, hB, hO⟩ := a
  have := hO.lt
  exact ⟨hO.lo', Blk.lt hB, this.1, this.2, hO.ne⟩
theorem CAt.any (a : CAt w lo b g c h) (k : Kept 0 0 w w') : CAt w' lo b g c h := by
  obtain ⟨cu, hB, hO⟩ := a
  exact ⟨cu, Blk.kept0 hB k, hO.any k⟩
theorem CAt.alloc (a : CAt w lo b g c h) (o : Obj) : CAt (w.alloc o) lo b g c h := a.any (kept_alloc w o)
theorem CAt.drew (a : CAt w lo b g c h) : CAt w.drew lo b g c h := a.any (kept_drew (Kept.refl _ _ _))
theorem CAt.kept {x y : Nat} (a : CAt w lo b g c h) (k : Kept x y w w') (h1 : ¬ (x ≤ b ∧ b < y)) (h2 : ¬ (x ≤ g ∧ g < y)) : CAt w' lo b g c h := by
  obtain ⟨cu, hB, hO⟩ := a
  exact ⟨cu, Blk.kept hB k h1, ⟨ownsRow_keptS hO.l k h2, hO.lo', hO.ne⟩⟩
/-- its cells -/
theorem CAt.cX (a : CAt w lo b g c h) {k : Nat} (hk : k < 4) : w.cell? ⟨b, k, none⟩ = some (iv (el c.r.xs k)) := by
  obtain ⟨cu, hB, hO⟩ := a
  exact Blk.cell hB ((cor_lo (by omega)).trans (bk_at hk).1)
theorem CAt.cY (a : CAt w lo b g c h) {k : Nat} (hk : k < 4) : w.cell? ⟨b, 4 + k, none⟩ = some (iv (el c.r.ys k)) := by
  obtain ⟨cu, hB, hO⟩ := a
  exact Blk.cell hB ((cor_lo (by omega)).trans (bk_at hk).2)
theorem CAt.cR (a : CAt w lo b g c h) {i : Nat} {v : Value} (hi : i < 14) (e : (bkR c.r)[i]? = some v) : w.cell? ⟨b, i, none⟩ = some v := by
  obtain ⟨cu, hB, hO⟩ := a
  exact Blk.cell hB ((cor_lo hi).trans e)
theorem CAt.cO (a : CAt w lo b g c h) : w.cell? ⟨b, 8, none⟩ = some (iv c.r.o) := a.cR (by omega) rfl
theorem CAt.cP (a : CAt w lo b g c h) : w.cell? ⟨b, 9, none⟩ = some (iv c.r.p) := a.cR (by omega) rfl
theorem CAt.cF (a : CAt w lo b g c h) : w.cell? ⟨b, 10, none⟩ = some (iv c.r.f) := a.cR (by omega) rfl
theorem CAt.cM (a : CAt w lo b g c h) : w.cell? ⟨b, 11, none⟩ = some (iv c.r.m) := a.cR (by omega) rfl
theorem CAt.cS (a : CAt w lo b g c h) : w.cell? ⟨b, 12, none⟩ = some (.bool c.r.s) := a.cR (by omega) rfl
theorem CAt.cT (a : CAt w lo b g c h) : w.cell? ⟨b, 13, none⟩ = some (.bool c.r.t) := a.cR (by omega) rfl
theorem CAt.cSt (a : CAt w lo b g c h) (l : c.bx.length = 512) : w.cell? ⟨b, 527, none⟩ = some (.bool c.st) := by
  obtain ⟨cu, hB, hO⟩ := a
  exact Blk.cell hB (cor_st l)
theorem CAt.cH (a : CAt w lo b g c h) (l : c.bx.length = 512) : w.cell? ⟨b, 528, none⟩ = some (.bool h.a) := by
  obtain ⟨cu, hB, hO⟩ := a
  exact Blk.cell hB (cor_ha l)
theorem CAt.cTl (a : CAt w lo b g c h) (l : c.bx.length = 512) {i : Nat} {v : Value} (e : h.t.c[i]? = some v) : w.cell? ⟨b, 529 + i, none⟩ = some v := by
  obtain ⟨cu, hB, hO⟩ := a
  exact Blk.cell hB ((cor_tl l i).trans e)
end
end Go.Proofs.Ytndhiaommphegaa

namespace Go.Proofs.Ytndhiaommphegaa
open Go.RowKit
set_option linter.unusedVariables false
theorem kept14 (w : World) (b : Nat) (v0 v1 v2 v3 v4 v5 v6 v7 v8 v9 v10 v11 v12 v13 : Value) : Kept b (b + 1) w ((((((((((((((w.setCell ⟨b, 0, none⟩ (v0)).setCell ⟨b, 1, none⟩ (v1)).setCell ⟨b, 2, none⟩ (v2)).setCell ⟨b, 3, none⟩ (v3)).setCell ⟨b, 4, none⟩ (v4)).setCell ⟨b, 5, none⟩ (v5)).setCell ⟨b, 6, none⟩ (v6)).setCell ⟨b, 7, none⟩ (v7)).setCell ⟨b, 8, none⟩ (v8)).setCell ⟨b, 9, none⟩ (v9)).setCell ⟨b, 10, none⟩ (v10)).setCell ⟨b, 11, none⟩ (v11)).setCell ⟨b, 12, none⟩ (v12)).setCell ⟨b, 13, none⟩ (v13)) := ((((((((((((((kept_one w b 0 (v0)).one 1 (v1)).one 2 (v2)).one 3 (v3)).one 4 (v4)).one 5 (v5)).one 6 (v6)).one 7 (v7)).one 8 (v8)).one 9 (v9)).one 10 (v10)).one 11 (v11)).one 12 (v12)).one 13 (v13))
end Go.Proofs.Ytndhiaommphegaa

namespace Go.Proofs.Ytndhiaommphegaa
open Go.RowKit
set_option linter.unusedVariables false
abbrev irA (x : Pl.Iq) (a b e q : Option Addr) (ca cb ce cq : Nat) : Array Value := #[.slice a x.c.r.xs.length ca, .slice b x.c.r.ys.length cb, iv x.c.r.o, iv x.c.r.p, iv x.c.r.f, iv x.c.r.m, .bool x.c.r.s, .bool x.c.r.t, .slice e x.c.bx.length ce, .slice q x.c.bm cq, .bool x.c.st, .bool x.c.ha, iv x.l, .bool x.e]
abbrev iqZ : Array Value := #[.slice none 0 0, .slice none 0 0, iv 0, iv 0, iv 0, iv 0, .bool false, .bool false, .slice none 0 0, .slice none 0 0, .bool false, .bool false, iv 0, .bool false]
theorem kept14i {w : World} {p : Nat} {v0 v1 v2 v3 v4 v5 v6 v7 v8 v9 v10 v11 v12 v13 : Value} : Kept p (p + 1) w ((((((((((((((w.setCell ⟨p, 0, none⟩ v0).setCell ⟨p, 1, none⟩ v1).setCell ⟨p, 2, none⟩ v2).setCell ⟨p, 3, none⟩ v3).setCell ⟨p, 4, none⟩ v4).setCell ⟨p, 5, none⟩ v5).setCell ⟨p, 6, none⟩ v6).setCell ⟨p, 7, none⟩ v7).setCell ⟨p, 8, none⟩ v8).setCell ⟨p, 9, none⟩ v9).setCell ⟨p, 10, none⟩ v10).setCell ⟨p, 11, none⟩ v11).setCell ⟨p, 12, none⟩ v12).setCell ⟨p, 13, none⟩ v13) := kept14 w p v0 v1 v2 v3 v4 v5 v6 v7 v8 v9 v10 v11 v12 v13
theorem SlotIn.pst {w w' : World} {l x y : Nat} {a : Option Addr} {xs : List Int} (s : SlotIn w l w.heap.size a xs) (k : Kept x y w w') (hn : ∀ g, blk a = some g → ¬ (x ≤ g ∧ g < y)) : SlotIn w' l w'.heap.size a xs := by
  rcases s with s | ⟨g, ea, g0, g1, ho⟩
  · exact .inl s
  · exact .inr ⟨g, ea, g0, Nat.lt_of_lt_of_le g1 k.size, ho.keptS k (hn g (by rw [ea]; rfl))⟩
/-- a processor behind stores into a block that none of its lists lies in -/
theorem CpuIn.pst {w w' : World} {base x y : Nat} {c : Pl.Cp} {a b e q : Option Addr} (h : CpuIn w base c a b e q) (k : Kept x y w w') (hn : ∀ z, blk a = some z ∨ blk b = some z ∨ blk e = some z ∨ blk q = some z → ¬ (x ≤ z ∧ z < y)) : CpuIn w' base c a b e q :=
  ⟨h.d.pst k (fun z hz => hn z (.inl hz)), h.a'.pst k (fun z hz => hn z (.inr (.inl hz))), h.b'.pst k (fun z hz => hn z (.inr (.inr (.inl hz)))), h.l.pst k (fun z hz => hn z (.inr (.inr (.inr hz)))), h.n1, h.n2, h.n3, h.n4, h.n5, h.n6⟩
end Go.Proofs.Ytndhiaommphegaa

namespace Go.Proofs.Ytndhiaommphegaa
open Go.RowKit
set_option linter.unusedVariables false
theorem specGoodCpu (w : World) (c : Pl.Cp) (a b e q : Option Addr) (ca cb ce cq : Nat) (ha : IRow w a c.r.xs) (hb : IRow w b c.r.ys) (he : IRow w e c.bx) (hq : IRow w q c.bl) (lx : c.r.xs.length ≤ 2000000) (ly : c.r.ys.length ≤ 2000000) (lb : c.bx.length ≤ 2000000) (ll : c.bl.length = 5 * c.bm) (lm : c.bm ≤ 2000000) :
    Calls Try.prog 26 #[.agg #[.slice a c.r.xs.length ca, .slice b c.r.ys.length cb, iv c.r.o, iv c.r.p, iv c.r.f, iv c.r.m, .bool c.r.s, .bool c.r.t, .slice e c.bx.length ce, .slice q c.bm cq, .bool c.st, .bool c.ha]] w fun r w' => r = .returned (.bool (Pl.cpOk c)) ∧ Kept 0 0 w w' := by
  have K0 := hide (kept_alloc w (.cells #[.slice a c.r.xs.length ca, .slice b c.r.ys.length cb, iv c.r.o, iv c.r.p, iv c.r.f, iv c.r.m, .bool c.r.s, .bool c.r.t, .slice e c.bx.length ce, .slice q c.bm cq, .bool c.st, .bool c.ha] 36))
  have BA := Blk.new w #[.slice a c.r.xs.length ca, .slice b c.r.ys.length cb, iv c.r.o, iv c.r.p, iv c.r.f, iv c.r.m, .bool c.r.s, .bool c.r.t, .slice e c.bx.length ce, .slice q c.bm cq, .bool c.st, .bool c.ha] 36
  obtain ⟨X, hX⟩ : ∃ X : World, w.alloc (.cells #[.slice a c.r.xs.length ca, .slice b c.r.ys.length cb, iv c.r.o, iv c.r.p, iv c.r.f, iv c.r.m, .bool c.r.s, .bool c.r.t, .slice e c.bx.length ce, .slice q c.bm cq, .bool c.st, .bool c.ha] 36) = X := ⟨_, rfl⟩
  rw [hX] at K0 BA
  have HBA := hide BA
  have HA := hide (ha.keptS K0.out)
  have HB := hide (hb.keptS K0.out)
  have HE := hide (he.keptS K0.out)
  have HQ := hide (hq.keptS K0.out)
  clear BA ha hb he hq
  have i0 := HBA.out.cell (i := 0) rfl
  have i1 := HBA.out.cell (i := 1) rfl
  have i2 := HBA.out.cell (i := 2) rfl
  have i3 := HBA.out.cell (i := 3) rfl
  have i4 := HBA.out.cell (i := 4) rfl
  have i5 := HBA.out.cell (i := 5) rfl
  have i6 := HBA.out.cell (i := 6) rfl
  have i7 := HBA.out.cell (i := 7) rfl
  have i8 := HBA.out.cell (i := 8) rfl
  have i9 := HBA.out.cell (i := 9) rfl
  have i10 := HBA.out.cell (i := 10) rfl
  have i11 := HBA.out.cell (i := 11) rfl
  cases h1 : Pl.rgOk c.r
  · go_enter Try.func26, Try.ntmps26
    go_wp2_with (first | (go_at_call 47; refine (specGoodRegs _ c.r a b ca cb HA.out HB.out lx ly).mono ?_; rintro e9 W ⟨rfl, k9⟩; rw [h1]; have HK1 := hide k9; have HB1 := hide (HBA.out.kept0 k9); have HE1 := hide (HE.out.keptS k9); have HQ1 := hide (HQ.out.keptS k9); clear k9 i0 i1 i2 i3 i4 i5 i6 i7 i8 i9 i10 i11; have i0 := HB1.out.cell (i := 0) rfl; have i1 := HB1.out.cell (i := 1) rfl; have i2 := HB1.out.cell (i := 2) rfl; have i3 := HB1.out.cell (i := 3) rfl; have i4 := HB1.out.cell (i := 4) rfl; have i5 := HB1.out.cell (i := 5) rfl; have i6 := HB1.out.cell (i := 6) rfl; have i7 := HB1.out.cell (i := 7) rfl; have i8 := HB1.out.cell (i := 8) rfl; have i9 := HB1.out.cell (i := 9) rfl; have i10 := HB1.out.cell (i := 10) rfl; have i11 := HB1.out.cell (i := 11) rfl))
    go_ret
    exact ⟨rB (by unfold Pl.cpOk; simp [h1]), K0.out.trans HK1.out⟩
  · cases h2 : Pl.goodBus c.bx c.bl c.bm
    · go_enter Try.func26, Try.ntmps26
      go_wp2_with (first | (go_at_call 48; have z9 := HB1; refine (specGoodBus _ e q ce cq c.bm c.bx c.bl HE1.out HQ1.out lb ll lm).mono ?_; rintro e9 W2 ⟨rfl, k9⟩; rw [h2]; have HK2 := hide k9; have HB2 := hide (HB1.out.kept0 k9); clear k9 i0 i1 i2 i3 i4 i5 i6 i7 i8 i9 i10 i11; have i0 := HB2.out.cell (i := 0) rfl; have i1 := HB2.out.cell (i := 1) rfl; have i2 := HB2.out.cell (i := 2) rfl; have i3 := HB2.out.cell (i := 3) rfl; have i4 := HB2.out.cell (i := 4) rfl; have i5 := HB2.out.cell (i := 5) rfl; have i6 := HB2.out.cell (i := 6) rfl; have i7 := HB2.out.cell (i := 7) rfl; have i8 := HB2.out.cell (i := 8) rfl; have i9 := HB2.out.cell (i := 9) rfl; have i10 := HB2.out.cell (i := 10) rfl; have i11 := HB2.out.cell (i := 11) rfl) | (go_at_call 47; refine (specGoodRegs _ c.r a b ca cb HA.out HB.out lx ly).mono ?_; rintro e9 W ⟨rfl, k9⟩; rw [h1]; have HK1 := hide k9; have HB1 := hide (HBA.out.kept0 k9); have HE1 := hide (HE.out.keptS k9); have HQ1 := hide (HQ.out.keptS k9); clear k9 i0 i1 i2 i3 i4 i5 i6 i7 i8 i9 i10 i11; have i0 := HB1.out.cell (i := 0) rfl; have i1 := HB1.out.cell (i := 1) rfl; have i2 := HB1.out.cell (i := 2) rfl; have i3 := HB1.out.cell (i := 3) rfl; have i4 := HB1.out.cell (i := 4) rfl; have i5 := HB1.out.cell (i := 5) rfl; have i6 := HB1.out.cell (i := 6) rfl; have i7 := HB1.out.cell (i := 7) rfl; have i8 := HB1.out.cell (i := 8) rfl; have i9 := HB1.out.cell (i := 9) rfl; have i10 := HB1.out.cell (i := 10) rfl; have i11 := HB1.out.cell (i := 11) rfl))
      go_ret
      exact ⟨rB (by unfold Pl.cpOk; simp [h1, h2]), (K0.out.trans HK1.out).trans HK2.out⟩
    · rcases Bool.eq_false_or_eq_true c.st with h3 | h3
      · have H3 := hide h3
        rw [H3.out] at i10
        clear h3
        go_enter Try.func26, Try.ntmps26
        go_wp2_with (first | (go_at_call 48; have z9 := HB1; refine (specGoodBus _ e q ce cq c.bm c.bx c.bl HE1.out HQ1.out lb ll lm).mono ?_; rintro e9 W2 ⟨rfl, k9⟩; rw [h2]; have HK2 := hide k9; have HB2 := hide (HB1.out.kept0 k9); clear k9 i0 i1 i2 i3 i4 i5 i6 i7 i8 i9 i10 i11; have i0 := HB2.out.cell (i := 0) rfl; have i1 := HB2.out.cell (i := 1) rfl; have i2 := HB2.out.cell (i := 2) rfl; have i3 := HB2.out.cell (i := 3) rfl; have i4 := HB2.out.cell (i := 4) rfl; have i5 := HB2.out.cell (i := 5) rfl; have i6 := HB2.out.cell (i := 6) rfl; have i7 := HB2.out.cell (i := 7) rfl; have i8 := HB2.out.cell (i := 8) rfl; have i9 := HB2.out.cell (i := 9) rfl; have i10 := HB2.out.cell (i := 10) rfl; have i11 := HB2.out.cell (i := 11) rfl; rw [H3.out] at i10) | (go_at_call 47; refine (specGoodRegs _ c.r a b ca cb HA.out HB.out lx ly).mono ?_; rintro e9 W ⟨rfl, k9⟩; rw [h1]; have HK1 := hide k9; have HB1 := hide (HBA.out.kept0 k9); have HE1 := hide (HE.out.keptS k9); have HQ1 := hide (HQ.out.keptS k9); clear k9 i0 i1 i2 i3 i4 i5 i6 i7 i8 i9 i10 i11; have i0 := HB1.out.cell (i := 0) rfl; have i1 := HB1.out.cell (i := 1) rfl; have i2 := HB1.out.cell (i := 2) rfl; have i3 := HB1.out.cell (i := 3) rfl; have i4 := HB1.out.cell (i := 4) rfl; have i5 := HB1.out.cell (i := 5) rfl; have i6 := HB1.out.cell (i := 6) rfl; have i7 := HB1.out.cell (i := 7) rfl; have i8 := HB1.out.cell (i := 8) rfl; have i9 := HB1.out.cell (i := 9) rfl; have i10 := HB1.out.cell (i := 10) rfl; have i11 := HB1.out.cell (i := 11) rfl; rw [H3.out] at i10))
        go_ret
        exact ⟨rB (by unfold Pl.cpOk; simp [h1, h2, H3.out]), (K0.out.trans HK1.out).trans HK2.out⟩
      · have H3 := hide h3
        rw [H3.out] at i10
        clear h3
        go_enter Try.func26, Try.ntmps26
        go_wp2_with (first | (go_at_call 48; have z9 := HB1; refine (specGoodBus _ e q ce cq c.bm c.bx c.bl HE1.out HQ1.out lb ll lm).mono ?_; rintro e9 W2 ⟨rfl, k9⟩; rw [h2]; have HK2 := hide k9; have HB2 := hide (HB1.out.kept0 k9); clear k9 i0 i1 i2 i3 i4 i5 i6 i7 i8 i9 i10 i11; have i0 := HB2.out.cell (i := 0) rfl; have i1 := HB2.out.cell (i := 1) rfl; have i2 := HB2.out.cell (i := 2) rfl; have i3 := HB2.out.cell (i := 3) rfl; have i4 := HB2.out.cell (i := 4) rfl; have i5 := HB2.out.cell (i := 5) rfl; have i6 := HB2.out.cell (i := 6) rfl; have i7 := HB2.out.cell (i := 7) rfl; have i8 := HB2.out.cell (i := 8) rfl; have i9 := HB2.out.cell (i := 9) rfl; have i10 := HB2.out.cell (i := 10) rfl; have i11 := HB2.out.cell (i := 11) rfl; rw [H3.out] at i10) | (go_at_call 47; refine (specGoodRegs _ c.r a b ca cb HA.out HB.out lx ly).mono ?_; rintro e9 W ⟨rfl, k9⟩; rw [h1]; have HK1 := hide k9; have HB1 := hide (HBA.out.kept0 k9); have HE1 := hide (HE.out.keptS k9); have HQ1 := hide (HQ.out.keptS k9); clear k9 i0 i1 i2 i3 i4 i5 i6 i7 i8 i9 i10 i11; have i0 := HB1.out.cell (i := 0) rfl; have i1 := HB1.out.cell (i := 1) rfl; have i2 := HB1.out.cell (i := 2) rfl; have i3 := HB1.out.cell (i := 3) rfl; have i4 := HB1.out.cell (i := 4) rfl; have i5 := HB1.out.cell (i := 5) rfl; have i6 := HB1.out.cell (i := 6) rfl; have i7 := HB1.out.cell (i := 7) rfl; have i8 := HB1.out.cell (i := 8) rfl; have i9 := HB1.out.cell (i := 9) rfl; have i10 := HB1.out.cell (i := 10) rfl; have i11 := HB1.out.cell (i := 11) rfl; rw [H3.out] at i10))
        go_ret
        exact ⟨rB (by unfold Pl.cpOk; simp [h1, h2, H3.out]), (K0.out.trans HK1.out).trans HK2.out⟩
end Go.Proofs.Ytndhiaommphegaa

namespace Go.Proofs.Ytndhiaommphegaa
open Go.RowKit
set_option linter.unusedVariables false
theorem results_ct {fn : Func} {p q : Tmp} {ty : TypeId} (h : fn.results = #[.cell p ty, .tmp q]) (tmps : Array Value) (P : Program) (w : World) :
    (results fn tmps).run P w = ((asAddr (tmps.getD p undef)).run P w).andThen fun a w₁ => ((loadVar ty a).run P w₁).andThen fun v w₂ => .ok (.tuple #[v, tmps.getD q undef]) w₂ := by
  simp only [results, h]
  simp [Sem.run_bind, Result.andThen]
theorem CO.pstQ {w w' : World} {lo' lo x y mid gd ga g1 g2 c2 : Nat} {c : Pl.Cp} (h : CO w lo' mid c gd ga g1 g2 c2) (k : Kept x y w w') (hl : y ≤ lo') (hb : lo ≤ lo') : CO w' lo mid c gd ga g1 g2 c2 := by
  have q := h.l.lt g2 rfl
  have := h.d0; have := h.d1; have := h.b0; have := h.a0; have := h.a1
  exact ⟨h.d.keptS k (by omega), h.a.keptS k (by omega), h.b.keptS k (by omega), ownsRow_keptS h.l k (by omega), by omega, h.d1, by omega, h.a1, h.da, h.b0, Nat.lt_of_lt_of_le h.b1 k.size, h.bl⟩
theorem mOwnB (w : World) (c : Pl.Cp) (a b e q : Option Addr) (ca cb ce cq : Nat) (ha : IRow w a c.r.xs) (hb : IRow w b c.r.ys) (he : IRow w e c.bx) (hq : IRow w q c.bl) (hok : Pl.cpOk c = true) (hl : c.bl.length = 5 * c.bm) :
    Calls Try.prog 27 #[.agg (cpA c a b e q ca cb ce cq)] w fun r w' => ∃ gd cd ga cA g1 c1 g2 c2 mid : Nat, r = .returned (.agg (cpA c (some ⟨gd, 0, none⟩) (some ⟨ga, 0, none⟩) (some ⟨g1, 0, none⟩) (some ⟨g2, 0, none⟩) cd cA c1 c2)) ∧ CO w' w.heap.size mid c gd ga g1 g2 c2 ∧ Kept 0 0 w w' := by
  have G := Pl.GM.of hok hl c.st
  have z := mOwn w c a b e q ca cb ce cq ha hb he hq G.g.d4 G.g.a4 G.bx hl G.bm
  unfold cpA
  rw [show c.r.xs.length = 4 from G.g.d4, show c.r.ys.length = 4 from G.g.a4, show c.bx.length = 512 from G.bx]
  exact z
end Go.Proofs.Ytndhiaommphegaa

