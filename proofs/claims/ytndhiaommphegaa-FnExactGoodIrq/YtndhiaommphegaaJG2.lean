/- What the laws' own functions over Regs do (a struct of numbers, flags and two lists): its size, copy, comparison, marks. What the laws' own functions over Cpu and Fault do: size, comparison, marks. A processor that is answered, behind stores. Registers whose numbers are ints. What the program's test of a value of a size answers: one contract a function; none changes the world. What the program's tests of words, sizes and register numbers answer; none changes the world. What the program's small functions of chapter 6 answer: tests of numbers and registers; no old block is changed. What the program's GoodRegs answers, for all registers. The program's processor that is worked on, as it lies in memory: one block (fourteen cells of registers, the bytes, the log, two more), and the log's own. Fourteen cells of a block written anew. A processor with its line, as it lies in memory: as a value (fourteen cells), and as the program's listener (a core and two cells more). What the model's GoodCpu answers, for every processor. What the model's small functions of interrupts answer. A frame of which some slots alone are written: for a drawn region walked by what holds, the frame a variable. What the program's small functions of chapter 4 answer: addresses, parts, accesses; none writes. What the program's tests of bytes answer; none changes the world. What the program's GoodBus answers, for every bus. What the program's functions over a board answer: a bus opened onto it and shut again. What the program's GoodCpu answers, for every processor. -/
import Derived.Test.YtndhiaommphegaaJG1
import Derived.Deep.RegionHeld3
import Derived.Deep.DeepCutAuto
import Derived.Maps.AppendAt
import Derived.Laws.AppendOwnNone
import Derived.Deep.RegionLawGrows
import Derived.Laws.CopyOwn
import Derived.Laws.Rows
import Derived.Laws.Tables
import Derived.Deep.AppendLies
import Derived.RegionTactic
import Derived.Deep.MidRow
import Derived.Deep.WholeRow
namespace Go.Proofs.Ytndhiaommphegaa
open Go.RowKit
set_option linter.unusedVariables false

theorem szRegs (w : World) (o pc fl mk : Int) (su tr : Bool) (a b : Option Addr) (ca cb n m : Nat) (left : Int) (hn : n ≤ 9223372036854775807) (hm : m ≤ 9223372036854775807) (l0 : 0 ≤ left) (l1 : left ≤ 2000000) :
    Calls Try.prog 24 #[.agg #[.slice a n ca, .slice b m cb, iv o, iv pc, iv fl, iv mk, .bool su, .bool tr], iv left] w fun e w' => e = .returned (iv (szB n m left)) ∧ Kept 0 0 w w' := by
  by_cases h : left - (n : Int) < 0
  · have E : Hid (szB n m left = -1) := hide (by simp [szB, h])
    have e1 : (if left - (n : Int) < 0 then (-1 : Int) else left - (n : Int)) = -1 := by simp [h]
    go_enter Try.func24, Try.ntmps24
    go_wp2_with fail
    refine (szIntS _ a ca n left hn l0 l1).mono ?_
    rintro e w' ⟨rfl, rfl⟩
    rw [e1]
    go_wp2_with fail
    go_ret
    exact ⟨rI E.out.symm, kept_alloc _ _⟩
  · have e1 : (if left - (n : Int) < 0 then (-1 : Int) else left - (n : Int)) = left - (n : Int) := by simp [h]
    by_cases h2 : left - (n : Int) - (m : Int) < 0
    · have E : Hid (szB n m left = -1) := hide (by simp [szB, h, h2])
      have e2 : (if left - (n : Int) - (m : Int) < 0 then (-1 : Int) else left - (n : Int) - (m : Int)) = -1 := by simp [h2]
      go_enter Try.func24, Try.ntmps24
      go_wp2_with fail
      refine (szIntS _ a ca n left hn l0 l1).mono ?_
      rintro e w' ⟨rfl, rfl⟩
      rw [e1]
      go_wp2_with fail
      refine (szIntS _ b cb m (left - (n : Int)) hm (by omega) (by omega)).mono ?_
      rintro e w' ⟨rfl, rfl⟩
      rw [e2]
      go_wp2_with fail
      go_ret
      exact ⟨rI E.out.symm, kept_alloc _ _⟩
    · have E : Hid (szB n m left = left - (n : Int) - (m : Int)) := hide (by simp [szB, h, h2])
      have e2 : (if left - (n : Int) - (m : Int) < 0 then (-1 : Int) else left - (n : Int) - (m : Int)) = left - (n : Int) - (m : Int) := by simp [h2]
      go_enter Try.func24, Try.ntmps24
      go_wp2_with fail
      refine (szIntS _ a ca n left hn l0 l1).mono ?_
      rintro e w' ⟨rfl, rfl⟩
      rw [e1]
      go_wp2_with fail
      refine (szIntS _ b cb m (left - (n : Int)) hm (by omega) (by omega)).mono ?_
      rintro e w' ⟨rfl, rfl⟩
      rw [e2]
      go_wp2_with fail
      go_ret
      exact ⟨rI E.out.symm, kept_alloc _ _⟩

theorem eqRegs (w : World) (o pc fl mk : Int) (su tr : Bool) (a b c d : Option Addr) (ca cb cc cd : Nat) (xs ys : List Int) (ha : IRow w a xs) (hb : IRow w b ys) (hc : IRow w c xs) (hd : IRow w d ys) (lx : xs.length ≤ 2000000) (ly : ys.length ≤ 2000000) :
    Calls Try.prog 33 #[.agg #[.slice a xs.length ca, .slice b ys.length cb, iv o, iv pc, iv fl, iv mk, .bool su, .bool tr], .agg #[.slice c xs.length cc, .slice d ys.length cd, iv o, iv pc, iv fl, iv mk, .bool su, .bool tr]] w fun e w' => e = .returned (.bool true) ∧ Kept 0 0 w w' := by
  have HK0 := hide (kept_new (kept_alloc w (.cells #[.slice a xs.length ca, .slice b ys.length cb, iv o, iv pc, iv fl, iv mk, .bool su, .bool tr] 31)) (.cells #[.slice c xs.length cc, .slice d ys.length cd, iv o, iv pc, iv fl, iv mk, .bool su, .bool tr] 31))
  have HA := hide ha
  have HB := hide hb
  have HC := hide hc
  have HD := hide hd
  have B0 := hide ((Blk.new w #[.slice a xs.length ca, .slice b ys.length cb, iv o, iv pc, iv fl, iv mk, .bool su, .bool tr] 31).alloc (.cells #[.slice c xs.length cc, .slice d ys.length cd, iv o, iv pc, iv fl, iv mk, .bool su, .bool tr] 31))
  have B1 := Blk.new (w.alloc (.cells #[.slice a xs.length ca, .slice b ys.length cb, iv o, iv pc, iv fl, iv mk, .bool su, .bool tr] 31)) #[.slice c xs.length cc, .slice d ys.length cd, iv o, iv pc, iv fl, iv mk, .bool su, .bool tr] 31
  simp only [World.size_alloc] at B1
  replace B1 := hide B1
  clear ha hb hc hd
  go_enter Try.func33, Try.ntmps33
  go_wp2_with fail
  refine (eqIntS _ a c ca cc xs xs (HA.out.keptS HK0.out) (HC.out.keptS HK0.out) lx lx).mono ?_
  rintro e w1 ⟨rfl, g1⟩
  rw [show decide (xs = xs) = true from by simp]
  have k1 := kept_grown g1
  have C0 := hide (B0.out.kept0 k1)
  have C1 := hide (B1.out.kept0 k1)
  have c1 := C0.out.cell (i := 1) rfl
  have d1 := C1.out.cell (i := 1) rfl
  have HK1 := hide (HK0.out.trans k1)
  clear g1 k1
  go_wp2_with fail
  refine (eqIntS _ b d cb cd ys ys (HB.out.keptS HK1.out) (HD.out.keptS HK1.out) ly ly).mono ?_
  rintro e w2 ⟨rfl, g2⟩
  rw [show decide (ys = ys) = true from by simp]
  have k2 := kept_grown g2
  have q2 := (C0.out.kept0 k2).all
  have r2 := (C1.out.kept0 k2).all
  have HK2 := hide (HK1.out.trans k2)
  clear g2 k2
  go_wp2_with fail
  go_ret
  exact ⟨rfl, HK2.out⟩

set_option maxHeartbeats 8000000 in
theorem toRegs (w : World) (o pc fl mk : Int) (su tr : Bool) (a b : Option Addr) (ca cb : Nat) (xs ys : List Int) (ha : IRow w a xs) (hb : IRow w b ys) (lx : xs.length ≤ 2000000) (ly : ys.length ≤ 2000000) :
    Calls Try.prog 28 #[.agg #[.slice a xs.length ca, .slice b ys.length cb, iv o, iv pc, iv fl, iv mk, .bool su, .bool tr]] w fun e' w' => ∃ g1 g2 : Nat, e' = .returned (.agg #[.slice (some ⟨g1, 0, none⟩) xs.length xs.length, .slice (some ⟨g2, 0, none⟩) ys.length ys.length, iv o, iv pc, iv fl, iv mk, .bool su, .bool tr]) ∧ Own w' g1 xs ∧ Own w' g2 ys ∧ w.heap.size ≤ g1 ∧ g1 < g2 ∧ g2 < w'.heap.size ∧ Kept 0 0 w w' := by
  have HA := hide ha
  have HB := hide hb
  clear ha hb
  go_enter Try.func28, Try.ntmps28
  go_wp2_with fail
  have k0 : Kept 0 0 w (((w.alloc (.cells #[.slice a xs.length ca, .slice b ys.length cb, iv o, iv pc, iv fl, iv mk, .bool su, .bool tr] 24)).alloc (.cells #[.slice none 0 0, .slice none 0 0, iv 0, iv 0, iv 0, iv 0, .bool false, .bool false] 31)).alloc (.cells #[.slice none 0 0, .slice none 0 0, iv 0, iv 0, iv 0, iv 0, .bool false, .bool false] 31)) := kept_new (kept_new (kept_alloc _ _) _) _
  have B0 := ((Blk.new w #[.slice a xs.length ca, .slice b ys.length cb, iv o, iv pc, iv fl, iv mk, .bool su, .bool tr] 24).alloc (.cells #[.slice none 0 0, .slice none 0 0, iv 0, iv 0, iv 0, iv 0, .bool false, .bool false] 31)).alloc (.cells #[.slice none 0 0, .slice none 0 0, iv 0, iv 0, iv 0, iv 0, .bool false, .bool false] 31)
  have B1 := (Blk.new (w.alloc (.cells #[.slice a xs.length ca, .slice b ys.length cb, iv o, iv pc, iv fl, iv mk, .bool su, .bool tr] 24)) #[.slice none 0 0, .slice none 0 0, iv 0, iv 0, iv 0, iv 0, .bool false, .bool false] 31).alloc (.cells #[.slice none 0 0, .slice none 0 0, iv 0, iv 0, iv 0, iv 0, .bool false, .bool false] 31)
  have B2 := Blk.new ((w.alloc (.cells #[.slice a xs.length ca, .slice b ys.length cb, iv o, iv pc, iv fl, iv mk, .bool su, .bool tr] 24)).alloc (.cells #[.slice none 0 0, .slice none 0 0, iv 0, iv 0, iv 0, iv 0, .bool false, .bool false] 31)) #[.slice none 0 0, .slice none 0 0, iv 0, iv 0, iv 0, iv 0, .bool false, .bool false] 31
  simp only [World.size_alloc] at B1 B2
  obtain ⟨W, hW⟩ : ∃ W : World, W = (((w.alloc (.cells #[.slice a xs.length ca, .slice b ys.length cb, iv o, iv pc, iv fl, iv mk, .bool su, .bool tr] 24)).alloc (.cells #[.slice none 0 0, .slice none 0 0, iv 0, iv 0, iv 0, iv 0, .bool false, .bool false] 31)).alloc (.cells #[.slice none 0 0, .slice none 0 0, iv 0, iv 0, iv 0, iv 0, .bool false, .bool false] 31)) := ⟨_, rfl⟩
  rw [← hW] at k0 B0 B1 B2 ⊢
  clear hW
  have n0 := B2.lt
  refine (toIntS _ a ca xs (HA.out.keptS k0) lx).mono ?_
  rintro e' w1 ⟨rfl, o1, z1, g1⟩
  have k1 := kept_grown g1
  have C0 := B0.kept0 k1
  have C1 := hide (B1.kept0 k1)
  have C2 := B2.kept0 k1
  have d3 := C2.cell (i := 0) rfl
  have f3 := C2.frozen 0
  have D2 := hide (C2.set 0 (.slice (some ⟨W.heap.size, 0, none⟩) xs.length xs.length))
  have D1 := hide (C1.out.other (w.heap.size + 1 + 1) 0 (.slice (some ⟨W.heap.size, 0, none⟩) xs.length xs.length) (by omega))
  have D0 := hide (C0.other (w.heap.size + 1 + 1) 0 (.slice (some ⟨W.heap.size, 0, none⟩) xs.length xs.length) (by omega))
  have O1 := hide (o1.setOther (w.heap.size + 1 + 1) 0 (.slice (some ⟨W.heap.size, 0, none⟩) xs.length xs.length) (by omega))
  have K1 := hide (kept_set (k0.trans k1) (w.heap.size + 1 + 1) 0 (.slice (some ⟨W.heap.size, 0, none⟩) xs.length xs.length) (.inr (by omega)))
  have Z1 : Hid (W.heap.size < (w1.setCell ⟨w.heap.size + 1 + 1, 0, none⟩ (.slice (some ⟨W.heap.size, 0, none⟩) xs.length xs.length)).heap.size) := hide (by simpa using z1)
  obtain ⟨X, hX⟩ : ∃ X : World, X = w1.setCell ⟨w.heap.size + 1 + 1, 0, none⟩ (.slice (some ⟨W.heap.size, 0, none⟩) xs.length xs.length) := ⟨_, rfl⟩
  rw [← hX] at D2 D1 D0 O1 K1 Z1
  have x4 := D0.out.cell (i := 1) rfl
  rw [hX] at x4
  have cc1 := C0.all
  clear B0 B1 B2 C0 C1 C2 o1 z1 g1 k0 k1
  go_wp2_with fail
  rw [← hX]
  clear hX x4 d3 f3 cc1
  refine (toIntS _ b cb ys (HB.out.keptS K1.out) ly).mono ?_
  rintro e' w2 ⟨rfl, o2, z2, g2⟩
  have k2 := kept_grown g2
  have E0 := D0.out.kept0 k2
  have E1 := D1.out.kept0 k2
  have E2 := D2.out.kept0 k2
  have zz := Z1.out
  have O1 := hide (O1.out.keptS k2 (by omega))
  have O2 := hide o2
  have K2 := hide (K1.out.trans k2)
  have e2 := E0.all
  have a0 := E2.all
  have u1 := E2.fz
  have b0 := E1.all
  have v0 := E1.fz
  have E1 := hide E1
  clear E0 E2 o2 g2 k2
  go_wp2_with fail
  refine bodyPost_ret (v := .agg #[.slice (some ⟨W.heap.size, 0, none⟩) xs.length xs.length, .slice (some ⟨X.heap.size, 0, none⟩) ys.length ys.length, iv o, iv pc, iv fl, iv mk, .bool su, .bool tr]) ?_ rfl ⟨W.heap.size, X.heap.size, rfl, ?_, ?_, by omega, zz, ?_, ?_⟩
  · exact results_cell_row rfl _ _ _ _ _ (0, 0) _ rfl (((((((((((((((E1.out.other _ _ _ (by omega)).other _ _ _ (by omega)).other _ _ _ (by omega)).other _ _ _ (by omega)).other _ _ _ (by omega)).other _ _ _ (by omega)).other _ _ _ (by omega)).set _ _).set _ _).set _ _).set _ _).set _ _).set _ _).set _ _).set _ _) Try.underlying31 rfl (by kernel_rfl)
  · exact (((((((((((((((O1.out.setOther _ _ _ (by omega)).setOther _ _ _ (by omega)).setOther _ _ _ (by omega)).setOther _ _ _ (by omega)).setOther _ _ _ (by omega)).setOther _ _ _ (by omega)).setOther _ _ _ (by omega)).setOther _ _ _ (by omega)).setOther _ _ _ (by omega)).setOther _ _ _ (by omega)).setOther _ _ _ (by omega)).setOther _ _ _ (by omega)).setOther _ _ _ (by omega)).setOther _ _ _ (by omega)).setOther _ _ _ (by omega))
  · exact (((((((((((((((O2.out.setOther _ _ _ (by omega)).setOther _ _ _ (by omega)).setOther _ _ _ (by omega)).setOther _ _ _ (by omega)).setOther _ _ _ (by omega)).setOther _ _ _ (by omega)).setOther _ _ _ (by omega)).setOther _ _ _ (by omega)).setOther _ _ _ (by omega)).setOther _ _ _ (by omega)).setOther _ _ _ (by omega)).setOther _ _ _ (by omega)).setOther _ _ _ (by omega)).setOther _ _ _ (by omega)).setOther _ _ _ (by omega))
  · simpa using z2
  · exact (kept_set (kept_set (kept_set (kept_set (kept_set (kept_set (kept_set (kept_set (kept_set (kept_set (kept_set (kept_set (kept_set (kept_set (kept_set K2.out _ _ _ (.inr (by omega))) _ _ _ (.inr (by omega))) _ _ _ (.inr (by omega))) _ _ _ (.inr (by omega))) _ _ _ (.inr (by omega))) _ _ _ (.inr (by omega))) _ _ _ (.inr (by omega))) _ _ _ (.inr (by omega))) _ _ _ (.inr (by omega))) _ _ _ (.inr (by omega))) _ _ _ (.inr (by omega))) _ _ _ (.inr (by omega))) _ _ _ (.inr (by omega))) _ _ _ (.inr (by omega))) _ _ _ (.inr (by omega)))
end Go.Proofs.Ytndhiaommphegaa

namespace Go.Proofs.Ytndhiaommphegaa
open Go.RowKit
set_option linter.unusedVariables false
/-- a processor's four lists: each in a block of its own, of the span -/
structure CpSl (w : World) (lo hi : Nat) (c : Pl.Cp) (a b e q : Option Addr) : Prop where
  d : SlotIn w lo hi a c.r.xs
  a' : SlotIn w lo hi b c.r.ys
  b' : SlotIn w lo hi e c.bx
  l : SlotIn w lo hi q c.bl
  n1 : ∀ g, blk a = some g → blk b ≠ some g
  n2 : ∀ g, blk a = some g → blk e ≠ some g
  n3 : ∀ g, blk a = some g → blk q ≠ some g
  n4 : ∀ g, blk b = some g → blk e ≠ some g
  n5 : ∀ g, blk b = some g → blk q ≠ some g
  n6 : ∀ g, blk e = some g → blk q ≠ some g
theorem CpSl.kept {w w' : World} {l h lo hi : Nat} {c : Pl.Cp} {a b e q : Option Addr} (s : CpSl w l h c a b e q) (k : Kept lo hi w w') (hd : h ≤ lo ∨ hi ≤ l ∨ hi ≤ lo) : CpSl w' l h c a b e q :=
  ⟨s.d.kept k hd, s.a'.kept k hd, s.b'.kept k hd, s.l.kept k hd, s.n1, s.n2, s.n3, s.n4, s.n5, s.n6⟩
def szC (n m k j : Nat) (left : Int) : Int := if szB n m left < 0 then -1 else szB k j (szB n m left)
theorem szC_neg {n m k j : Nat} {left : Int} (h : ¬ szC n m k j left < 0) : (n : Int) + (m : Int) + (k : Int) + (j : Int) ≤ left := by
  unfold szC at h
  split at h
  · exact absurd (by decide) h
  · rename_i h1
    have a1 := szB_neg h1
    have a2 := szB_neg h
    unfold szB at a2
    split at a2
    · omega
    · split at a2 <;> omega
theorem szB_hi {n m : Nat} {left : Int} (h : ¬ szB n m left < 0) : 0 ≤ szB n m left ∧ szB n m left ≤ left := by
  unfold szB at h ⊢
  split
  · rename_i h1; rw [if_pos h1] at h; exact absurd (by decide) h
  · rename_i h1
    rw [if_neg h1] at h
    split
    · rename_i h2; rw [if_pos h2] at h; exact absurd (by decide) h
    · omega
theorem szB_minus {n m : Nat} {left : Int} (h : szB n m left < 0) : szB n m left = -1 := by
  unfold szB at h ⊢
  split
  · rfl
  · rename_i h1
    rw [if_neg h1] at h
    split
    · rfl
    · rename_i h2; rw [if_neg h2] at h; omega
theorem szCpu (w : World) (c : Pl.Cp) (a b e q : Option Addr) (ca cb ce cq : Nat) (left : Int) (lx : c.r.xs.length ≤ 9223372036854775807) (ly : c.r.ys.length ≤ 9223372036854775807) (lb : c.bx.length ≤ 9223372036854775807) (lm : c.bm ≤ 9223372036854775807) (l0 : 0 ≤ left) (l1 : left ≤ 2000000) :
    Calls Try.prog 7 #[.agg (cpA c a b e q ca cb ce cq), iv left] w fun r w' => r = .returned (iv (szC c.r.xs.length c.r.ys.length c.bx.length c.bm left)) ∧ Kept 0 0 w w' := by
  have K0 := hide (kept_alloc w (.cells (cpA c a b e q ca cb ce cq) 29))
  have B0 := hide (Blk.new w (cpA c a b e q ca cb ce cq) 29)
  by_cases h : szB c.r.xs.length c.r.ys.length left < 0
  · have E : Hid (szC c.r.xs.length c.r.ys.length c.bx.length c.bm left = -1) := hide (by simp [szC, h])
    have e1 := szB_minus h
    go_enter Try.func7, Try.ntmps7
    go_wp2_with fail
    refine (szRegs _ _ _ _ _ _ _ _ _ _ _ _ _ left lx ly l0 l1).mono ?_
    rintro e9 w1 ⟨rfl, k⟩
    rw [e1]
    have HK := hide (K0.out.trans k)
    clear k
    go_wp2_with fail
    go_ret
    exact ⟨rI E.out.symm, HK.out⟩
  · obtain ⟨s0, s1⟩ := szB_hi h
    have E : Hid (szC c.r.xs.length c.r.ys.length c.bx.length c.bm left = szB c.bx.length c.bm (szB c.r.xs.length c.r.ys.length left)) := hide (by simp [szC, h])
    revert h s0 s1 E
    generalize hS : szB c.r.xs.length c.r.ys.length left = S
    have HS := hide hS
    clear hS
    intro h s0 s1 E
    by_cases h2 : szB c.bx.length c.bm S < 0
    all_goals
      have E2 := hide (fun q => @szB_minus c.bx.length c.bm S q)
      go_enter Try.func7, Try.ntmps7
      go_wp2_with fail
      refine (szRegs _ _ _ _ _ _ _ _ _ _ _ _ _ left lx ly l0 l1).mono ?_
      rintro e9 w1 ⟨rfl, k⟩
      rw [HS.out]
      have HK := hide (K0.out.trans k)
      have B1 := hide (B0.out.kept0 k)
      clear k
      have i8 := B1.out.cell (i := 8) rfl
      have i9 := B1.out.cell (i := 9) rfl
      go_wp2_with fail
      refine (szBus _ _ _ _ _ _ _ S lb lm s0 (by omega)).mono ?_
      rintro e9 w2 ⟨rfl, k⟩
      have HK2 := hide (HK.out.trans k)
      clear k i8 i9
      go_wp2_with fail
      go_ret
      first
        | exact ⟨rI E.out.symm, HK2.out⟩
        | exact ⟨rI (by rw [E.out, E2.out h2]), HK2.out⟩
set_option maxHeartbeats 4000000 in
theorem eqCpu (w : World) (c : Pl.Cp) (a b e q a2 b2 e2 q2 : Option Addr) (ca cb ce cq ca2 cb2 ce2 cq2 : Nat) (ha : IRow w a c.r.xs) (hb : IRow w b c.r.ys) (he : IRow w e c.bx) (hq : IRow w q c.bl) (ha2 : IRow w a2 c.r.xs) (hb2 : IRow w b2 c.r.ys) (he2 : IRow w e2 c.bx) (hq2 : IRow w q2 c.bl) (lx : c.r.xs.length ≤ 2000000) (ly : c.r.ys.length ≤ 2000000) (lb : c.bx.length ≤ 2000000) (ll : c.bl.length = 5 * c.bm) (lm : c.bm ≤ 2000000) :
    Calls Try.prog 12 #[.agg (cpA c a b e q ca cb ce cq), .agg (cpA c a2 b2 e2 q2 ca2 cb2 ce2 cq2)] w fun r w' => r = .returned (.bool true) ∧ Kept 0 0 w w' := by
  have K0 := hide (kept_new (kept_alloc w (.cells (cpA c a b e q ca cb ce cq) 36)) (.cells (cpA c a2 b2 e2 q2 ca2 cb2 ce2 cq2) 36))
  have B0 := (Blk.new w (cpA c a b e q ca cb ce cq) 36).alloc (.cells (cpA c a2 b2 e2 q2 ca2 cb2 ce2 cq2) 36)
  have B1 := Blk.new (w.alloc (.cells (cpA c a b e q ca cb ce cq) 36)) (cpA c a2 b2 e2 q2 ca2 cb2 ce2 cq2) 36
  simp only [World.size_alloc] at B1
  obtain ⟨X, hX⟩ : ∃ X : World, (w.alloc (.cells (cpA c a b e q ca cb ce cq) 36)).alloc (.cells (cpA c a2 b2 e2 q2 ca2 cb2 ce2 cq2) 36) = X := ⟨_, rfl⟩
  rw [hX] at K0 B0 B1
  have HB0 := hide B0
  have HB1 := hide B1
  have i0 := B0.all
  have j0 := B1.all
  have HL := hide ll
  have HE := hide (he.keptS K0.out)
  have HQ := hide (hq.keptS K0.out)
  have HE2 := hide (he2.keptS K0.out)
  have HQ2 := hide (hq2.keptS K0.out)
  have HA := hide (ha.keptS K0.out)
  have HB := hide (hb.keptS K0.out)
  have HA2 := hide (ha2.keptS K0.out)
  have HBB2 := hide (hb2.keptS K0.out)
  clear B0 B1 ll ha hb he hq ha2 hb2 he2 hq2
  go_enter Try.func12, Try.ntmps12
  go_wp2_with fail
  refine (eqRegs _ c.r.o c.r.p c.r.f c.r.m c.r.s c.r.t a b a2 b2 ca cb ca2 cb2 c.r.xs c.r.ys HA.out HB.out HA2.out HBB2.out lx ly).mono ?_
  rintro e9 w1 ⟨rfl, k⟩
  have K1 := hide (K0.out.trans k)
  have C0 := hide (HB0.out.kept0 k)
  have C1 := hide (HB1.out.kept0 k)
  have HE' := hide (HE.out.keptS k)
  have HQ' := hide (HQ.out.keptS k)
  have HE2' := hide (HE2.out.keptS k)
  have HQ2' := hide (HQ2.out.keptS k)
  clear k i0 j0
  have i8 := C0.out.all
  have j8 := C1.out.all
  go_wp2_with fail
  refine (eqBus _ e q e2 q2 ce cq ce2 cq2 c.bm c.bm c.bx c.bl c.bx c.bl HE'.out HQ'.out HE2'.out HQ2'.out lb lb HL.out HL.out lm lm).mono ?_
  rintro e9 w2 ⟨rfl, k⟩
  rw [show (decide (c.bx = c.bx) && decide (c.bl = c.bl)) = true from by simp]
  have K2 := hide (K1.out.trans k)
  have D0 := hide (C0.out.kept0 k)
  have D1 := hide (C1.out.kept0 k)
  clear k
  have i10 := D0.out.cell (i := 10) rfl
  have i11 := D0.out.cell (i := 11) rfl
  have j10 := D1.out.cell (i := 10) rfl
  have j11 := D1.out.cell (i := 11) rfl
  go_wp2_with fail
  go_ret
  exact ⟨rfl, K2.out⟩
end Go.Proofs.Ytndhiaommphegaa

namespace Go.Proofs.Ytndhiaommphegaa
open Go.RowKit
set_option linter.unusedVariables false
theorem kept12i {w : World} {p : Nat} {v0 v1 v2 v3 v4 v5 v6 v7 v8 v9 v10 v11 : Value} : Kept p (p + 1) w ((((((((((((w.setCell ⟨p, 0, none⟩ (v0)).setCell ⟨p, 1, none⟩ (v1)).setCell ⟨p, 2, none⟩ (v2)).setCell ⟨p, 3, none⟩ (v3)).setCell ⟨p, 4, none⟩ (v4)).setCell ⟨p, 5, none⟩ (v5)).setCell ⟨p, 6, none⟩ (v6)).setCell ⟨p, 7, none⟩ (v7)).setCell ⟨p, 8, none⟩ (v8)).setCell ⟨p, 9, none⟩ (v9)).setCell ⟨p, 10, none⟩ (v10)).setCell ⟨p, 11, none⟩ (v11)) := ((((((((((((kept_one w p 0 (v0)).one 1 (v1)).one 2 (v2)).one 3 (v3)).one 4 (v4)).one 5 (v5)).one 6 (v6)).one 7 (v7)).one 8 (v8)).one 9 (v9)).one 10 (v10)).one 11 (v11))
end Go.Proofs.Ytndhiaommphegaa

namespace Go.Proofs.Ytndhiaommphegaa
open Go.RowKit
/-- the numbers of registers that came in are ints -/
structure Pl.WfR (d : Pl.Rg) : Prop where
  o : (Lit.int .i64 d.o).wf = true
  p : (Lit.int .i64 d.p).wf = true
  f : (Lit.int .i64 d.f).wf = true
  m : (Lit.int .i64 d.m).wf = true
end Go.Proofs.Ytndhiaommphegaa

namespace Go.Proofs.Ytndhiaommphegaa
open Go.RowKit
set_option linter.unusedVariables false

theorem signedAs8 (v : Int) (w : World) (lo : -9223372036854775808 ≤ v) (hi : v ≤ 9223372036854775807) :
    Calls Try.prog 91 #[iv v] w fun e w' => e = .returned (.tuple #[iv (Pl.sgnV 1 v), .bool (Pl.okv 1 v)]) ∧ w' = w := by
  by_cases h : 0 ≤ v ∧ v < 256
  · obtain ⟨h0, h1⟩ := h
    have hs : IntKind.u8.signed = false := rfl
    have hm : IntKind.u8.max = 255 := by decide
    have hb : bits .xor .u8 255 0 = 255 := by decide
    by_cases h : 127 < v
    all_goals
      go_enter Try.func91, Try.ntmps91
      go_wp2
      go_ret2
      exact ⟨rIB (by simp [Pl.sgnV, Pl.okv, Pl.sg, Pl.top, h0, h1]; omega) (by simp [Pl.okv, Pl.top, h0, h1]), rfl⟩
  · go_enter Try.func91, Try.ntmps91
    go_wp2
    go_ret2
    have k : Pl.okv 1 v = false := by
      cases c : Pl.okv 1 v
      · rfl
      · have := Pl.top_ok c; omega
    exact ⟨rIB (by simp [Pl.sgnV, k]) k.symm, rfl⟩

theorem signedAs16 (v : Int) (w : World) (lo : -9223372036854775808 ≤ v) (hi : v ≤ 9223372036854775807) :
    Calls Try.prog 92 #[iv v] w fun e w' => e = .returned (.tuple #[iv (Pl.sgnV 2 v), .bool (Pl.okv 2 v)]) ∧ w' = w := by
  by_cases h : 0 ≤ v ∧ v < 65536
  · obtain ⟨h0, h1⟩ := h
    have hs : IntKind.u16.signed = false := rfl
    have hm : IntKind.u16.max = 65535 := by decide
    have hb : bits .xor .u16 65535 0 = 65535 := by decide
    by_cases h : 32767 < v
    all_goals
      go_enter Try.func92, Try.ntmps92
      go_wp2
      go_ret2
      exact ⟨rIB (by simp [Pl.sgnV, Pl.okv, Pl.sg, Pl.top, h0, h1]; omega) (by simp [Pl.okv, Pl.top, h0, h1]), rfl⟩
  · have hw : IntKind.u16.wrap v = v % 65536 := IntKind.wrap_u16 v
    go_enter Try.func92, Try.ntmps92
    go_wp2
    go_ret2
    have k : Pl.okv 2 v = false := by
      cases c : Pl.okv 2 v
      · rfl
      · have := Pl.top_ok c; omega
    exact ⟨rIB (by simp [Pl.sgnV, k]) k.symm, rfl⟩

theorem signedOf (s v : Int) (w : World) (lo : -9223372036854775808 ≤ v) (hi : v ≤ 9223372036854775807) :
    Calls Try.prog 83 #[iv s, iv v] w fun e w' => e = .returned (.tuple #[iv (Pl.sgnV s v), .bool (Pl.okv s v)]) ∧ w' = w := by
  by_cases h1 : s = 1
  · subst h1
    go_enter Try.func83, Try.ntmps83
    go_wp2_with fail
    refine (signedAs8 v _ lo hi).mono ?_
    rintro e w' ⟨rfl, rfl⟩
    go_wp2_with fail
    go_ret2
    exact ⟨rfl, rfl⟩
  · by_cases h2 : s = 2
    · subst h2
      go_enter Try.func83, Try.ntmps83
      go_wp2_with fail
      refine (signedAs16 v _ lo hi).mono ?_
      rintro e w' ⟨rfl, rfl⟩
      go_wp2_with fail
      go_ret2
      exact ⟨rfl, rfl⟩
    · have k : Pl.okv s v = false := by simp [Pl.okv, h1, h2]
      have k1 : (s == 1) = false := by simpa using h1
      have k2 : (s == 2) = false := by simpa using h2
      go_enter Try.func83, Try.ntmps83
      go_wp2_with fail
      go_ret2
      exact ⟨rIB (by simp [Pl.sgnV, k]) k.symm, rfl⟩

end Go.Proofs.Ytndhiaommphegaa

namespace Go.Proofs.Ytndhiaommphegaa
open Go.RowKit
set_option linter.unusedVariables false
theorem wfB {v : Int} (h : (Lit.int .i64 v).wf = true) : -9223372036854775808 ≤ v ∧ v ≤ 9223372036854775807 := bounds_i64 h
theorem okv2 (v : Int) : Pl.okv 2 v = Pl.wordOk v := by
  unfold Pl.okv Pl.wordOk Pl.within Pl.top
  rw [Bool.eq_iff_iff]; simp; omega
theorem isWord (v : Int) (w : World) (lo : -9223372036854775808 ≤ v) (hi : v ≤ 9223372036854775807) :
    Calls Try.prog 70 #[iv v] w fun e w' => e = .returned (.bool (Pl.wordOk v)) ∧ w' = w := by
  go_enter Try.func70, Try.ntmps70
  go_wp2_with (go_at_call 83; refine (signedOf _ _ _ lo hi).mono ?_; rintro e w' ⟨rfl, hw⟩; have hw2 := hw.symm; clear hw; subst hw2; rw [okv2])
  go_ret
  exact ⟨rfl, rfl⟩
end Go.Proofs.Ytndhiaommphegaa

namespace Go.Proofs.Ytndhiaommphegaa
open Go.RowKit
set_option linter.unusedVariables false

theorem isFlags6 (k : Int) (w : World) : Calls Try.prog 71 #[iv k] w fun e w' => e = .returned (.bool (Pl.within k 0 31)) ∧ w' = w := by
  by_cases h0 : 0 ≤ k
  · by_cases h1 : k ≤ 31
    · go_enter Try.func71, Try.ntmps71
      go_wp2
      go_ret
      exact ⟨rB (by simp [Pl.within, h0, h1]), rfl⟩
    · go_enter Try.func71, Try.ntmps71
      go_wp2
      go_ret
      exact ⟨rB (by simp [Pl.within, h0]; omega), rfl⟩
  · go_enter Try.func71, Try.ntmps71
    go_wp2
    go_ret
    exact ⟨rB (by simp [Pl.within]; omega), rfl⟩
theorem areWords (w : World) (a : Option Addr) (ca : Nat) (xs : List Int) (ha : Came w a xs) (lx : xs.length ≤ 2000000) :
    Calls Try.prog 69 #[.slice a xs.length ca] w fun e w' => e = .returned (.bool (xs.all Pl.wordOk)) ∧ w' = w := by
  have HA := hide ha
  clear ha
  go_enter Try.func69, Try.ntmps69
  go_wp2
  go_loop [4, 7] (fun _ j => ∃ k : Nat, k ≤ xs.length ∧ j = iv k ∧ ∀ i, i < k → Pl.wordOk (el xs i) = true) (fun _ j => xs.length - (intOf j).toNat)
  case atStart => exact ⟨0, Nat.zero_le _, rfl, fun i hi => absurd hi (Nat.not_lt_zero i)⟩
  case round =>
    obtain ⟨k, hk, rfl, heq⟩ := hrel
    have HE := hide heq
    clear heq
    by_cases hlt : k < xs.length
    · obtain ⟨g1, o1, rfl, hc1⟩ := HA.out.1 k hlt
      obtain ⟨lo, hi⟩ := HA.out.2 k hlt
      rw [show xs[k]?.getD 0 = el xs k from rfl] at hc1 lo hi
      cases hb : Pl.wordOk (el xs k)
      · go_wp2_with (go_at_call 70; refine (isWord _ _ lo hi).mono ?_; rintro e w' ⟨rfl, rfl⟩; rw [hb])
        go_ret
        refine ⟨rB ?_, rfl⟩
        have hm : xs[k]'hlt ∈ xs := List.getElem_mem hlt
        have he : el xs k = xs[k]'hlt := by simp [el, List.getElem?_eq_getElem hlt]
        rw [he] at hb
        cases hq : xs.all Pl.wordOk
        · rfl
        · have := List.all_eq_true.1 hq _ hm
          rw [hb] at this; cases this
      · go_wp2_with (go_at_call 70; refine (isWord _ _ lo hi).mono ?_; rintro e w' ⟨rfl, rfl⟩; rw [hb])
        go_round
        case rel => exact ⟨k + 1, by omega, by go_num, snoc_all HE.out hb⟩
        case measure => simp [intOf]; omega
    · go_wp2
      go_ret
      refine ⟨rB ?_, rfl⟩
      symm
      rw [List.all_eq_true]
      intro x hx
      obtain ⟨i, hi, rfl⟩ := List.getElem_of_mem hx
      have := HE.out i (by omega)
      simpa [el, List.getElem?_eq_getElem hi] using this
end Go.Proofs.Ytndhiaommphegaa

namespace Go.Proofs.Ytndhiaommphegaa
open Go.RowKit
set_option linter.unusedVariables false
set_option maxHeartbeats 4000000 in
theorem implGoodRegs (w : World) (d : Pl.Rg) (a b : Option Addr) (ca cb : Nat) (ha : Came w a d.xs) (hb : Came w b d.ys) (lx : d.xs.length ≤ 2000000) (ly : d.ys.length ≤ 2000000) (wfd : Pl.WfR d) :
    Calls Try.prog 53 #[.agg #[.slice a d.xs.length ca, .slice b d.ys.length cb, iv d.o, iv d.p, iv d.f, iv d.m, .bool d.s, .bool d.t]] w fun e w' => e = .returned (.bool (Pl.rgOk d)) ∧ Kept 0 0 w w' := by
  have HA := hide ha
  have HB := hide hb
  have HK := hide (kept_alloc w (.cells #[.slice a d.xs.length ca, .slice b d.ys.length cb, iv d.o, iv d.p, iv d.f, iv d.m, .bool d.s, .bool d.t] 31))
  clear ha hb
  have G : Hid (Pl.rgOk d = ((d.xs.all Pl.wordOk && decide ((d.xs.length : Int) = 4)) && ((d.ys.all Pl.wordOk && decide ((d.ys.length : Int) = 4)) && (Pl.wordOk d.o && (Pl.wordOk d.p && (Pl.within d.f 0 31 && (decide (0 ≤ d.m) && decide (d.m ≤ 7)))))))) := hide rfl
  cases l1 : ((d.xs.length : Int) == 4)
  · have q1 : decide ((d.xs.length : Int) = 4) = false := by simpa using l1
    go_enter Try.func53, Try.ntmps53
    go_wp2
    go_ret
    exact ⟨rB (by rw [G.out, q1]; simp), HK.out⟩
  · have q1 : decide ((d.xs.length : Int) = 4) = true := by simpa using l1
    cases h2 : d.xs.all Pl.wordOk
    · have qh2 : True := trivial
      go_enter Try.func53, Try.ntmps53
      go_wp2_with (first | (go_at_call 69; refine (areWords _ a ca d.xs (HA.out.keptS HK.out) lx).mono ?_; rintro e w' ⟨rfl, hw⟩; have hw2 := hw.symm; clear hw; subst hw2; rw [h2]; have Z1 : True := trivial))
      go_ret
      exact ⟨rB (by rw [G.out, q1, h2]; simp), HK.out⟩
    · have qh2 : True := trivial
      cases l3 : ((d.ys.length : Int) == 4)
      · have q3 : decide ((d.ys.length : Int) = 4) = false := by simpa using l3
        go_enter Try.func53, Try.ntmps53
        go_wp2_with (first | (go_at_call 69; refine (areWords _ a ca d.xs (HA.out.keptS HK.out) lx).mono ?_; rintro e w' ⟨rfl, hw⟩; have hw2 := hw.symm; clear hw; subst hw2; rw [h2]; have Z1 : True := trivial))
        go_ret
        exact ⟨rB (by rw [G.out, q1, h2, q3]; simp), HK.out⟩
      · have q3 : decide ((d.ys.length : Int) = 4) = true := by simpa using l3
        cases h4 : d.ys.all Pl.wordOk
        · have qh4 : True := trivial
          go_enter Try.func53, Try.ntmps53
          go_wp2_with (first | (go_at_call 69; have z := Z1; refine (areWords _ b cb d.ys (HB.out.keptS HK.out) ly).mono ?_; rintro e w' ⟨rfl, hw⟩; have hw2 := hw.symm; clear hw; subst hw2; rw [h4]) | (go_at_call 69; refine (areWords _ a ca d.xs (HA.out.keptS HK.out) lx).mono ?_; rintro e w' ⟨rfl, hw⟩; have hw2 := hw.symm; clear hw; subst hw2; rw [h2]; have Z1 : True := trivial))
          go_ret
          exact ⟨rB (by rw [G.out, q1, h2, q3, h4]; simp), HK.out⟩
        · have qh4 : True := trivial
          cases h5 : Pl.wordOk d.o
          · have qh5 : True := trivial
            go_enter Try.func53, Try.ntmps53
            go_wp2_with (first | (go_at_call 69; have z := Z1; refine (areWords _ b cb d.ys (HB.out.keptS HK.out) ly).mono ?_; rintro e w' ⟨rfl, hw⟩; have hw2 := hw.symm; clear hw; subst hw2; rw [h4]) | (go_at_call 69; refine (areWords _ a ca d.xs (HA.out.keptS HK.out) lx).mono ?_; rintro e w' ⟨rfl, hw⟩; have hw2 := hw.symm; clear hw; subst hw2; rw [h2]; have Z1 : True := trivial) | (go_at_call 70; refine (isWord d.o _ (wfB wfd.o).1 (wfB wfd.o).2).mono ?_; rintro e w' ⟨rfl, hw⟩; have hw2 := hw.symm; clear hw; subst hw2; rw [h5]; have Z3 : True := trivial))
            go_ret
            exact ⟨rB (by rw [G.out, q1, h2, q3, h4, h5]; simp), HK.out⟩
          · have qh5 : True := trivial
            cases h6 : Pl.wordOk d.p
            · have qh6 : True := trivial
              go_enter Try.func53, Try.ntmps53
              go_wp2_with (first | (go_at_call 69; have z := Z1; refine (areWords _ b cb d.ys (HB.out.keptS HK.out) ly).mono ?_; rintro e w' ⟨rfl, hw⟩; have hw2 := hw.symm; clear hw; subst hw2; rw [h4]) | (go_at_call 69; refine (areWords _ a ca d.xs (HA.out.keptS HK.out) lx).mono ?_; rintro e w' ⟨rfl, hw⟩; have hw2 := hw.symm; clear hw; subst hw2; rw [h2]; have Z1 : True := trivial) | (go_at_call 70; have z := Z3; refine (isWord d.p _ (wfB wfd.p).1 (wfB wfd.p).2).mono ?_; rintro e w' ⟨rfl, hw⟩; have hw2 := hw.symm; clear hw; subst hw2; rw [h6]) | (go_at_call 70; refine (isWord d.o _ (wfB wfd.o).1 (wfB wfd.o).2).mono ?_; rintro e w' ⟨rfl, hw⟩; have hw2 := hw.symm; clear hw; subst hw2; rw [h5]; have Z3 : True := trivial))
              go_ret
              exact ⟨rB (by rw [G.out, q1, h2, q3, h4, h5, h6]; simp), HK.out⟩
            · have qh6 : True := trivial
              cases h7 : Pl.within d.f 0 31
              · have qh7 : True := trivial
                go_enter Try.func53, Try.ntmps53
                go_wp2_with (first | (go_at_call 69; have z := Z1; refine (areWords _ b cb d.ys (HB.out.keptS HK.out) ly).mono ?_; rintro e w' ⟨rfl, hw⟩; have hw2 := hw.symm; clear hw; subst hw2; rw [h4]) | (go_at_call 69; refine (areWords _ a ca d.xs (HA.out.keptS HK.out) lx).mono ?_; rintro e w' ⟨rfl, hw⟩; have hw2 := hw.symm; clear hw; subst hw2; rw [h2]; have Z1 : True := trivial) | (go_at_call 70; have z := Z3; refine (isWord d.p _ (wfB wfd.p).1 (wfB wfd.p).2).mono ?_; rintro e w' ⟨rfl, hw⟩; have hw2 := hw.symm; clear hw; subst hw2; rw [h6]) | (go_at_call 70; refine (isWord d.o _ (wfB wfd.o).1 (wfB wfd.o).2).mono ?_; rintro e w' ⟨rfl, hw⟩; have hw2 := hw.symm; clear hw; subst hw2; rw [h5]; have Z3 : True := trivial) | (go_at_call 71; refine (isFlags6 d.f _).mono ?_; rintro e w' ⟨rfl, hw⟩; have hw2 := hw.symm; clear hw; subst hw2; rw [h7]))
                go_ret
                exact ⟨rB (by rw [G.out, q1, h2, q3, h4, h5, h6, h7]; simp), HK.out⟩
              · have qh7 : True := trivial
                cases h8 : decide (0 ≤ d.m)
                · have qh8 : True := trivial
                  go_enter Try.func53, Try.ntmps53
                  go_wp2_with (first | (go_at_call 69; have z := Z1; refine (areWords _ b cb d.ys (HB.out.keptS HK.out) ly).mono ?_; rintro e w' ⟨rfl, hw⟩; have hw2 := hw.symm; clear hw; subst hw2; rw [h4]) | (go_at_call 69; refine (areWords _ a ca d.xs (HA.out.keptS HK.out) lx).mono ?_; rintro e w' ⟨rfl, hw⟩; have hw2 := hw.symm; clear hw; subst hw2; rw [h2]; have Z1 : True := trivial) | (go_at_call 70; have z := Z3; refine (isWord d.p _ (wfB wfd.p).1 (wfB wfd.p).2).mono ?_; rintro e w' ⟨rfl, hw⟩; have hw2 := hw.symm; clear hw; subst hw2; rw [h6]) | (go_at_call 70; refine (isWord d.o _ (wfB wfd.o).1 (wfB wfd.o).2).mono ?_; rintro e w' ⟨rfl, hw⟩; have hw2 := hw.symm; clear hw; subst hw2; rw [h5]; have Z3 : True := trivial) | (go_at_call 71; refine (isFlags6 d.f _).mono ?_; rintro e w' ⟨rfl, hw⟩; have hw2 := hw.symm; clear hw; subst hw2; rw [h7]))
                  go_ret
                  exact ⟨rB (by rw [G.out, q1, h2, q3, h4, h5, h6, h7, h8]; simp), HK.out⟩
                · have qh8 : True := trivial
                  cases h9 : decide (d.m ≤ 7)
                  · have qh9 : True := trivial
                    go_enter Try.func53, Try.ntmps53
                    go_wp2_with (first | (go_at_call 69; have z := Z1; refine (areWords _ b cb d.ys (HB.out.keptS HK.out) ly).mono ?_; rintro e w' ⟨rfl, hw⟩; have hw2 := hw.symm; clear hw; subst hw2; rw [h4]) | (go_at_call 69; refine (areWords _ a ca d.xs (HA.out.keptS HK.out) lx).mono ?_; rintro e w' ⟨rfl, hw⟩; have hw2 := hw.symm; clear hw; subst hw2; rw [h2]; have Z1 : True := trivial) | (go_at_call 70; have z := Z3; refine (isWord d.p _ (wfB wfd.p).1 (wfB wfd.p).2).mono ?_; rintro e w' ⟨rfl, hw⟩; have hw2 := hw.symm; clear hw; subst hw2; rw [h6]) | (go_at_call 70; refine (isWord d.o _ (wfB wfd.o).1 (wfB wfd.o).2).mono ?_; rintro e w' ⟨rfl, hw⟩; have hw2 := hw.symm; clear hw; subst hw2; rw [h5]; have Z3 : True := trivial) | (go_at_call 71; refine (isFlags6 d.f _).mono ?_; rintro e w' ⟨rfl, hw⟩; have hw2 := hw.symm; clear hw; subst hw2; rw [h7]))
                    go_ret
                    exact ⟨rB (by rw [G.out, q1, h2, q3, h4, h5, h6, h7, h8, h9]; simp), HK.out⟩
                  · have qh9 : True := trivial
                    go_enter Try.func53, Try.ntmps53
                    go_wp2_with (first | (go_at_call 69; have z := Z1; refine (areWords _ b cb d.ys (HB.out.keptS HK.out) ly).mono ?_; rintro e w' ⟨rfl, hw⟩; have hw2 := hw.symm; clear hw; subst hw2; rw [h4]) | (go_at_call 69; refine (areWords _ a ca d.xs (HA.out.keptS HK.out) lx).mono ?_; rintro e w' ⟨rfl, hw⟩; have hw2 := hw.symm; clear hw; subst hw2; rw [h2]; have Z1 : True := trivial) | (go_at_call 70; have z := Z3; refine (isWord d.p _ (wfB wfd.p).1 (wfB wfd.p).2).mono ?_; rintro e w' ⟨rfl, hw⟩; have hw2 := hw.symm; clear hw; subst hw2; rw [h6]) | (go_at_call 70; refine (isWord d.o _ (wfB wfd.o).1 (wfB wfd.o).2).mono ?_; rintro e w' ⟨rfl, hw⟩; have hw2 := hw.symm; clear hw; subst hw2; rw [h5]; have Z3 : True := trivial) | (go_at_call 71; refine (isFlags6 d.f _).mono ?_; rintro e w' ⟨rfl, hw⟩; have hw2 := hw.symm; clear hw; subst hw2; rw [h7]))
                    go_ret
                    exact ⟨rB (by rw [G.out, q1, h2, q3, h4, h5, h6, h7, h8, h9]; simp), HK.out⟩
end Go.Proofs.Ytndhiaommphegaa

namespace Go.Proofs.Ytndhiaommphegaa
open Go.RowKit
set_option linter.unusedVariables false
/-- what lies in the block behind a core, and the block's type -/
structure Tl where
  c : Array Value
  y : TypeId
structure Hl where
  a : Bool
  t : Tl
section
variable {r : Pl.Rg} {xs : List Int} {u : Value} {st : Bool} {ha : Hl}
end
section
variable {w w' : World} {lo b g cu : Nat} {c : Pl.Mc} {h : Hl} {bl : List Int} {bm : Nat}
end
end Go.Proofs.Ytndhiaommphegaa

namespace Go.Proofs.Ytndhiaommphegaa
open Go.RowKit
set_option linter.unusedVariables false
theorem kept14 (w : World) (b : Nat) (v0 v1 v2 v3 v4 v5 v6 v7 v8 v9 v10 v11 v12 v13 : Value) : Kept b (b + 1) w ((((((((((((((w.setCell ⟨b, 0, none⟩ (v0)).setCell ⟨b, 1, none⟩ (v1)).setCell ⟨b, 2, none⟩ (v2)).setCell ⟨b, 3, none⟩ (v3)).setCell ⟨b, 4, none⟩ (v4)).setCell ⟨b, 5, none⟩ (v5)).setCell ⟨b, 6, none⟩ (v6)).setCell ⟨b, 7, none⟩ (v7)).setCell ⟨b, 8, none⟩ (v8)).setCell ⟨b, 9, none⟩ (v9)).setCell ⟨b, 10, none⟩ (v10)).setCell ⟨b, 11, none⟩ (v11)).setCell ⟨b, 12, none⟩ (v12)).setCell ⟨b, 13, none⟩ (v13)) := ((((((((((((((kept_one w b 0 (v0)).one 1 (v1)).one 2 (v2)).one 3 (v3)).one 4 (v4)).one 5 (v5)).one 6 (v6)).one 7 (v7)).one 8 (v8)).one 9 (v9)).one 10 (v10)).one 11 (v11)).one 12 (v12)).one 13 (v13))
end Go.Proofs.Ytndhiaommphegaa

namespace Go.Proofs.Ytndhiaommphegaa
open Go.RowKit
set_option linter.unusedVariables false
abbrev irA (x : Pl.Iq) (a b e q : Option Addr) (ca cb ce cq : Nat) : Array Value := #[.slice a x.c.r.xs.length ca, .slice b x.c.r.ys.length cb, iv x.c.r.o, iv x.c.r.p, iv x.c.r.f, iv x.c.r.m, .bool x.c.r.s, .bool x.c.r.t, .slice e x.c.bx.length ce, .slice q x.c.bm cq, .bool x.c.st, .bool x.c.ha, iv x.l, .bool x.e]
abbrev iqZ : Array Value := #[.slice none 0 0, .slice none 0 0, iv 0, iv 0, iv 0, iv 0, .bool false, .bool false, .slice none 0 0, .slice none 0 0, .bool false, .bool false, iv 0, .bool false]
theorem kept14i {w : World} {p : Nat} {v0 v1 v2 v3 v4 v5 v6 v7 v8 v9 v10 v11 v12 v13 : Value} : Kept p (p + 1) w ((((((((((((((w.setCell ⟨p, 0, none⟩ v0).setCell ⟨p, 1, none⟩ v1).setCell ⟨p, 2, none⟩ v2).setCell ⟨p, 3, none⟩ v3).setCell ⟨p, 4, none⟩ v4).setCell ⟨p, 5, none⟩ v5).setCell ⟨p, 6, none⟩ v6).setCell ⟨p, 7, none⟩ v7).setCell ⟨p, 8, none⟩ v8).setCell ⟨p, 9, none⟩ v9).setCell ⟨p, 10, none⟩ v10).setCell ⟨p, 11, none⟩ v11).setCell ⟨p, 12, none⟩ v12).setCell ⟨p, 13, none⟩ v13) := kept14 w p v0 v1 v2 v3 v4 v5 v6 v7 v8 v9 v10 v11 v12 v13
theorem CpSl.mv {w w' : World} {l l' x y : Nat} {c : Pl.Cp} {a b e q : Option Addr} (h : CpSl w l w.heap.size c a b e q) (k : Kept x y w w') (hy : y ≤ l) (hb : l' ≤ l) : CpSl w' l' w'.heap.size c a b e q :=
  ⟨(SlotIn.kept h.d k (.inr (.inl hy))).wide hb k.size, (SlotIn.kept h.a' k (.inr (.inl hy))).wide hb k.size, (SlotIn.kept h.b' k (.inr (.inl hy))).wide hb k.size, (SlotIn.kept h.l k (.inr (.inl hy))).wide hb k.size, h.n1, h.n2, h.n3, h.n4, h.n5, h.n6⟩
end Go.Proofs.Ytndhiaommphegaa

namespace Go.Proofs.Ytndhiaommphegaa
open Go.RowKit
set_option linter.unusedVariables false
theorem specGoodCpu (w : World) (c : Pl.Cp) (a b e q : Option Addr) (ca cb ce cq : Nat) (ha : IRow w a c.r.xs) (hb : IRow w b c.r.ys) (he : IRow w e c.bx) (hq : IRow w q c.bl) (lx : c.r.xs.length ≤ 2000000) (ly : c.r.ys.length ≤ 2000000) (lb : c.bx.length ≤ 2000000) (ll : c.bl.length = 5 * c.bm) (lm : c.bm ≤ 2000000) :
    Calls Try.prog 26 #[.agg #[.slice a c.r.xs.length ca, .slice b c.r.ys.length cb, iv c.r.o, iv c.r.p, iv c.r.f, iv c.r.m, .bool c.r.s, .bool c.r.t, .slice e c.bx.length ce, .slice q c.bm cq, .bool c.st, .bool c.ha]] w fun r w' => r = .returned (.bool (Pl.cpOk c)) ∧ Kept 0 0 w w' := by
  have K0 := hide (kept_alloc w (.cells #[.slice a c.r.xs.length ca, .slice b c.r.ys.length cb, iv c.r.o, iv c.r.p, iv c.r.f, iv c.r.m, .bool c.r.s, .bool c.r.t, .slice e c.bx.length ce, .slice q c.bm cq, .bool c.st, .bool c.ha] 36))
  have BA := Blk.new w #[.slice a c.r.xs.length ca, .slice b c.r.ys.length cb, iv c.r.o, iv c.r.p, iv c.r.f, iv c.r.m, .bool c.r.s, .bool c.r.t, .slice e c.bx.length ce, .slice q c.bm cq, .bool c.st, .bool c.ha] 36
  obtain ⟨X, hX⟩ : ∃ X : World, w.alloc (.cells #[.slice a c.r.xs.length ca, .slice b c.r.ys.length cb, iv c.r.o, iv c.r.p, iv c.r.f, iv c.r.m, .bool c.r.s, .bool c.r.t, .slice e c.bx.length ce, .slice q c.bm cq, .bool c.st, .bool c.ha] 36) = X := ⟨_, rfl⟩
  rw [hX] at K0 BA
  have HBA := hide BA
  have HA := hide (ha.keptS K0.out)
  have HB := hide (hb.keptS K0.out)
  have HE := hide (he.keptS K0.out)
  have HQ := hide (hq.keptS K0.out)
  clear BA ha hb he hq
  have i0 := HBA.out.cell (i := 0) rfl
  have i1 := HBA.out.cell (i := 1) rfl
  have i2 := HBA.out.cell (i := 2) rfl
  have i3 := HBA.out.cell (i := 3) rfl
  have i4 := HBA.out.cell (i := 4) rfl
  have i5 := HBA.out.cell (i := 5) rfl
  have i6 := HBA.out.cell (i := 6) rfl
  have i7 := HBA.out.cell (i := 7) rfl
  have i8 := HBA.out.cell (i := 8) rfl
  have i9 := HBA.out.cell (i := 9) rfl
  have i10 := HBA.out.cell (i := 10) rfl
  have i11 := HBA.out.cell (i := 11) rfl
  cases h1 : Pl.rgOk c.r
  · go_enter Try.func26, Try.ntmps26
    go_wp2_with (first | (go_at_call 47; refine (specGoodRegs _ c.r a b ca cb HA.out HB.out lx ly).mono ?_; rintro e9 W ⟨rfl, k9⟩; rw [h1]; have HK1 := hide k9; have HB1 := hide (HBA.out.kept0 k9); have HE1 := hide (HE.out.keptS k9); have HQ1 := hide (HQ.out.keptS k9); clear k9 i0 i1 i2 i3 i4 i5 i6 i7 i8 i9 i10 i11; have i0 := HB1.out.cell (i := 0) rfl; have i1 := HB1.out.cell (i := 1) rfl; have i2 := HB1.out.cell (i := 2) rfl; have i3 := HB1.out.cell (i := 3) rfl; have i4 := HB1.out.cell (i := 4) rfl; have i5 := HB1.out.cell (i := 5) rfl; have i6 := HB1.out.cell (i := 6) rfl; have i7 := HB1.out.cell (i := 7) rfl; have i8 := HB1.out.cell (i := 8) rfl; have i9 := HB1.out.cell (i := 9) rfl; have i10 := HB1.out.cell (i := 10) rfl; have i11 := HB1.out.cell (i := 11) rfl))
    go_ret
    exact ⟨rB (by unfold Pl.cpOk; simp [h1]), K0.out.trans HK1.out⟩
  · cases h2 : Pl.goodBus c.bx c.bl c.bm
    · go_enter Try.func26, Try.ntmps26
      go_wp2_with (first | (go_at_call 48; have z9 := HB1; refine (specGoodBus _ e q ce cq c.bm c.bx c.bl HE1.out HQ1.out lb ll lm).mono ?_; rintro e9 W2 ⟨rfl, k9⟩; rw [h2]; have HK2 := hide k9; have HB2 := hide (HB1.out.kept0 k9); clear k9 i0 i1 i2 i3 i4 i5 i6 i7 i8 i9 i10 i11; have i0 := HB2.out.cell (i := 0) rfl; have i1 := HB2.out.cell (i := 1) rfl; have i2 := HB2.out.cell (i := 2) rfl; have i3 := HB2.out.cell (i := 3) rfl; have i4 := HB2.out.cell (i := 4) rfl; have i5 := HB2.out.cell (i := 5) rfl; have i6 := HB2.out.cell (i := 6) rfl; have i7 := HB2.out.cell (i := 7) rfl; have i8 := HB2.out.cell (i := 8) rfl; have i9 := HB2.out.cell (i := 9) rfl; have i10 := HB2.out.cell (i := 10) rfl; have i11 := HB2.out.cell (i := 11) rfl) | (go_at_call 47; refine (specGoodRegs _ c.r a b ca cb HA.out HB.out lx ly).mono ?_; rintro e9 W ⟨rfl, k9⟩; rw [h1]; have HK1 := hide k9; have HB1 := hide (HBA.out.kept0 k9); have HE1 := hide (HE.out.keptS k9); have HQ1 := hide (HQ.out.keptS k9); clear k9 i0 i1 i2 i3 i4 i5 i6 i7 i8 i9 i10 i11; have i0 := HB1.out.cell (i := 0) rfl; have i1 := HB1.out.cell (i := 1) rfl; have i2 := HB1.out.cell (i := 2) rfl; have i3 := HB1.out.cell (i := 3) rfl; have i4 := HB1.out.cell (i := 4) rfl; have i5 := HB1.out.cell (i := 5) rfl; have i6 := HB1.out.cell (i := 6) rfl; have i7 := HB1.out.cell (i := 7) rfl; have i8 := HB1.out.cell (i := 8) rfl; have i9 := HB1.out.cell (i := 9) rfl; have i10 := HB1.out.cell (i := 10) rfl; have i11 := HB1.out.cell (i := 11) rfl))
      go_ret
      exact ⟨rB (by unfold Pl.cpOk; simp [h1, h2]), (K0.out.trans HK1.out).trans HK2.out⟩
    · rcases Bool.eq_false_or_eq_true c.st with h3 | h3
      · have H3 := hide h3
        rw [H3.out] at i10
        clear h3
        go_enter Try.func26, Try.ntmps26
        go_wp2_with (first | (go_at_call 48; have z9 := HB1; refine (specGoodBus _ e q ce cq c.bm c.bx c.bl HE1.out HQ1.out lb ll lm).mono ?_; rintro e9 W2 ⟨rfl, k9⟩; rw [h2]; have HK2 := hide k9; have HB2 := hide (HB1.out.kept0 k9); clear k9 i0 i1 i2 i3 i4 i5 i6 i7 i8 i9 i10 i11; have i0 := HB2.out.cell (i := 0) rfl; have i1 := HB2.out.cell (i := 1) rfl; have i2 := HB2.out.cell (i := 2) rfl; have i3 := HB2.out.cell (i := 3) rfl; have i4 := HB2.out.cell (i := 4) rfl; have i5 := HB2.out.cell (i := 5) rfl; have i6 := HB2.out.cell (i := 6) rfl; have i7 := HB2.out.cell (i := 7) rfl; have i8 := HB2.out.cell (i := 8) rfl; have i9 := HB2.out.cell (i := 9) rfl; have i10 := HB2.out.cell (i := 10) rfl; have i11 := HB2.out.cell (i := 11) rfl; rw [H3.out] at i10) | (go_at_call 47; refine (specGoodRegs _ c.r a b ca cb HA.out HB.out lx ly).mono ?_; rintro e9 W ⟨rfl, k9⟩; rw [h1]; have HK1 := hide k9; have HB1 := hide (HBA.out.kept0 k9); have HE1 := hide (HE.out.keptS k9); have HQ1 := hide (HQ.out.keptS k9); clear k9 i0 i1 i2 i3 i4 i5 i6 i7 i8 i9 i10 i11; have i0 := HB1.out.cell (i := 0) rfl; have i1 := HB1.out.cell (i := 1) rfl; have i2 := HB1.out.cell (i := 2) rfl; have i3 := HB1.out.cell (i := 3) rfl; have i4 := HB1.out.cell (i := 4) rfl; have i5 := HB1.out.cell (i := 5) rfl; have i6 := HB1.out.cell (i := 6) rfl; have i7 := HB1.out.cell (i := 7) rfl; have i8 := HB1.out.cell (i := 8) rfl; have i9 := HB1.out.cell (i := 9) rfl; have i10 := HB1.out.cell (i := 10) rfl; have i11 := HB1.out.cell (i := 11) rfl; rw [H3.out] at i10))
        go_ret
        exact ⟨rB (by unfold Pl.cpOk; simp [h1, h2, H3.out]), (K0.out.trans HK1.out).trans HK2.out⟩
      · have H3 := hide h3
        rw [H3.out] at i10
        clear h3
        go_enter Try.func26, Try.ntmps26
        go_wp2_with (first | (go_at_call 48; have z9 := HB1; refine (specGoodBus _ e q ce cq c.bm c.bx c.bl HE1.out HQ1.out lb ll lm).mono ?_; rintro e9 W2 ⟨rfl, k9⟩; rw [h2]; have HK2 := hide k9; have HB2 := hide (HB1.out.kept0 k9); clear k9 i0 i1 i2 i3 i4 i5 i6 i7 i8 i9 i10 i11; have i0 := HB2.out.cell (i := 0) rfl; have i1 := HB2.out.cell (i := 1) rfl; have i2 := HB2.out.cell (i := 2) rfl; have i3 := HB2.out.cell (i := 3) rfl; have i4 := HB2.out.cell (i := 4) rfl; have i5 := HB2.out.cell (i := 5) rfl; have i6 := HB2.out.cell (i := 6) rfl; have i7 := HB2.out.cell (i := 7) rfl; have i8 := HB2.out.cell (i := 8) rfl; have i9 := HB2.out.cell (i := 9) rfl; have i10 := HB2.out.cell (i := 10) rfl; have i11 := HB2.out.cell (i := 11) rfl; rw [H3.out] at i10) | (go_at_call 47; refine (specGoodRegs _ c.r a b ca cb HA.out HB.out lx ly).mono ?_; rintro e9 W ⟨rfl, k9⟩; rw [h1]; have HK1 := hide k9; have HB1 := hide (HBA.out.kept0 k9); have HE1 := hide (HE.out.keptS k9); have HQ1 := hide (HQ.out.keptS k9); clear k9 i0 i1 i2 i3 i4 i5 i6 i7 i8 i9 i10 i11; have i0 := HB1.out.cell (i := 0) rfl; have i1 := HB1.out.cell (i := 1) rfl; have i2 := HB1.out.cell (i := 2) rfl; have i3 := HB1.out.cell (i := 3) rfl; have i4 := HB1.out.cell (i := 4) rfl; have i5 := HB1.out.cell (i := 5) rfl; have i6 := HB1.out.cell (i := 6) rfl; have i7 := HB1.out.cell (i := 7) rfl; have i8 := HB1.out.cell (i := 8) rfl; have i9 := HB1.out.cell (i := 9) rfl; have i10 := HB1.out.cell (i := 10) rfl; have i11 := HB1.out.cell (i := 11) rfl; rw [H3.out] at i10))
        go_ret
        exact ⟨rB (by unfold Pl.cpOk; simp [h1, h2, H3.out]), (K0.out.trans HK1.out).trans HK2.out⟩
end Go.Proofs.Ytndhiaommphegaa

namespace Go.Proofs.Ytndhiaommphegaa
open Go.RowKit
set_option linter.unusedVariables false
set_option maxHeartbeats 4000000 in
theorem specGoodIrq (w : World) (x : Pl.Iq) (a b e q : Option Addr) (ca cb ce cq : Nat) (ha : IRow w a x.c.r.xs) (hb : IRow w b x.c.r.ys) (he : IRow w e x.c.bx) (hq : IRow w q x.c.bl) (lx : x.c.r.xs.length ≤ 2000000) (ly : x.c.r.ys.length ≤ 2000000) (lb : x.c.bx.length ≤ 2000000) (ll : x.c.bl.length = 5 * x.c.bm) (lm : x.c.bm ≤ 2000000) :
    Calls Try.prog 17 #[.agg (irA x a b e q ca cb ce cq)] w fun r w' => r = .returned (.bool (Pl.iqOk x)) ∧ Kept 0 0 w w' := by
  have K0 := hide (kept_alloc w (.cells (irA x a b e q ca cb ce cq) 38))
  have BA := hide (Blk.new w (irA x a b e q ca cb ce cq) 38)
  obtain ⟨X, hX⟩ : ∃ X : World, w.alloc (.cells (irA x a b e q ca cb ce cq) 38) = X := ⟨_, rfl⟩
  rw [hX] at K0 BA
  have HA := hide (ha.keptS K0.out)
  have HB := hide (hb.keptS K0.out)
  have HE := hide (he.keptS K0.out)
  have HQ := hide (hq.keptS K0.out)
  clear ha hb he hq
  have p := BA.out.all
  cases h1 : Pl.cpOk x.c
  all_goals
    have E : Hid (Pl.iqOk x = (Pl.cpOk x.c && (decide (0 ≤ x.l) && decide (x.l ≤ 7)))) := hide rfl
    rw [h1] at E
    go_enter Try.func17, Try.ntmps17
    go_wp2_with (first | (go_at_call 26; refine (specGoodCpu _ x.c a b e q ca cb ce cq HA.out HB.out HE.out HQ.out lx ly lb ll lm).mono ?_; rintro e9 W1 ⟨rfl, k9⟩; rw [h1]; have K1 := hide (K0.out.trans k9); have p1 := (BA.out.kept0 k9).all; clear k9) | (go_at_call 38; refine st (l1In _ _ _ _) ?_))
    go_ret
    exact ⟨by rw [E.out]; simp, K1.out⟩
end Go.Proofs.Ytndhiaommphegaa

namespace Go.Proofs.Ytndhiaommphegaa
open Go.RowKit
set_option linter.unusedVariables false

/-- the frame A is A0 but for these slots -/
structure FR (SL : List Nat) (A0 A : Act) : Prop where
  size : A.tmps.size = A0.tmps.size
  defers : A.defers = A0.defers
  out : ∀ k, k ∉ SL → A.tmps[k]? = A0.tmps[k]?
end Go.Proofs.Ytndhiaommphegaa

namespace Go.Proofs.Ytndhiaommphegaa
open Go.RowKit
set_option linter.unusedVariables false

theorem isAddress (a : Int) (w : World) : Calls Try.prog 94 #[iv a] w fun e w' => e = .returned (.bool (Pl.addr a)) ∧ w' = w := by
  by_cases h0 : 0 ≤ a
  all_goals
    by_cases h1 : a ≤ 65535
    all_goals
      go_enter Try.func94, Try.ntmps94
      go_wp2
      go_ret
      exact ⟨rB (by simp [Pl.addr, h0, h1] <;> omega), rfl⟩
theorem isAccessKind (a : Int) (w : World) : Calls Try.prog 93 #[iv a] w fun e w' => e = .returned (.bool (Pl.accKind a)) ∧ w' = w := by
  by_cases h0 : 1 ≤ a
  all_goals
    by_cases h1 : a ≤ 3
    all_goals
      go_enter Try.func93, Try.ntmps93
      go_wp2
      go_ret
      exact ⟨rB (by simp [Pl.accKind, h0, h1] <;> omega), rfl⟩
namespace Pl
def isAcc (k s a v c : Int) : Bool := okv s v && (accKind k && (addr a && (decide (0 ≤ c) && decide (c ≤ 3))))
theorem accOk_isAcc (k s a v c : Int) : accOk k s a v c = (isAcc k s a v c && !((k == 3) && (c == 0))) := by
  unfold accOk isAcc
  rw [Bool.eq_iff_iff]
  simp only [Bool.and_eq_true, Bool.or_eq_true, Bool.not_eq_true', decide_eq_true_eq, bne_iff_ne, ne_eq, Bool.and_eq_false_iff, beq_eq_false_iff_ne]
  constructor
  · rintro ⟨a1, a2, a3, a4, a5⟩; exact ⟨⟨a2, a1, a3, a4⟩, a5⟩
  · rintro ⟨⟨a2, a1, a3, a4⟩, a5⟩; exact ⟨a1, a2, a3, a4, a5⟩
end Pl
theorem isAccess (k s a v c : Int) (w : World) (lo : -9223372036854775808 ≤ v) (hi : v ≤ 9223372036854775807) : Calls Try.prog 85 #[.agg #[iv k, iv s, iv a, iv v, iv c]] w fun e w' => e = .returned (.bool (Pl.isAcc k s a v c)) ∧ ∃ o, w' = w.alloc o := by
  cases h1 : Pl.okv s v
  · go_enter Try.func85, Try.ntmps85
    go_wp2_with (first | (go_at_call 83; refine (signedOf _ _ _ lo hi).mono ?_; rintro e w' ⟨rfl, rfl⟩; rw [h1]) | (go_at_call 93; refine (isAccessKind _ _).mono ?_; rintro e w' ⟨rfl, rfl⟩) | (go_at_call 94; refine (isAddress _ _).mono ?_; rintro e w' ⟨rfl, rfl⟩))
    go_ret
    exact ⟨rB (by unfold Pl.isAcc; rw [h1]; rfl), _, rfl⟩
  · cases h2 : Pl.accKind k
    · go_enter Try.func85, Try.ntmps85
      go_wp2_with (first | (go_at_call 83; refine (signedOf _ _ _ lo hi).mono ?_; rintro e w' ⟨rfl, rfl⟩; rw [h1]) | (go_at_call 93; refine (isAccessKind _ _).mono ?_; rintro e w' ⟨rfl, rfl⟩; rw [h2]) | (go_at_call 94; refine (isAddress _ _).mono ?_; rintro e w' ⟨rfl, rfl⟩))
      go_ret
      exact ⟨rB (by unfold Pl.isAcc; rw [h1, h2]; rfl), _, rfl⟩
    · cases h3 : Pl.addr a
      · go_enter Try.func85, Try.ntmps85
        go_wp2_with (first | (go_at_call 83; refine (signedOf _ _ _ lo hi).mono ?_; rintro e w' ⟨rfl, rfl⟩; rw [h1]) | (go_at_call 93; refine (isAccessKind _ _).mono ?_; rintro e w' ⟨rfl, rfl⟩; rw [h2]) | (go_at_call 94; refine (isAddress _ _).mono ?_; rintro e w' ⟨rfl, rfl⟩; rw [h3]))
        go_ret
        exact ⟨rB (by unfold Pl.isAcc; rw [h1, h2, h3]; rfl), _, rfl⟩
      · cases h4 : decide (0 ≤ c)
        all_goals
          cases h5 : decide (c ≤ 3)
          all_goals
            go_enter Try.func85, Try.ntmps85
            go_wp2_with (first | (go_at_call 83; refine (signedOf _ _ _ lo hi).mono ?_; rintro e w' ⟨rfl, rfl⟩; rw [h1]) | (go_at_call 93; refine (isAccessKind _ _).mono ?_; rintro e w' ⟨rfl, rfl⟩; rw [h2]) | (go_at_call 94; refine (isAddress _ _).mono ?_; rintro e w' ⟨rfl, rfl⟩; rw [h3]))
            go_ret
            exact ⟨rB (by unfold Pl.isAcc; rw [h1, h2, h3, h4, h5]; rfl), _, rfl⟩
theorem isLogged (k s a v c : Int) (w : World) (lo : -9223372036854775808 ≤ v) (hi : v ≤ 9223372036854775807) : Calls Try.prog 73 #[.agg #[iv k, iv s, iv a, iv v, iv c]] w fun e w' => e = .returned (.bool (Pl.accOk k s a v c)) ∧ ∃ o p, w' = (w.alloc o).alloc p := by
  cases h1 : Pl.isAcc k s a v c
  · go_enter Try.func73, Try.ntmps73
    go_wp2_with (go_at_call 85; refine (isAccess _ _ _ _ _ _ lo hi).mono ?_; rintro e w' ⟨rfl, o, rfl⟩; rw [h1])
    go_ret
    exact ⟨rB (by rw [Pl.accOk_isAcc, h1]; rfl), _, _, rfl⟩
  · cases h2 : (k == 3)
    · go_enter Try.func73, Try.ntmps73
      go_wp2_with (go_at_call 85; refine (isAccess _ _ _ _ _ _ lo hi).mono ?_; rintro e w' ⟨rfl, o, rfl⟩; rw [h1])
      go_ret
      exact ⟨rB (by rw [Pl.accOk_isAcc, h1, h2]; rfl), _, _, rfl⟩
    · cases h3 : (c == 0)
      all_goals
        go_enter Try.func73, Try.ntmps73
        go_wp2_with (go_at_call 85; refine (isAccess _ _ _ _ _ _ lo hi).mono ?_; rintro e w' ⟨rfl, o, rfl⟩; rw [h1])
        go_ret
        exact ⟨rB (by rw [Pl.accOk_isAcc, h1, h2, h3]; rfl), _, _, rfl⟩
end Go.Proofs.Ytndhiaommphegaa

namespace Go.Proofs.Ytndhiaommphegaa
open Go.RowKit
set_option linter.unusedVariables false

theorem okv1 (v : Int) : Pl.okv 1 v = Pl.byteOk v := by
  unfold Pl.okv Pl.byteOk Pl.top
  rw [Bool.eq_iff_iff]; simp; omega
theorem isByte (v : Int) (w : World) (lo : -9223372036854775808 ≤ v) (hi : v ≤ 9223372036854775807) :
    Calls Try.prog 84 #[iv v] w fun e w' => e = .returned (.bool (Pl.byteOk v)) ∧ w' = w := by
  go_enter Try.func84, Try.ntmps84
  go_wp2_with (go_at_call 83; refine (signedOf _ _ _ lo hi).mono ?_; rintro e w' ⟨rfl, hw⟩; have hw2 := hw.symm; clear hw; subst hw2; rw [okv1])
  go_ret
  exact ⟨rfl, rfl⟩
theorem areBytes (w : World) (a : Option Addr) (ca : Nat) (xs : List Int) (ha : Came w a xs) (lx : xs.length ≤ 2000000) :
    Calls Try.prog 72 #[.slice a xs.length ca] w fun e w' => e = .returned (.bool (Pl.bytesOk xs)) ∧ w' = w := by
  have HA := hide ha
  clear ha
  go_enter Try.func72, Try.ntmps72
  go_wp2
  go_loop [4, 7] (fun _ j => ∃ k : Nat, k ≤ xs.length ∧ j = iv k ∧ ∀ i, i < k → Pl.byteOk (el xs i) = true) (fun _ j => xs.length - (intOf j).toNat)
  case atStart => exact ⟨0, Nat.zero_le _, rfl, fun i hi => absurd hi (Nat.not_lt_zero i)⟩
  case round =>
    obtain ⟨k, hk, rfl, heq⟩ := hrel
    have HE := hide heq
    clear heq
    by_cases hlt : k < xs.length
    · obtain ⟨g1, o1, rfl, hc1⟩ := HA.out.1 k hlt
      obtain ⟨lo, hi⟩ := HA.out.2 k hlt
      rw [show xs[k]?.getD 0 = el xs k from rfl] at hc1 lo hi
      cases hb : Pl.byteOk (el xs k)
      · go_wp2_with (go_at_call 84; refine (isByte _ _ lo hi).mono ?_; rintro e w' ⟨rfl, rfl⟩; rw [hb])
        go_ret
        exact ⟨rB (Pl.bytesOk_no hlt hb).symm, rfl⟩
      · go_wp2_with (go_at_call 84; refine (isByte _ _ lo hi).mono ?_; rintro e w' ⟨rfl, rfl⟩; rw [hb])
        go_round
        case rel => exact ⟨k + 1, by omega, by go_num, snoc_all HE.out hb⟩
        case measure => simp [intOf]; omega
    · go_wp2
      go_ret
      exact ⟨rB (Pl.bytesOk_of (fun i hi => HE.out i (by omega))).symm, rfl⟩
end Go.Proofs.Ytndhiaommphegaa

namespace Go.Proofs.Ytndhiaommphegaa
open Go.RowKit
set_option linter.unusedVariables false

theorem Wide.at5 {ys : List Int} (h : Wide ys) {m k : Nat} (hl : ys.length = 5 * m) (hk : k < m) : -9223372036854775808 ≤ el ys (k * 5 + 3) ∧ el ys (k * 5 + 3) ≤ 9223372036854775807 := h (k * 5 + 3) (by omega)

theorem goodBus (w : World) (a b : Option Addr) (ca cb m : Nat) (xs ys : List Int) (ha : Came w a xs) (hb : Came w b ys) (lx : xs.length ≤ 2000000) (ly : ys.length = 5 * m) (bm : m ≤ 2000000) :
    Calls Try.prog 54 #[.agg #[.slice a xs.length ca, .slice b m cb]] w fun e w' => e = .returned (.bool (Pl.goodBus xs ys m)) ∧ Kept 0 0 w w' := by
  have HA := hide ha
  have HB := hide hb
  have HY := hide ly
  have HK0 := hide (kept_alloc w (.cells #[.slice a xs.length ca, .slice b m cb] 34))
  clear ha hb ly
  cases h1 : ((xs.length : Int) != 512)
  · have hl5 : xs.length = 512 := by simp at h1; omega
    have G : Hid (Pl.goodBus xs ys m = (Pl.accsOk ys m && (Pl.bytesOk xs && decide (m ≤ 400)))) := hide (by
      unfold Pl.goodBus
      rw [show decide (xs.length = 512) = true from by simp [hl5], Bool.true_and])
    clear hl5
    cases h2 : Pl.bytesOk xs
    · go_enter Try.func54, Try.ntmps54
      go_wp2_with (go_at_call 72; refine (areBytes _ a ca xs (HA.out.keptS HK0.out) lx).mono ?_; rintro e w' ⟨rfl, rfl⟩; rw [h2])
      go_ret
      exact ⟨rB (by rw [G.out, h2, Bool.false_and, Bool.and_false]), HK0.out⟩
    · cases h3 : decide ((400 : Int) < (m : Int))
      · go_enter Try.func54, Try.ntmps54
        go_wp2_with (first | (go_at_call 72; refine (areBytes _ a ca xs (HA.out.keptS HK0.out) lx).mono ?_; rintro e w' ⟨rfl, rfl⟩; rw [h2]) | fail)
        obtain ⟨W, hW⟩ : ∃ W : World, W = w.alloc (.cells #[.slice a xs.length ca, .slice b m cb] 34) := ⟨_, rfl⟩
        rw [← hW] at HK0 ⊢
        clear hW
        go_loopw [4, 24] (fun _ j wr => ∃ k : Nat, k ≤ m ∧ j = iv k ∧ (∀ i, i < k → Pl.accAt ys i = true) ∧ Kept 0 0 W wr) (fun _ j _ => m - (intOf j).toNat)
        case atStart => exact ⟨0, Nat.zero_le _, rfl, fun i hi => absurd hi (Nat.not_lt_zero i), Kept.refl _ _ _⟩
        case round =>
          obtain ⟨k, hk, rfl, heq, hkept⟩ := hrel
          have HE := hide heq
          have HK := hide hkept
          clear heq hkept
          by_cases hlt : k < m
          · obtain ⟨lo, hi⟩ := HB.out.2.at5 HY.out hlt
            obtain ⟨g1, o1, rfl, p0, p1, p2, p3, p4⟩ := ((HB.out.keptS (HK0.out.trans HK.out)).1).five HY.out hlt
            cases hb : Pl.accAt ys k
            · have hb2 : Pl.accOk (el ys (k * 5)) (el ys (k * 5 + 1)) (el ys (k * 5 + 2)) (el ys (k * 5 + 3)) (el ys (k * 5 + 4)) = false := hb
              clear hb
              go_wp2_with (go_at_call 73; refine (isLogged _ _ _ _ _ _ lo hi).mono ?_; rintro e w' ⟨rfl, o, p, rfl⟩; rw [hb2])
              go_ret
              exact ⟨rB (by unfold Pl.goodBus; rw [Pl.accsOk_no hlt hb2]; rfl), HK0.out.trans (kept_new (kept_new (kept_new HK.out _) _) _)⟩
            · have hb2 : Pl.accOk (el ys (k * 5)) (el ys (k * 5 + 1)) (el ys (k * 5 + 2)) (el ys (k * 5 + 3)) (el ys (k * 5 + 4)) = true := hb
              clear hb
              go_wp2_with (go_at_call 73; refine (isLogged _ _ _ _ _ _ lo hi).mono ?_; rintro e w' ⟨rfl, o, p, rfl⟩; rw [hb2])
              go_roundw
              case rel => exact ⟨k + 1, by omega, by go_num, snoc_all HE.out hb2, kept_new (kept_new (kept_new HK.out _) _) _⟩
              case measure => simp [intOf]; omega
          · have HA1 : Hid (Pl.accsOk ys m = true) := hide (Pl.accsOk_of (fun i hi => HE.out i (by omega)))
            go_wp2_with fail
            go_ret
            refine ⟨rB ?_, HK0.out.trans HK.out⟩
            rw [G.out, HA1.out, h2]
            simp at h3
            simp; omega
      · go_enter Try.func54, Try.ntmps54
        go_wp2_with (go_at_call 72; refine (areBytes _ a ca xs (HA.out.keptS HK0.out) lx).mono ?_; rintro e w' ⟨rfl, rfl⟩; rw [h2])
        go_ret
        refine ⟨rB ?_, HK0.out⟩
        rw [G.out]
        simp at h3
        rw [show decide (m ≤ 400) = false from by simp; omega]
        simp
  · have hl5 : Hid (¬ xs.length = 512) := hide (by simp at h1; omega)
    go_enter Try.func54, Try.ntmps54
    go_wp2_with (go_at_call 72; fail)
    go_ret
    refine ⟨rB ?_, HK0.out⟩
    unfold Pl.goodBus
    rw [show decide (xs.length = 512) = false from by simp [hl5.out]]
    simp
end Go.Proofs.Ytndhiaommphegaa

namespace Go.Proofs.Ytndhiaommphegaa
open Go.RowKit
set_option linter.unusedVariables false

/-- what 'fill' lays, of a part that fits -/
def laid (off : Nat) (cs A : Array Value) : Array Value := cs.zipIdx.foldl (fun a (x : Value × Nat) => a.setIfInBounds (off + x.2) x.1) A
end Go.Proofs.Ytndhiaommphegaa

namespace Go.Proofs.Ytndhiaommphegaa
open Go.RowKit
set_option linter.unusedVariables false
set_option maxHeartbeats 1000000 in
theorem implGoodCpu (w : World) (c : Pl.Cp) (a b e q : Option Addr) (ca cb ce cq : Nat) (ha : Came w a c.r.xs) (hb : Came w b c.r.ys) (he : Came w e c.bx) (hq : Came w q c.bl) (lx : c.r.xs.length ≤ 2000000) (ly : c.r.ys.length ≤ 2000000) (lb : c.bx.length ≤ 2000000) (ll : c.bl.length = 5 * c.bm) (lm : c.bm ≤ 2000000) (wf : Pl.WfR c.r) :
    Calls Try.prog 30 #[.agg #[.slice a c.r.xs.length ca, .slice b c.r.ys.length cb, iv c.r.o, iv c.r.p, iv c.r.f, iv c.r.m, .bool c.r.s, .bool c.r.t, .slice e c.bx.length ce, .slice q c.bm cq, .bool c.st, .bool c.ha]] w fun r w' => r = .returned (.bool (Pl.cpOk c)) ∧ Kept 0 0 w w' := by
  have K0 := hide (kept_alloc w (.cells #[.slice a c.r.xs.length ca, .slice b c.r.ys.length cb, iv c.r.o, iv c.r.p, iv c.r.f, iv c.r.m, .bool c.r.s, .bool c.r.t, .slice e c.bx.length ce, .slice q c.bm cq, .bool c.st, .bool c.ha] 36))
  have HBA := hide (Blk.new w #[.slice a c.r.xs.length ca, .slice b c.r.ys.length cb, iv c.r.o, iv c.r.p, iv c.r.f, iv c.r.m, .bool c.r.s, .bool c.r.t, .slice e c.bx.length ce, .slice q c.bm cq, .bool c.st, .bool c.ha] 36)
  obtain ⟨X, hX⟩ : ∃ X : World, w.alloc (.cells #[.slice a c.r.xs.length ca, .slice b c.r.ys.length cb, iv c.r.o, iv c.r.p, iv c.r.f, iv c.r.m, .bool c.r.s, .bool c.r.t, .slice e c.bx.length ce, .slice q c.bm cq, .bool c.st, .bool c.ha] 36) = X := ⟨_, rfl⟩
  rw [hX] at K0 HBA
  have HA := hide (ha.keptS K0.out)
  have HB := hide (hb.keptS K0.out)
  have HE := hide (he.keptS K0.out)
  have HQ := hide (hq.keptS K0.out)
  clear ha hb he hq
  have p := HBA.out.all
  cases h1 : Pl.rgOk c.r
  · go_enter Try.func30, Try.ntmps30
    go_wp2_with (go_at_call 53; refine (implGoodRegs _ c.r a b ca cb HA.out HB.out lx ly wf).mono ?_; rintro e9 W ⟨rfl, k9⟩; rw [h1]; have HK1 := hide k9; have HB1 := hide (HBA.out.kept0 k9); have HE1 := hide (HE.out.keptS k9); have HQ1 := hide (HQ.out.keptS k9); clear k9 p; have p := HB1.out.all)
    go_ret
    exact ⟨rB (by unfold Pl.cpOk; simp [h1]), K0.out.trans HK1.out⟩
  · cases h2 : Pl.goodBus c.bx c.bl c.bm
    · go_enter Try.func30, Try.ntmps30
      go_wp2_with (first | (go_at_call 54; have z9 := HB1; refine (goodBus _ e q ce cq c.bm c.bx c.bl HE1.out HQ1.out lb ll lm).mono ?_; rintro e9 W2 ⟨rfl, k9⟩; rw [h2]; have HK2 := hide k9; have HB2 := hide (HB1.out.kept0 k9); clear k9 p; have p := HB2.out.all) | (go_at_call 53; refine (implGoodRegs _ c.r a b ca cb HA.out HB.out lx ly wf).mono ?_; rintro e9 W ⟨rfl, k9⟩; rw [h1]; have HK1 := hide k9; have HB1 := hide (HBA.out.kept0 k9); have HE1 := hide (HE.out.keptS k9); have HQ1 := hide (HQ.out.keptS k9); clear k9 p; have p := HB1.out.all))
      go_ret
      exact ⟨rB (by unfold Pl.cpOk; simp [h1, h2]), (K0.out.trans HK1.out).trans HK2.out⟩
    · rcases Bool.eq_false_or_eq_true c.st with h3 | h3
      all_goals
        have H3 := hide h3
        clear h3
        go_enter Try.func30, Try.ntmps30
        go_wp2_with (first | (go_at_call 54; have z9 := HB1; refine (goodBus _ e q ce cq c.bm c.bx c.bl HE1.out HQ1.out lb ll lm).mono ?_; rintro e9 W2 ⟨rfl, k9⟩; rw [h2]; have HK2 := hide k9; have HB2 := hide (HB1.out.kept0 k9); clear k9 p; have p := HB2.out.all; rw [H3.out] at p) | (go_at_call 53; refine (implGoodRegs _ c.r a b ca cb HA.out HB.out lx ly wf).mono ?_; rintro e9 W ⟨rfl, k9⟩; rw [h1]; have HK1 := hide k9; have HB1 := hide (HBA.out.kept0 k9); have HE1 := hide (HE.out.keptS k9); have HQ1 := hide (HQ.out.keptS k9); clear k9 p; have p := HB1.out.all))
        go_ret
        exact ⟨rB (by unfold Pl.cpOk; simp [h1, h2, H3.out]), (K0.out.trans HK1.out).trans HK2.out⟩
end Go.Proofs.Ytndhiaommphegaa

