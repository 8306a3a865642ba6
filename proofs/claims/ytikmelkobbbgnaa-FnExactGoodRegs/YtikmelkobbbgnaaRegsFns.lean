/- What the laws' own functions over Regs do (a struct of numbers, flags and two lists): its size, copy, comparison, marks. -/
import Derived.Test.YtikmelkobbbgnaaFrame
namespace Go.Proofs.Ytikmelkobbbgnaa
open Go.RowKit
set_option linter.unusedVariables false

theorem szRegs (w : World) (o pc fl mk : Int) (su tr : Bool) (a b : Option Addr) (ca cb n m : Nat) (left : Int) (hn : n ≤ 9223372036854775807) (hm : m ≤ 9223372036854775807) (l0 : 0 ≤ left) (l1 : left ≤ 2000000) :
    Calls Try.prog 16 #[.agg #[.slice a n ca, .slice b m cb, .int .i64 o, .int .i64 pc, .int .i64 fl, .int .i64 mk, .bool su, .bool tr], .int .i64 left] w fun e w' => e = .returned (.int .i64 (szB n m left)) ∧ Kept 0 0 w w' := by
  by_cases h : left - (n : Int) < 0
  · have E : Hid (szB n m left = -1) := hide (by simp [szB, h])
    have e1 : (if left - (n : Int) < 0 then (-1 : Int) else left - (n : Int)) = -1 := by simp [h]
    go_enter Try.func16, Try.ntmps16
    go_wp2_with fail
    refine (szIntS _ a ca n left hn l0 l1).mono ?_
    rintro e w' ⟨rfl, rfl⟩
    rw [e1]
    go_wp2_with fail
    go_ret
    exact ⟨rI E.out.symm, kept_alloc _ _⟩
  · have e1 : (if left - (n : Int) < 0 then (-1 : Int) else left - (n : Int)) = left - (n : Int) := by simp [h]
    by_cases h2 : left - (n : Int) - (m : Int) < 0
    · have E : Hid (szB n m left = -1) := hide (by simp [szB, h, h2])
      have e2 : (if left - (n : Int) - (m : Int) < 0 then (-1 : Int) else left - (n : Int) - (m : Int)) = -1 := by simp [h2]
      go_enter Try.func16, Try.ntmps16
      go_wp2_with fail
      refine (szIntS _ a ca n left hn l0 l1).mono ?_
      rintro e w' ⟨rfl, rfl⟩
      rw [e1]
      go_wp2_with fail
      refine (szIntS _ b cb m (left - (n : Int)) hm (by omega) (by omega)).mono ?_
      rintro e w' ⟨rfl, rfl⟩
      rw [e2]
      go_wp2_with fail
      go_ret
      exact ⟨rI E.out.symm, kept_alloc _ _⟩
    · have E : Hid (szB n m left = left - (n : Int) - (m : Int)) := hide (by simp [szB, h, h2])
      have e2 : (if left - (n : Int) - (m : Int) < 0 then (-1 : Int) else left - (n : Int) - (m : Int)) = left - (n : Int) - (m : Int) := by simp [h2]
      go_enter Try.func16, Try.ntmps16
      go_wp2_with fail
      refine (szIntS _ a ca n left hn l0 l1).mono ?_
      rintro e w' ⟨rfl, rfl⟩
      rw [e1]
      go_wp2_with fail
      refine (szIntS _ b cb m (left - (n : Int)) hm (by omega) (by omega)).mono ?_
      rintro e w' ⟨rfl, rfl⟩
      rw [e2]
      go_wp2_with fail
      go_ret
      exact ⟨rI E.out.symm, kept_alloc _ _⟩

theorem eqRegs (w : World) (o pc fl mk : Int) (su tr : Bool) (a b c d : Option Addr) (ca cb cc cd : Nat) (xs ys : List Int) (ha : IRow w a xs) (hb : IRow w b ys) (hc : IRow w c xs) (hd : IRow w d ys) (lx : xs.length ≤ 2000000) (ly : ys.length ≤ 2000000) :
    Calls Try.prog 13 #[.agg #[.slice a xs.length ca, .slice b ys.length cb, .int .i64 o, .int .i64 pc, .int .i64 fl, .int .i64 mk, .bool su, .bool tr], .agg #[.slice c xs.length cc, .slice d ys.length cd, .int .i64 o, .int .i64 pc, .int .i64 fl, .int .i64 mk, .bool su, .bool tr]] w fun e w' => e = .returned (.bool true) ∧ Kept 0 0 w w' := by
  have HK0 := hide (kept_new (kept_alloc w (.cells #[.slice a xs.length ca, .slice b ys.length cb, .int .i64 o, .int .i64 pc, .int .i64 fl, .int .i64 mk, .bool su, .bool tr] 24)) (.cells #[.slice c xs.length cc, .slice d ys.length cd, .int .i64 o, .int .i64 pc, .int .i64 fl, .int .i64 mk, .bool su, .bool tr] 24))
  have HA := hide ha
  have HB := hide hb
  have HC := hide hc
  have HD := hide hd
  have B0 := hide ((Blk.new w #[.slice a xs.length ca, .slice b ys.length cb, .int .i64 o, .int .i64 pc, .int .i64 fl, .int .i64 mk, .bool su, .bool tr] 24).alloc (.cells #[.slice c xs.length cc, .slice d ys.length cd, .int .i64 o, .int .i64 pc, .int .i64 fl, .int .i64 mk, .bool su, .bool tr] 24))
  have B1 := Blk.new (w.alloc (.cells #[.slice a xs.length ca, .slice b ys.length cb, .int .i64 o, .int .i64 pc, .int .i64 fl, .int .i64 mk, .bool su, .bool tr] 24)) #[.slice c xs.length cc, .slice d ys.length cd, .int .i64 o, .int .i64 pc, .int .i64 fl, .int .i64 mk, .bool su, .bool tr] 24
  simp only [World.size_alloc] at B1
  replace B1 := hide B1
  clear ha hb hc hd
  go_enter Try.func13, Try.ntmps13
  go_wp2_with fail
  refine (eqIntS _ a c ca cc xs xs (HA.out.keptS HK0.out) (HC.out.keptS HK0.out) lx lx).mono ?_
  rintro e w1 ⟨rfl, g1⟩
  rw [show decide (xs = xs) = true from by simp]
  have k1 := kept_grown g1
  have C0 := hide (B0.out.kept0 k1)
  have C1 := hide (B1.out.kept0 k1)
  have c1 := C0.out.cell (i := 1) rfl
  have d1 := C1.out.cell (i := 1) rfl
  have HK1 := hide (HK0.out.trans k1)
  clear g1 k1
  go_wp2_with fail
  refine (eqIntS _ b d cb cd ys ys (HB.out.keptS HK1.out) (HD.out.keptS HK1.out) ly ly).mono ?_
  rintro e w2 ⟨rfl, g2⟩
  rw [show decide (ys = ys) = true from by simp]
  have k2 := kept_grown g2
  have q2 := (C0.out.kept0 k2).cell (i := 2) rfl
  have r2 := (C1.out.kept0 k2).cell (i := 2) rfl
  have q3 := (C0.out.kept0 k2).cell (i := 3) rfl
  have r3 := (C1.out.kept0 k2).cell (i := 3) rfl
  have q4 := (C0.out.kept0 k2).cell (i := 4) rfl
  have r4 := (C1.out.kept0 k2).cell (i := 4) rfl
  have q5 := (C0.out.kept0 k2).cell (i := 5) rfl
  have r5 := (C1.out.kept0 k2).cell (i := 5) rfl
  have q6 := (C0.out.kept0 k2).cell (i := 6) rfl
  have r6 := (C1.out.kept0 k2).cell (i := 6) rfl
  have q7 := (C0.out.kept0 k2).cell (i := 7) rfl
  have r7 := (C1.out.kept0 k2).cell (i := 7) rfl
  have HK2 := hide (HK1.out.trans k2)
  clear g2 k2
  go_wp2_with fail
  go_ret
  exact ⟨rfl, HK2.out⟩

theorem markRegs (w : World) (lo hi : Nat) (o pc fl mk : Int) (su tr : Bool) (a b : Option Addr) (ca cb : Nat) (xs ys : List Int) (q : Int) (ha : SlotIn w lo hi a xs) (hb : SlotIn w lo hi b ys) (hab : ∀ g, blk a = some g → blk b ≠ some g) (hh : hi ≤ w.heap.size) (lx : xs.length ≤ 2000000) (ly : ys.length ≤ 2000000) (q0 : 0 ≤ q) (q1 : q ≤ 1000000) :
    Calls Try.prog 14 #[.agg #[.slice a xs.length ca, .slice b ys.length cb, .int .i64 o, .int .i64 pc, .int .i64 fl, .int .i64 mk, .bool su, .bool tr], .int .i64 q] w fun e w' => e = .returned (.int .i64 (q + (xs.length : Int) + (ys.length : Int))) ∧ SlotIn w' lo hi a (marks q xs.length) ∧ SlotIn w' lo hi b (marks (q + (xs.length : Int)) ys.length) ∧ Kept lo hi w w' := by
  have HA := hide ha
  have HB := hide hb
  have HAB := hide hab
  clear ha hb hab
  go_enter Try.func14, Try.ntmps14
  go_wp2_with fail
  have k0 := kept_alloc w (.cells #[.slice a xs.length ca, .slice b ys.length cb, .int .i64 o, .int .i64 pc, .int .i64 fl, .int .i64 mk, .bool su, .bool tr] 24)
  have s0 := HA.out.kept k0 (by omega)
  have t0 := HB.out.kept k0 (by omega)
  refine (markSlot _ lo ca a xs q (s0.slot (by simp; omega)) lx q0 (by omega)).mono ?_
  rintro e w1 ⟨rfl, s1, g1⟩
  have k1 := kept_row g1 s0.blk_in
  have s1' := s0.again s1
  have B0 := (Blk.new w #[.slice a xs.length ca, .slice b ys.length cb, .int .i64 o, .int .i64 pc, .int .i64 fl, .int .i64 mk, .bool su, .bool tr] 24).kept k1 (by omega)
  have c1 := B0.cell (i := 1) rfl
  have t1 : SlotIn w1 lo hi b ys := by
    rcases t0 with t | ⟨g, eb, b0, b1, ho⟩
    · exact .inl t
    · refine .inr ⟨g, eb, b0, b1, ho.kept g1 ?_⟩
      intro e
      exact HAB.out g e.symm (by rw [eb]; rfl)
  have HK1 := hide ((k0.any (lo := lo) (hi := hi)).trans k1)
  have HS1 := hide s1'
  have HT1 := hide t1
  clear k0 s0 t0 s1 g1 k1 s1' t1 B0
  go_wp2_with fail
  refine (markSlot _ lo cb b ys (q + (xs.length : Int)) (HT1.out.slot (Nat.le_trans hh HK1.out.size)) ly (by omega) (by omega)).mono ?_
  rintro e w2 ⟨rfl, s2, g2⟩
  have k2 := kept_row g2 HT1.out.blk_in
  have HS2 : Hid (SlotIn w2 lo hi a (marks q xs.length)) := hide (by
    rcases HS1.out with t | ⟨g, ea, b0, b1, ho⟩
    · exact .inl t
    · refine .inr ⟨g, ea, b0, b1, ho.kept g2 ?_⟩
      intro e
      exact HAB.out g (by rw [ea]; rfl) e.symm)
  have HT2 := hide (HT1.out.again s2)
  have HK2 := hide (HK1.out.trans k2)
  clear s2 g2 k2
  go_wp2_with fail
  go_ret
  exact ⟨rfl, HS2.out, HT2.out, HK2.out⟩

theorem heldRegs (w : World) (o pc fl mk : Int) (su tr : Bool) (a b : Option Addr) (ca cb n m : Nat) (q : Int) (ha : IRow w a (marks q n)) (hb : IRow w b (marks (q + (n : Int)) m)) (lx : n ≤ 2000000) (ly : m ≤ 2000000) (q0 : 0 ≤ q) (q1 : q ≤ 1000000) :
    Calls Try.prog 15 #[.agg #[.slice a n ca, .slice b m cb, .int .i64 o, .int .i64 pc, .int .i64 fl, .int .i64 mk, .bool su, .bool tr], .int .i64 q] w fun e w' => e = .returned (.int .i64 (q + (n : Int) + (m : Int))) ∧ Kept 0 0 w w' := by
  have k0 := kept_alloc w (.cells #[.slice a n ca, .slice b m cb, .int .i64 o, .int .i64 pc, .int .i64 fl, .int .i64 mk, .bool su, .bool tr] 24)
  have HK0 := hide k0
  have HA := hide ha
  have HB := hide hb
  clear k0 ha hb
  go_enter Try.func15, Try.ntmps15
  go_wp2_with fail
  refine (heldIntS _ a ca n q (HA.out.keptS HK0.out) lx q0 (by omega)).mono ?_
  rintro e w1 ⟨rfl, g1⟩
  have k1 := kept_grown g1
  have B0 := (Blk.new w #[.slice a n ca, .slice b m cb, .int .i64 o, .int .i64 pc, .int .i64 fl, .int .i64 mk, .bool su, .bool tr] 24).kept0 k1
  have c1 := B0.cell (i := 1) rfl
  have HK1 := hide (HK0.out.trans k1)
  clear g1 k1 B0
  go_wp2_with fail
  refine (heldIntS _ b cb m (q + (n : Int)) (HB.out.keptS HK1.out) ly (by omega) (by omega)).mono ?_
  rintro e w2 ⟨rfl, g2⟩
  have HK2 := hide (HK1.out.trans (kept_grown g2))
  clear g2
  go_wp2_with fail
  go_ret
  exact ⟨rfl, HK2.out⟩

set_option maxHeartbeats 8000000 in
theorem toRegs (w : World) (o pc fl mk : Int) (su tr : Bool) (a b : Option Addr) (ca cb : Nat) (xs ys : List Int) (ha : IRow w a xs) (hb : IRow w b ys) (lx : xs.length ≤ 2000000) (ly : ys.length ≤ 2000000) :
    Calls Try.prog 18 #[.agg #[.slice a xs.length ca, .slice b ys.length cb, .int .i64 o, .int .i64 pc, .int .i64 fl, .int .i64 mk, .bool su, .bool tr]] w fun e' w' => ∃ g1 g2 : Nat, e' = .returned (.agg #[.slice (some ⟨g1, 0, none⟩) xs.length xs.length, .slice (some ⟨g2, 0, none⟩) ys.length ys.length, .int .i64 o, .int .i64 pc, .int .i64 fl, .int .i64 mk, .bool su, .bool tr]) ∧ Own w' g1 xs ∧ Own w' g2 ys ∧ w.heap.size ≤ g1 ∧ g1 < g2 ∧ g2 < w'.heap.size ∧ Kept 0 0 w w' := by
  have HA := hide ha
  have HB := hide hb
  clear ha hb
  go_enter Try.func18, Try.ntmps18
  go_wp2_with fail
  have k0 : Kept 0 0 w (((w.alloc (.cells #[.slice a xs.length ca, .slice b ys.length cb, .int .i64 o, .int .i64 pc, .int .i64 fl, .int .i64 mk, .bool su, .bool tr] 29)).alloc (.cells #[.slice none 0 0, .slice none 0 0, .int .i64 0, .int .i64 0, .int .i64 0, .int .i64 0, .bool false, .bool false] 24)).alloc (.cells #[.slice none 0 0, .slice none 0 0, .int .i64 0, .int .i64 0, .int .i64 0, .int .i64 0, .bool false, .bool false] 24)) := kept_new (kept_new (kept_alloc _ _) _) _
  have B0 := ((Blk.new w #[.slice a xs.length ca, .slice b ys.length cb, .int .i64 o, .int .i64 pc, .int .i64 fl, .int .i64 mk, .bool su, .bool tr] 29).alloc (.cells #[.slice none 0 0, .slice none 0 0, .int .i64 0, .int .i64 0, .int .i64 0, .int .i64 0, .bool false, .bool false] 24)).alloc (.cells #[.slice none 0 0, .slice none 0 0, .int .i64 0, .int .i64 0, .int .i64 0, .int .i64 0, .bool false, .bool false] 24)
  have B1 := (Blk.new (w.alloc (.cells #[.slice a xs.length ca, .slice b ys.length cb, .int .i64 o, .int .i64 pc, .int .i64 fl, .int .i64 mk, .bool su, .bool tr] 29)) #[.slice none 0 0, .slice none 0 0, .int .i64 0, .int .i64 0, .int .i64 0, .int .i64 0, .bool false, .bool false] 24).alloc (.cells #[.slice none 0 0, .slice none 0 0, .int .i64 0, .int .i64 0, .int .i64 0, .int .i64 0, .bool false, .bool false] 24)
  have B2 := Blk.new ((w.alloc (.cells #[.slice a xs.length ca, .slice b ys.length cb, .int .i64 o, .int .i64 pc, .int .i64 fl, .int .i64 mk, .bool su, .bool tr] 29)).alloc (.cells #[.slice none 0 0, .slice none 0 0, .int .i64 0, .int .i64 0, .int .i64 0, .int .i64 0, .bool false, .bool false] 24)) #[.slice none 0 0, .slice none 0 0, .int .i64 0, .int .i64 0, .int .i64 0, .int .i64 0, .bool false, .bool false] 24
  simp only [World.size_alloc] at B1 B2
  obtain ⟨W, hW⟩ : ∃ W : World, W = (((w.alloc (.cells #[.slice a xs.length ca, .slice b ys.length cb, .int .i64 o, .int .i64 pc, .int .i64 fl, .int .i64 mk, .bool su, .bool tr] 29)).alloc (.cells #[.slice none 0 0, .slice none 0 0, .int .i64 0, .int .i64 0, .int .i64 0, .int .i64 0, .bool false, .bool false] 24)).alloc (.cells #[.slice none 0 0, .slice none 0 0, .int .i64 0, .int .i64 0, .int .i64 0, .int .i64 0, .bool false, .bool false] 24)) := ⟨_, rfl⟩
  rw [← hW] at k0 B0 B1 B2 ⊢
  clear hW
  have n0 := B2.lt
  refine (toIntS _ a ca xs (HA.out.keptS k0) lx).mono ?_
  rintro e' w1 ⟨rfl, o1, z1, g1⟩
  have k1 := kept_grown g1
  have C0 := B0.kept0 k1
  have C1 := hide (B1.kept0 k1)
  have C2 := B2.kept0 k1
  have d3 := C2.cell (i := 0) rfl
  have f3 := C2.frozen 0
  have D2 := hide (C2.set 0 (.slice (some ⟨W.heap.size, 0, none⟩) xs.length xs.length))
  have D1 := hide (C1.out.other (w.heap.size + 1 + 1) 0 (.slice (some ⟨W.heap.size, 0, none⟩) xs.length xs.length) (by omega))
  have D0 := hide (C0.other (w.heap.size + 1 + 1) 0 (.slice (some ⟨W.heap.size, 0, none⟩) xs.length xs.length) (by omega))
  have O1 := hide (o1.setOther (w.heap.size + 1 + 1) 0 (.slice (some ⟨W.heap.size, 0, none⟩) xs.length xs.length) (by omega))
  have K1 := hide (kept_set (k0.trans k1) (w.heap.size + 1 + 1) 0 (.slice (some ⟨W.heap.size, 0, none⟩) xs.length xs.length) (.inr (by omega)))
  have Z1 : Hid (W.heap.size < (w1.setCell ⟨w.heap.size + 1 + 1, 0, none⟩ (.slice (some ⟨W.heap.size, 0, none⟩) xs.length xs.length)).heap.size) := hide (by simpa using z1)
  obtain ⟨X, hX⟩ : ∃ X : World, X = w1.setCell ⟨w.heap.size + 1 + 1, 0, none⟩ (.slice (some ⟨W.heap.size, 0, none⟩) xs.length xs.length) := ⟨_, rfl⟩
  rw [← hX] at D2 D1 D0 O1 K1 Z1
  have x4 := D0.out.cell (i := 1) rfl
  rw [hX] at x4
  have cc1 := C0.cell (i := 1) rfl
  have cc2 := C0.cell (i := 2) rfl
  have cc3 := C0.cell (i := 3) rfl
  have cc4 := C0.cell (i := 4) rfl
  have cc5 := C0.cell (i := 5) rfl
  have cc6 := C0.cell (i := 6) rfl
  have cc7 := C0.cell (i := 7) rfl
  clear B0 B1 B2 C0 C1 C2 o1 z1 g1 k0 k1
  go_wp2_with fail
  rw [← hX]
  clear hX x4 d3 f3 cc1 cc2 cc3 cc4 cc5 cc6 cc7
  refine (toIntS _ b cb ys (HB.out.keptS K1.out) ly).mono ?_
  rintro e' w2 ⟨rfl, o2, z2, g2⟩
  have k2 := kept_grown g2
  have E0 := D0.out.kept0 k2
  have E1 := D1.out.kept0 k2
  have E2 := D2.out.kept0 k2
  have zz := Z1.out
  have O1 := hide (O1.out.keptS k2 (by omega))
  have O2 := hide o2
  have K2 := hide (K1.out.trans k2)
  have e2 := E0.cell (i := 2) rfl
  have e3 := E0.cell (i := 3) rfl
  have e4 := E0.cell (i := 4) rfl
  have e5 := E0.cell (i := 5) rfl
  have e6 := E0.cell (i := 6) rfl
  have e7 := E0.cell (i := 7) rfl
  have a0 := E2.cell (i := 0) rfl
  have a1 := E2.cell (i := 1) rfl
  have a2 := E2.cell (i := 2) rfl
  have a3 := E2.cell (i := 3) rfl
  have a4 := E2.cell (i := 4) rfl
  have a5 := E2.cell (i := 5) rfl
  have a6 := E2.cell (i := 6) rfl
  have a7 := E2.cell (i := 7) rfl
  have u1 := E2.frozen 1
  have u2 := E2.frozen 2
  have u3 := E2.frozen 3
  have u4 := E2.frozen 4
  have u5 := E2.frozen 5
  have u6 := E2.frozen 6
  have u7 := E2.frozen 7
  have b0 := E1.cell (i := 0) rfl
  have b1 := E1.cell (i := 1) rfl
  have b2 := E1.cell (i := 2) rfl
  have b3 := E1.cell (i := 3) rfl
  have b4 := E1.cell (i := 4) rfl
  have b5 := E1.cell (i := 5) rfl
  have b6 := E1.cell (i := 6) rfl
  have b7 := E1.cell (i := 7) rfl
  have v0 := E1.frozen 0
  have v1 := E1.frozen 1
  have v2 := E1.frozen 2
  have v3 := E1.frozen 3
  have v4 := E1.frozen 4
  have v5 := E1.frozen 5
  have v6 := E1.frozen 6
  have v7 := E1.frozen 7
  have E1 := hide E1
  clear E0 E2 o2 g2 k2
  go_wp2_with fail
  refine bodyPost_ret (v := .agg #[.slice (some ⟨W.heap.size, 0, none⟩) xs.length xs.length, .slice (some ⟨X.heap.size, 0, none⟩) ys.length ys.length, .int .i64 o, .int .i64 pc, .int .i64 fl, .int .i64 mk, .bool su, .bool tr]) ?_ rfl ⟨W.heap.size, X.heap.size, rfl, ?_, ?_, by omega, zz, ?_, ?_⟩
  · exact results_cell_row rfl _ _ _ _ _ (0, 0) _ rfl (((((((((((((((E1.out.other _ _ _ (by omega)).other _ _ _ (by omega)).other _ _ _ (by omega)).other _ _ _ (by omega)).other _ _ _ (by omega)).other _ _ _ (by omega)).other _ _ _ (by omega)).set _ _).set _ _).set _ _).set _ _).set _ _).set _ _).set _ _).set _ _) Try.underlying24 rfl (by kernel_rfl)
  · exact (((((((((((((((O1.out.setOther _ _ _ (by omega)).setOther _ _ _ (by omega)).setOther _ _ _ (by omega)).setOther _ _ _ (by omega)).setOther _ _ _ (by omega)).setOther _ _ _ (by omega)).setOther _ _ _ (by omega)).setOther _ _ _ (by omega)).setOther _ _ _ (by omega)).setOther _ _ _ (by omega)).setOther _ _ _ (by omega)).setOther _ _ _ (by omega)).setOther _ _ _ (by omega)).setOther _ _ _ (by omega)).setOther _ _ _ (by omega))
  · exact (((((((((((((((O2.out.setOther _ _ _ (by omega)).setOther _ _ _ (by omega)).setOther _ _ _ (by omega)).setOther _ _ _ (by omega)).setOther _ _ _ (by omega)).setOther _ _ _ (by omega)).setOther _ _ _ (by omega)).setOther _ _ _ (by omega)).setOther _ _ _ (by omega)).setOther _ _ _ (by omega)).setOther _ _ _ (by omega)).setOther _ _ _ (by omega)).setOther _ _ _ (by omega)).setOther _ _ _ (by omega)).setOther _ _ _ (by omega))
  · simpa using z2
  · exact (kept_set (kept_set (kept_set (kept_set (kept_set (kept_set (kept_set (kept_set (kept_set (kept_set (kept_set (kept_set (kept_set (kept_set (kept_set K2.out _ _ _ (.inr (by omega))) _ _ _ (.inr (by omega))) _ _ _ (.inr (by omega))) _ _ _ (.inr (by omega))) _ _ _ (.inr (by omega))) _ _ _ (.inr (by omega))) _ _ _ (.inr (by omega))) _ _ _ (.inr (by omega))) _ _ _ (.inr (by omega))) _ _ _ (.inr (by omega))) _ _ _ (.inr (by omega))) _ _ _ (.inr (by omega))) _ _ _ (.inr (by omega))) _ _ _ (.inr (by omega))) _ _ _ (.inr (by omega)))
end Go.Proofs.Ytikmelkobbbgnaa
