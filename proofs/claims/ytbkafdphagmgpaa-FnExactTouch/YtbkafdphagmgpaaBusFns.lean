/- What the laws' own functions over a bus do (a struct of two lists: bytes, accesses): its size, copy, comparison, marks. -/
import Derived.Test.YtbkafdphagmgpaaSlots
namespace Go.Proofs.Ytbkafdphagmgpaa
open Go.RowKit
set_option linter.unusedVariables false

theorem szAccessS (w : World) (a : Option Addr) (ca n : Nat) (left : Int) (hn : n ≤ 9223372036854775807) (l0 : 0 ≤ left) (l1 : left ≤ 2000000) :
    Calls Try.prog 40 #[.slice a n ca, .int .i64 left] w fun e w' => e = .returned (.int .i64 (if left - (n : Int) < 0 then -1 else left - (n : Int))) ∧ w' = w := by
  by_cases h : left - (n : Int) < 0
  all_goals
    go_enter Try.func40, Try.ntmps40
    go_wp2
    go_ret
    exact ⟨rfl, rfl⟩
theorem szBus (w : World) (a b : Option Addr) (ca cb n m : Nat) (left : Int) (hn : n ≤ 9223372036854775807) (hm : m ≤ 9223372036854775807) (l0 : 0 ≤ left) (l1 : left ≤ 2000000) :
    Calls Try.prog 18 #[.agg #[.slice a n ca, .slice b m cb], .int .i64 left] w fun e w' => e = .returned (.int .i64 (szB n m left)) ∧ Kept 0 0 w w' := by
  by_cases h : left - (n : Int) < 0
  · have E : Hid (szB n m left = -1) := hide (by simp [szB, h])
    have e1 : (if left - (n : Int) < 0 then (-1 : Int) else left - (n : Int)) = -1 := by simp [h]
    go_enter Try.func18, Try.ntmps18
    go_wp2_with fail
    refine (szIntS _ a ca n left hn l0 l1).mono ?_
    rintro e w' ⟨rfl, rfl⟩
    rw [e1]
    go_wp2_with fail
    go_ret
    exact ⟨rI E.out.symm, kept_alloc _ _⟩
  · have e1 : (if left - (n : Int) < 0 then (-1 : Int) else left - (n : Int)) = left - (n : Int) := by simp [h]
    by_cases h2 : left - (n : Int) - (m : Int) < 0
    · have E : Hid (szB n m left = -1) := hide (by simp [szB, h, h2])
      have e2 : (if left - (n : Int) - (m : Int) < 0 then (-1 : Int) else left - (n : Int) - (m : Int)) = -1 := by simp [h2]
      go_enter Try.func18, Try.ntmps18
      go_wp2_with fail
      refine (szIntS _ a ca n left hn l0 l1).mono ?_
      rintro e w' ⟨rfl, rfl⟩
      rw [e1]
      go_wp2_with fail
      refine (szAccessS _ b cb m (left - (n : Int)) hm (by omega) (by omega)).mono ?_
      rintro e w' ⟨rfl, rfl⟩
      rw [e2]
      go_wp2_with fail
      go_ret
      exact ⟨rI E.out.symm, kept_alloc _ _⟩
    · have E : Hid (szB n m left = left - (n : Int) - (m : Int)) := hide (by simp [szB, h, h2])
      have e2 : (if left - (n : Int) - (m : Int) < 0 then (-1 : Int) else left - (n : Int) - (m : Int)) = left - (n : Int) - (m : Int) := by simp [h2]
      go_enter Try.func18, Try.ntmps18
      go_wp2_with fail
      refine (szIntS _ a ca n left hn l0 l1).mono ?_
      rintro e w' ⟨rfl, rfl⟩
      rw [e1]
      go_wp2_with fail
      refine (szAccessS _ b cb m (left - (n : Int)) hm (by omega) (by omega)).mono ?_
      rintro e w' ⟨rfl, rfl⟩
      rw [e2]
      go_wp2_with fail
      go_ret
      exact ⟨rI E.out.symm, kept_alloc _ _⟩
theorem toBus (w : World) (a b : Option Addr) (ca cb m : Nat) (xs ys : List Int) (ha : IRow w a xs) (hb : IRow w b ys) (lx : xs.length ≤ 2000000) (ly : ys.length = 5 * m) (bm : m ≤ 2000000) :
    Calls Try.prog 20 #[.agg #[.slice a xs.length ca, .slice b m cb]] w fun e w' => ∃ g1 g2 : Nat, e = .returned (.agg #[.slice (some ⟨g1, 0, none⟩) xs.length xs.length, .slice (some ⟨g2, 0, none⟩) m m]) ∧ Own w' g1 xs ∧ Own w' g2 ys ∧ w.heap.size ≤ g1 ∧ g1 < g2 ∧ g2 < w'.heap.size ∧ Kept 0 0 w w' := by
  have HY := hide ly
  have HA := hide ha
  have HB := hide hb
  clear ly ha hb
  go_enter Try.func20, Try.ntmps20
  go_wp2_with fail
  have k0 : Kept 0 0 w (((w.alloc (.cells #[.slice a xs.length ca, .slice b m cb] 35)).alloc (.cells #[.slice none 0 0, .slice none 0 0] 25)).alloc (.cells #[.slice none 0 0, .slice none 0 0] 25)) := kept_new (kept_new (kept_alloc _ _) _) _
  refine (toIntS _ a ca xs (HA.out.keptS k0) lx).mono ?_
  rintro e w1 ⟨rfl, o1, z1, g1⟩
  have k1 := kept_grown g1
  have B0 := ((((Blk.new w #[.slice a xs.length ca, .slice b m cb] 35).alloc (.cells #[.slice none 0 0, .slice none 0 0] 25)).alloc (.cells #[.slice none 0 0, .slice none 0 0] 25)).kept0 k1)
  have B1 := (((Blk.new (w.alloc (.cells #[.slice a xs.length ca, .slice b m cb] 35)) #[.slice none 0 0, .slice none 0 0] 25).alloc (.cells #[.slice none 0 0, .slice none 0 0] 25)).kept0 k1)
  have B2 := ((Blk.new ((w.alloc (.cells #[.slice a xs.length ca, .slice b m cb] 35)).alloc (.cells #[.slice none 0 0, .slice none 0 0] 25)) #[.slice none 0 0, .slice none 0 0] 25).kept0 k1)
  simp only [World.size_alloc] at B1 B2 z1 o1 ⊢
  have c1 := B0.cell (i := 1) rfl
  have d0 := B2.cell (i := 0) rfl
  have d1 := B2.cell (i := 1) rfl
  have f0 := B2.frozen 0
  have f1 := B2.frozen 1
  have HK1 := hide (k0.trans k1)
  have HO1 := hide o1
  have HZ1 := hide z1
  have HB1 := hide B1
  have HB2 := hide B2
  clear k0 k1 g1 o1 z1 B0 B1 B2
  go_wp2_with fail
  obtain ⟨X, hX⟩ : ∃ X : World, X = w1.setCell ⟨w.heap.size + 1 + 1, 0, none⟩ (.slice (some ⟨w.heap.size + 1 + 1 + 1, 0, none⟩) xs.length xs.length) := ⟨_, rfl⟩
  rw [← hX]
  have HKX : Hid (Kept 0 0 w X) := hide (by rw [hX]; exact kept_set HK1.out _ _ _ (.inr (by omega)))
  have HOX : Hid (Own X (w.heap.size + 1 + 1 + 1) xs) := hide (by rw [hX]; exact HO1.out.setOther _ _ _ (by omega))
  have HBX1 : Hid (Blk X (w.heap.size + 1) #[.slice none 0 0, .slice none 0 0] 25) := hide (by rw [hX]; exact HB1.out.other _ _ _ (by omega))
  have HBX2 : Hid (Blk X (w.heap.size + 1 + 1) #[.slice (some ⟨w.heap.size + 1 + 1 + 1, 0, none⟩) xs.length xs.length, .slice none 0 0] 25) := hide (by rw [hX]; exact HB2.out.set _ _)
  have HZX : Hid (w.heap.size + 1 + 1 + 1 < X.heap.size) := hide (by rw [hX]; simpa using HZ1.out)
  clear hX c1 d0 d1 f0 f1 HB1 HB2 HO1 HK1 HZ1
  refine (toAccessS _ b cb m ys (HB.out.keptS HKX.out) HY.out bm).mono ?_
  rintro e w2 ⟨rfl, o2, z2, g2⟩
  have k2 := kept_grown g2
  have HK2 := hide (HKX.out.trans k2)
  have HO1 := hide (HOX.out.keptS k2 (by omega))
  have HO2 := hide o2
  have HZ2 := hide z2
  have B1 := HBX1.out.kept0 k2
  have B2 := HBX2.out.kept0 k2
  have HB1 := hide B1
  have HB2 := hide B2
  have d0 := B2.cell (i := 0) rfl
  have d1 := B2.cell (i := 1) rfl
  have f0 := B2.frozen 0
  have f1 := B2.frozen 1
  have e0 := B1.cell (i := 0) rfl
  have e1 := B1.cell (i := 1) rfl
  have h0 := B1.frozen 0
  have h1 := B1.frozen 1
  clear g2 k2 o2 z2 B1 B2
  go_wp2_with fail
  refine bodyPost_ret (v := .agg #[.slice (some ⟨w.heap.size + 1 + 1 + 1, 0, none⟩) xs.length xs.length, .slice (some ⟨X.heap.size, 0, none⟩) m m]) ?_ rfl ⟨w.heap.size + 1 + 1 + 1, X.heap.size, rfl, ?_, ?_, by omega, HZX.out, ?_, ?_⟩
  · exact results_cell_row rfl _ _ _ _ _ (0, 0) _ rfl ((((HB1.out.other _ _ _ (by omega)).set _ _).set _ _)) Try.underlying25 rfl (by kernel_rfl)
  · exact ((HO1.out.setOther _ _ _ (by omega)).setOther _ _ _ (by omega)).setOther _ _ _ (by omega)
  · have := HZX.out
    exact ((HO2.out.setOther _ _ _ (by omega)).setOther _ _ _ (by omega)).setOther _ _ _ (by omega)
  · simpa using HZ2.out
  · exact kept_set (kept_set (kept_set HK2.out _ _ _ (.inr (by omega))) _ _ _ (.inr (by omega))) _ _ _ (.inr (by omega))
theorem eqBus (w : World) (a b c d : Option Addr) (ca cb cc cd m n : Nat) (xs ys us vs : List Int) (ha : IRow w a xs) (hb : IRow w b ys) (hc : IRow w c us) (hd : IRow w d vs) (lx : xs.length ≤ 2000000) (lu : us.length ≤ 2000000) (ly : ys.length = 5 * m) (lv : vs.length = 5 * n) (bm : m ≤ 2000000) (bn : n ≤ 2000000) :
    Calls Try.prog 13 #[.agg #[.slice a xs.length ca, .slice b m cb], .agg #[.slice c us.length cc, .slice d n cd]] w fun e w' => e = .returned (.bool (decide (xs = us) && decide (ys = vs))) ∧ Kept 0 0 w w' := by
  have HY := hide ly
  have HV := hide lv
  clear ly lv
  have k0 : Kept 0 0 w ((w.alloc (.cells #[.slice a xs.length ca, .slice b m cb] 25)).alloc (.cells #[.slice c us.length cc, .slice d n cd] 25)) := kept_new (kept_alloc _ _) _
  have HK0 := hide k0
  have HA := hide ha
  have HB := hide hb
  have HC := hide hc
  have HD := hide hd
  clear k0 ha hb hc hd
  cases h1 : decide (xs = us)
  · go_enter Try.func13, Try.ntmps13
    go_wp2_with fail
    refine (eqIntS _ a c ca cc xs us (HA.out.keptS HK0.out) (HC.out.keptS HK0.out) lx lu).mono ?_
    rintro e w1 ⟨rfl, g1⟩
    rw [h1]
    have HK1 := hide (HK0.out.trans (kept_grown g1))
    clear g1
    go_wp2_with fail
    go_ret
    exact ⟨rfl, HK1.out⟩
  · go_enter Try.func13, Try.ntmps13
    go_wp2_with fail
    refine (eqIntS _ a c ca cc xs us (HA.out.keptS HK0.out) (HC.out.keptS HK0.out) lx lu).mono ?_
    rintro e w1 ⟨rfl, g1⟩
    rw [h1]
    have k1 := kept_grown g1
    have B0 := ((Blk.new w #[.slice a xs.length ca, .slice b m cb] 25).alloc (.cells #[.slice c us.length cc, .slice d n cd] 25)).kept0 k1
    have B1 := (Blk.new (w.alloc (.cells #[.slice a xs.length ca, .slice b m cb] 25)) #[.slice c us.length cc, .slice d n cd] 25).kept0 k1
    simp only [World.size_alloc] at B1
    have c1 := B0.cell (i := 1) rfl
    have d1 := B1.cell (i := 1) rfl
    have HK1 := hide (HK0.out.trans k1)
    clear g1 k1 B0 B1
    go_wp2_with fail
    refine (eqAccessS _ b d cb cd m n ys vs (HB.out.keptS HK1.out) (HD.out.keptS HK1.out) HY.out HV.out bm bn).mono ?_
    rintro e w2 ⟨rfl, g2⟩
    have HK2 := hide (HK1.out.trans (kept_grown g2))
    clear g2
    cases h2 : decide (ys = vs)
    all_goals
      go_wp2_with fail
      go_ret
      exact ⟨rB (by rw [h2]; rfl), HK2.out⟩

theorem markBus (w : World) (lo hi : Nat) (a b : Option Addr) (ca cb m : Nat) (xs ys : List Int) (q : Int) (ha : SlotIn w lo hi a xs) (hb : SlotIn w lo hi b ys) (hab : ∀ g, blk a = some g → blk b ≠ some g) (hh : hi ≤ w.heap.size) (lx : xs.length ≤ 2000000) (ly : ys.length = 5 * m) (bm : m ≤ 2000000) (q0 : 0 ≤ q) (q1 : q ≤ 1000000) :
    Calls Try.prog 16 #[.agg #[.slice a xs.length ca, .slice b m cb], .int .i64 q] w fun e w' => e = .returned (.int .i64 (q + (xs.length : Int) + 5 * (m : Int))) ∧ SlotIn w' lo hi a (marks q xs.length) ∧ SlotIn w' lo hi b (marks (q + (xs.length : Int)) (5 * m)) ∧ Kept lo hi w w' := by
  have HY := hide ly
  have HA := hide ha
  have HB := hide hb
  have HAB := hide hab
  clear ly ha hb hab
  go_enter Try.func16, Try.ntmps16
  go_wp2_with fail
  have k0 := kept_alloc w (.cells #[.slice a xs.length ca, .slice b m cb] 25)
  have s0 := HA.out.kept k0 (by omega)
  have t0 := HB.out.kept k0 (by omega)
  refine (markSlot _ lo ca a xs q (s0.slot (by simp; omega)) lx q0 (by omega)).mono ?_
  rintro e w1 ⟨rfl, s1, g1⟩
  have k1 := kept_row g1 s0.blk_in
  have s1' := s0.again s1
  have B0 := (Blk.new w #[.slice a xs.length ca, .slice b m cb] 25).kept k1 (by omega)
  have c1 := B0.cell (i := 1) rfl
  have t1 : SlotIn w1 lo hi b ys := by
    rcases t0 with t | ⟨g, eb, b0, b1, ho⟩
    · exact .inl t
    · refine .inr ⟨g, eb, b0, b1, ho.kept g1 ?_⟩
      intro e
      exact HAB.out g e.symm (by rw [eb]; rfl)
  have HK1 := hide ((k0.any (lo := lo) (hi := hi)).trans k1)
  have HS1 := hide s1'
  have HT1 := hide t1
  clear k0 s0 t0 s1 g1 k1 s1' t1 B0
  go_wp2_with fail
  refine (markSlotA _ lo cb m b ys (q + (xs.length : Int)) (HT1.out.slot (Nat.le_trans hh HK1.out.size)) HY.out bm (by omega) (by omega)).mono ?_
  rintro e w2 ⟨rfl, s2, g2⟩
  have k2 := kept_row g2 HT1.out.blk_in
  have HS2 : Hid (SlotIn w2 lo hi a (marks q xs.length)) := hide (by
    rcases HS1.out with t | ⟨g, ea, b0, b1, ho⟩
    · exact .inl t
    · refine .inr ⟨g, ea, b0, b1, ho.kept g2 ?_⟩
      intro e
      exact HAB.out g (by rw [ea]; rfl) e.symm)
  have HT2 := hide (HT1.out.again s2)
  have HK2 := hide (HK1.out.trans k2)
  clear s2 g2 k2
  go_wp2_with fail
  go_ret
  exact ⟨rfl, HS2.out, HT2.out, HK2.out⟩

theorem heldBus (w : World) (a b : Option Addr) (ca cb n m : Nat) (q : Int) (ha : IRow w a (marks q n)) (hb : IRow w b (marks (q + (n : Int)) (5 * m))) (lx : n ≤ 2000000) (bm : m ≤ 2000000) (q0 : 0 ≤ q) (q1 : q ≤ 1000000) :
    Calls Try.prog 17 #[.agg #[.slice a n ca, .slice b m cb], .int .i64 q] w fun e w' => e = .returned (.int .i64 (q + (n : Int) + 5 * (m : Int))) ∧ Kept 0 0 w w' := by
  have k0 := kept_alloc w (.cells #[.slice a n ca, .slice b m cb] 25)
  have HK0 := hide k0
  have HA := hide ha
  have HB := hide hb
  clear k0 ha hb
  go_enter Try.func17, Try.ntmps17
  go_wp2_with fail
  refine (heldIntS _ a ca n q (HA.out.keptS HK0.out) lx q0 (by omega)).mono ?_
  rintro e w1 ⟨rfl, g1⟩
  have k1 := kept_grown g1
  have B0 := (Blk.new w #[.slice a n ca, .slice b m cb] 25).kept0 k1
  have c1 := B0.cell (i := 1) rfl
  have HK1 := hide (HK0.out.trans k1)
  clear g1 k1 B0
  go_wp2_with fail
  refine (heldAccessS _ b cb m (q + (n : Int)) (HB.out.keptS HK1.out) bm (by omega) (by omega)).mono ?_
  rintro e w2 ⟨rfl, g2⟩
  have HK2 := hide (HK1.out.trans (kept_grown g2))
  clear g2
  go_wp2_with fail
  go_ret
  exact ⟨rfl, HK2.out⟩
end Go.Proofs.Ytbkafdphagmgpaa
