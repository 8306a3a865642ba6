/- What the model's Touch answers, for every bus and access. -/
import Derived.Test.YtbkafdphagmgpaaSpecTchC
namespace Go.Proofs.Ytbkafdphagmgpaa
open Go.RowKit
set_option linter.unusedVariables false

theorem l4Touch (w : World) (p base g1 g2 : Nat) (xs ys : List Int) (c1 m c2 : Nat) (k s a v : Int) (hP : Blk w p #[.slice (some ⟨g1, 0, none⟩) 512 c1, .slice (some ⟨g2, 0, none⟩) m c2] 25) (h1 : Own w g1 xs) (lx : xs.length = 512) (hby : Pl.bytesOk xs = true)
    (hO : w.ownsRow base 61 5 (.slice (some ⟨g2, 0, none⟩) m c2) m (ys.map (Value.int .i64))) (hp : base ≤ p) (hg : base ≤ g1) (n1 : p ≠ g1) (n2 : p ≠ g2) (n3 : g1 ≠ g2) (bm : m ≤ 400) (hask : Pl.askOk k s a v = true) :
    Calls Try.prog 48 #[.pointer (some ⟨p, 0, none⟩), .int .i64 k, .int .i64 s, .int .i64 a, .int .i64 v] w fun e w' => ∃ g3 c3 : Nat, e = .returned (.tuple #[.int .i64 (Pl.lv xs k s a v), .int .i64 (Pl.code k s a)]) ∧
      Blk w' p #[.slice (some ⟨g1, 0, none⟩) 512 c1, .slice (some ⟨g3, 0, none⟩) (Pl.nm m k s a) c3] 25 ∧ Own w' g1 (Pl.nb xs k s a v) ∧ Own w' g3 (Pl.nl xs ys m k s a v) ∧ Kept base w.heap.size w w' := by
  obtain ⟨hk13, hs, v0, ⟨a0, a1⟩, hkv⟩ := Pl.ask_ok hask
  by_cases hc : Pl.code k s a = 0
  · have hlow := Pl.code_low hc a0
    obtain ⟨n, rfl⟩ : ∃ n : Nat, a = (n : Int) := ⟨a.toNat, by omega⟩
    by_cases h2 : k = 2
    · subst h2
      rcases hs with ⟨rfl, hv⟩ | ⟨rfl, hv⟩
      · exact l4Touch_B1 w p base g1 g2 xs ys c1 m c2 n v hP h1 lx hby hO hp hg n1 n2 n3 bm (hide hc.symm) (by omega) v0 hv
      · exact l4Touch_B2 w p base g1 g2 xs ys c1 m c2 n v hP h1 lx hby hO hp hg n1 n2 n3 bm (hide hc.symm) (by omega) v0 hv
    · obtain rfl : v = 0 := by omega
      obtain ⟨t, rfl⟩ : ∃ t : Nat, s = (t : Int) := ⟨s.toNat, by omega⟩
      exact l4Touch_C w p base g1 g2 xs ys c1 m c2 k t n hP h1 lx hby hO hp hg n1 n2 n3 bm (hide hc.symm) (by simpa using h2) (by omega) (by omega) (by omega)
  · by_cases h2 : k = 2
    · subst h2
      exact l4Touch_A2 w p base g1 g2 xs ys c1 m c2 s a v _ hP h1 lx hby hO hp hg n1 n2 n3 bm (hide rfl) (by simpa using hc) (by omega) (by omega) a0 a1
    · obtain rfl : v = 0 := by omega
      exact l4Touch_A1 w p base g1 g2 xs ys c1 m c2 k s a _ hP h1 lx hby hO hp hg n1 n2 n3 bm (hide rfl) (by simpa using hc) (by omega) (by omega) a0 a1 (by simpa using h2)

set_option maxRecDepth 100000 in
set_option maxHeartbeats 8000000 in
theorem specTouch_good (w : World) (a b : Option Addr) (ca cb m : Nat) (xs ys : List Int) (k s q v : Int) (ha : IRow w a xs) (hb : IRow w b ys) (lx : xs.length ≤ 2000000) (ly : ys.length = 5 * m) (bm : m ≤ 2000000) (hgood : Pl.goodBus xs ys m = true) (hask : Pl.askOk k s q v = true) (T : Int) (HT : Hid (T = if k = 2 then 0 else Pl.lv xs k s q v)) :
    Calls Try.prog 22 #[.agg #[.slice a xs.length ca, .slice b m cb], .int .i64 k, .int .i64 s, .int .i64 q, .int .i64 v] w fun e w' => ∃ g1 d1 g2 d2 : Nat, e = .returned (.tuple #[.agg #[.slice (some ⟨g1, 0, none⟩) 512 d1, .slice (some ⟨g2, 0, none⟩) (Pl.nm m k s q) d2], .int .i64 T, .int .i64 (Pl.code k s q), .bool true]) ∧ Own w' g1 (Pl.nb xs k s q v) ∧ Own w' g2 (Pl.nl xs ys m k s q v) ∧ w.heap.size ≤ g1 ∧ g1 < w'.heap.size ∧ w.heap.size ≤ g2 ∧ g2 < w'.heap.size ∧ g1 ≠ g2 ∧ Kept 0 0 w w' := by
  obtain ⟨l5, hbytes, m400, _⟩ := Pl.goodBus_ok hgood
  obtain ⟨hk13, hs, v0, ⟨q0, q1⟩, hkv⟩ := Pl.ask_ok hask
  have e1 : (decide (1 ≤ k) && decide (k ≤ 3)) = true := by simp; omega
  have e2 : Pl.okv s v = true := by simp only [Pl.askOk, Bool.and_eq_true] at hask; exact hask.2.1
  have e3 : Pl.addr q = true := by simp only [Pl.askOk, Bool.and_eq_true] at hask; exact hask.2.2.1
  have HA := hide ha
  have HB := hide hb
  have HY := hide ly
  have L5 := hide l5
  have HBY := hide hbytes
  have HASK := hide hask
  have K0 := hide (kept_new (kept_alloc w (.cells #[.slice a xs.length ca, .slice b m cb] 25)) (.cells #[.slice none 0 0, .slice none 0 0] 25))
  have R0 := Blk.new (w.alloc (.cells #[.slice a xs.length ca, .slice b m cb] 25)) #[.slice none 0 0, .slice none 0 0] 25
  have P1 := hide ((Blk.new w #[.slice a xs.length ca, .slice b m cb] 25).alloc (.cells #[.slice none 0 0, .slice none 0 0] 25))
  simp only [World.size_alloc] at R0
  have R1 := hide R0
  have X0 : Hid (0 < xs.length) := hide (by omega)
  clear ha hb ly R0 l5 hbytes hask
  cases g2 : (k != 2)
  · have hk2 : (k == 2) = true := by simpa using g2
    have HT2 : Hid (T = 0) := hide (by rw [HT.out, if_pos (by simpa using hk2)])
    go_enter Try.func22, Try.ntmps22
    go_wp2_with (first
      | (go_at_call 19; refine (specGoodBus _ a b ca cb m xs ys (HA.out.keptS K0.out) (HB.out.keptS K0.out) lx HY.out bm).mono ?_; rintro e w1 ⟨rfl, k1⟩; rw [hgood]; have R2 := hide (R1.out.kept0 k1); have P2 := hide (P1.out.kept0 k1); have K1 := hide (K0.out.trans k1); have p0 := P2.out.cell (i := 0) rfl; have p1 := P2.out.cell (i := 1) rfl; clear k1)
      | (go_at_call 44; refine (l1In _ _ _ _).mono ?_; rintro e w9 ⟨rfl, hw⟩; have hw2 := hw.symm; clear hw; subst hw2; rw [e1])
      | (go_at_call 45; refine (l1Value _ _ _).mono ?_; rintro e w9 ⟨rfl, hw⟩; have hw2 := hw.symm; clear hw; subst hw2; rw [e2])
      | (go_at_call 46; refine (l4Addr _ _).mono ?_; rintro e w9 ⟨rfl, hw⟩; have hw2 := hw.symm; clear hw; subst hw2; rw [e3]))
    clear p0 p1
    refine (l4Own w1 a b ca cb m xs ys (HA.out.keptS K1.out) (HB.out.keptS K1.out) lx HY.out bm X0.out).mono ?_
    rintro e w2 ⟨h1, d1, h2, d2, rfl, o1, o2, hne, k2⟩
    rw [L5.out] at o1
    obtain ⟨l1, l2⟩ := o1.lt h1 rfl
    obtain ⟨l3, l4⟩ := o2.lt h2 rfl
    have n1 : w.heap.size + 1 < w1.heap.size := R2.out.lt
    have n2 := k2.size
    have s1 := K1.out.size
    have PX := hide (Blk.new w2 #[.slice (some ⟨h1, 0, none⟩) 512 d1, .slice (some ⟨h2, 0, none⟩) m d2] 25)
    have EX := hide ((own_of_row o1).keptS (kept_alloc w2 (.cells #[.slice (some ⟨h1, 0, none⟩) 512 d1, .slice (some ⟨h2, 0, none⟩) m d2] 25)) (by omega))
    have OX := hide (o2.alloc (.cells #[.slice (some ⟨h1, 0, none⟩) 512 d1, .slice (some ⟨h2, 0, none⟩) m d2] 25))
    have RX := hide ((R2.out.kept0 k2).alloc (.cells #[.slice (some ⟨h1, 0, none⟩) 512 d1, .slice (some ⟨h2, 0, none⟩) m d2] 25))
    have KX := hide (kept_new (K1.out.trans k2) (.cells #[.slice (some ⟨h1, 0, none⟩) 512 d1, .slice (some ⟨h2, 0, none⟩) m d2] 25))
    clear o1 o2 k2
    rw [show xs.length = 512 from L5.out]
    go_wp2_with fail
    obtain ⟨X, hX⟩ : ∃ X : World, X = w2.alloc (.cells #[.slice (some ⟨h1, 0, none⟩) 512 d1, .slice (some ⟨h2, 0, none⟩) m d2] 25) := ⟨_, rfl⟩
    rw [← hX] at PX EX OX RX KX ⊢
    clear hX
    refine (l4Touch X w2.heap.size w1.heap.size h1 h2 xs ys d1 m d2 k s q v PX.out EX.out L5.out HBY.out OX.out (by omega) (by omega) (by omega) (by omega) hne m400 HASK.out).mono ?_
    rintro e w3 ⟨h3, d3, rfl, hp3, he3, hl3, hk3⟩
    have R3 := hide (RX.out.kept hk3 (by omega))
    have K3 := hide (kept_over KX.out hk3 (by omega))
    have P3 := hide hp3
    have E3 := hide he3
    have L3 := hide hl3
    have p0 := hp3.cell (i := 0) rfl
    have p1 := hp3.cell (i := 1) rfl
    have n3 := hk3.size
    have n4 := PX.out.lt
    clear hp3 he3 hl3 hk3
    have LB : Hid ((Pl.nb xs k s q v).length = 512) := hide (by rw [Pl.nb_len]; exact L5.out)
    have LB2 : Hid ((Pl.nb xs k s q v).length ≤ 2000000) := hide (by rw [LB.out]; decide)
    have LB0 : Hid (0 < (Pl.nb xs k s q v).length) := hide (by rw [LB.out]; decide)
    have LM : Hid (Pl.nm m k s q ≤ 2000000) := hide (Nat.le_trans (Pl.nm_le k s q m400) (by decide))
    go_wp2_with fail
    have LC := l4Own w3 (some ⟨h1, 0, none⟩) (some ⟨h3, 0, none⟩) d1 d3 (Pl.nm m k s q) (Pl.nb xs k s q v) (Pl.nl xs ys m k s q v) E3.out.row L3.out.row LB2.out (Pl.nl_len k s q v HY.out) LM.out LB0.out
    rw [LB.out] at LC
    refine LC.mono ?_
    clear LC p0 p1
    rintro e w4 ⟨j1, f1, j2, f2, rfl, o1, o2, hne2, k4⟩
    have R4 := hide (R3.out.kept0 k4)
    have K4 := hide (K3.out.trans k4)
    obtain ⟨l5, l6⟩ := o1.lt j1 rfl
    obtain ⟨l7, l8⟩ := o2.lt j2 rfl
    have O1 := hide (own_of_row o1)
    have O2 := hide (own_of_row5 o2)
    have r0 := R4.out.cell (i := 0) rfl
    have r1 := R4.out.cell (i := 1) rfl
    have u0 := R4.out.frozen 0
    have u1 := R4.out.frozen 1
    clear o1 o2 k4
    go_wp2_with fail
    refine bodyPost_ret (v := .tuple #[.agg #[.slice (some ⟨j1, 0, none⟩) 512 f1, .slice (some ⟨j2, 0, none⟩) (Pl.nm m k s q) f2], .int .i64 T, .int .i64 (Pl.code k s q), .bool true]) ?_ rfl ⟨j1, f1, j2, f2, rfl, ?_, ?_, by omega, by simp; omega, by omega, by simp; omega, hne2, ?_⟩
    · rw [results_cell_tmp3 rfl, HT2.out]; go_simp
    · exact (O1.out.setOther _ _ _ (by omega)).setOther _ _ _ (by omega)
    · exact (O2.out.setOther _ _ _ (by omega)).setOther _ _ _ (by omega)
    · exact kept_set (kept_set K4.out _ _ _ (.inr (by omega))) _ _ _ (.inr (by omega))
  · have g3 : (v != 0) = false := by simp at g2; simp; omega
    have hk2 : (k == 2) = false := by simpa using g2
    have HT2 : Hid (T = Pl.lv xs k s q v) := hide (by rw [HT.out, if_neg (by simpa using hk2)])
    go_enter Try.func22, Try.ntmps22
    go_wp2_with (first
      | (go_at_call 19; refine (specGoodBus _ a b ca cb m xs ys (HA.out.keptS K0.out) (HB.out.keptS K0.out) lx HY.out bm).mono ?_; rintro e w1 ⟨rfl, k1⟩; rw [hgood]; have R2 := hide (R1.out.kept0 k1); have P2 := hide (P1.out.kept0 k1); have K1 := hide (K0.out.trans k1); have p0 := P2.out.cell (i := 0) rfl; have p1 := P2.out.cell (i := 1) rfl; clear k1)
      | (go_at_call 44; refine (l1In _ _ _ _).mono ?_; rintro e w9 ⟨rfl, hw⟩; have hw2 := hw.symm; clear hw; subst hw2; rw [e1])
      | (go_at_call 45; refine (l1Value _ _ _).mono ?_; rintro e w9 ⟨rfl, hw⟩; have hw2 := hw.symm; clear hw; subst hw2; rw [e2])
      | (go_at_call 46; refine (l4Addr _ _).mono ?_; rintro e w9 ⟨rfl, hw⟩; have hw2 := hw.symm; clear hw; subst hw2; rw [e3]))
    clear p0 p1
    refine (l4Own w1 a b ca cb m xs ys (HA.out.keptS K1.out) (HB.out.keptS K1.out) lx HY.out bm X0.out).mono ?_
    rintro e w2 ⟨h1, d1, h2, d2, rfl, o1, o2, hne, k2⟩
    rw [L5.out] at o1
    obtain ⟨l1, l2⟩ := o1.lt h1 rfl
    obtain ⟨l3, l4⟩ := o2.lt h2 rfl
    have n1 : w.heap.size + 1 < w1.heap.size := R2.out.lt
    have n2 := k2.size
    have s1 := K1.out.size
    have PX := hide (Blk.new w2 #[.slice (some ⟨h1, 0, none⟩) 512 d1, .slice (some ⟨h2, 0, none⟩) m d2] 25)
    have EX := hide ((own_of_row o1).keptS (kept_alloc w2 (.cells #[.slice (some ⟨h1, 0, none⟩) 512 d1, .slice (some ⟨h2, 0, none⟩) m d2] 25)) (by omega))
    have OX := hide (o2.alloc (.cells #[.slice (some ⟨h1, 0, none⟩) 512 d1, .slice (some ⟨h2, 0, none⟩) m d2] 25))
    have RX := hide ((R2.out.kept0 k2).alloc (.cells #[.slice (some ⟨h1, 0, none⟩) 512 d1, .slice (some ⟨h2, 0, none⟩) m d2] 25))
    have KX := hide (kept_new (K1.out.trans k2) (.cells #[.slice (some ⟨h1, 0, none⟩) 512 d1, .slice (some ⟨h2, 0, none⟩) m d2] 25))
    clear o1 o2 k2
    rw [show xs.length = 512 from L5.out]
    go_wp2_with fail
    obtain ⟨X, hX⟩ : ∃ X : World, X = w2.alloc (.cells #[.slice (some ⟨h1, 0, none⟩) 512 d1, .slice (some ⟨h2, 0, none⟩) m d2] 25) := ⟨_, rfl⟩
    rw [← hX] at PX EX OX RX KX ⊢
    clear hX
    refine (l4Touch X w2.heap.size w1.heap.size h1 h2 xs ys d1 m d2 k s q v PX.out EX.out L5.out HBY.out OX.out (by omega) (by omega) (by omega) (by omega) hne m400 HASK.out).mono ?_
    rintro e w3 ⟨h3, d3, rfl, hp3, he3, hl3, hk3⟩
    have R3 := hide (RX.out.kept hk3 (by omega))
    have K3 := hide (kept_over KX.out hk3 (by omega))
    have P3 := hide hp3
    have E3 := hide he3
    have L3 := hide hl3
    have p0 := hp3.cell (i := 0) rfl
    have p1 := hp3.cell (i := 1) rfl
    have n3 := hk3.size
    have n4 := PX.out.lt
    clear hp3 he3 hl3 hk3
    have LB : Hid ((Pl.nb xs k s q v).length = 512) := hide (by rw [Pl.nb_len]; exact L5.out)
    have LB2 : Hid ((Pl.nb xs k s q v).length ≤ 2000000) := hide (by rw [LB.out]; decide)
    have LB0 : Hid (0 < (Pl.nb xs k s q v).length) := hide (by rw [LB.out]; decide)
    have LM : Hid (Pl.nm m k s q ≤ 2000000) := hide (Nat.le_trans (Pl.nm_le k s q m400) (by decide))
    go_wp2_with fail
    have LC := l4Own w3 (some ⟨h1, 0, none⟩) (some ⟨h3, 0, none⟩) d1 d3 (Pl.nm m k s q) (Pl.nb xs k s q v) (Pl.nl xs ys m k s q v) E3.out.row L3.out.row LB2.out (Pl.nl_len k s q v HY.out) LM.out LB0.out
    rw [LB.out] at LC
    refine LC.mono ?_
    clear LC p0 p1
    rintro e w4 ⟨j1, f1, j2, f2, rfl, o1, o2, hne2, k4⟩
    have R4 := hide (R3.out.kept0 k4)
    have K4 := hide (K3.out.trans k4)
    obtain ⟨l5, l6⟩ := o1.lt j1 rfl
    obtain ⟨l7, l8⟩ := o2.lt j2 rfl
    have O1 := hide (own_of_row o1)
    have O2 := hide (own_of_row5 o2)
    have r0 := R4.out.cell (i := 0) rfl
    have r1 := R4.out.cell (i := 1) rfl
    have u0 := R4.out.frozen 0
    have u1 := R4.out.frozen 1
    clear o1 o2 k4
    go_wp2_with fail
    refine bodyPost_ret (v := .tuple #[.agg #[.slice (some ⟨j1, 0, none⟩) 512 f1, .slice (some ⟨j2, 0, none⟩) (Pl.nm m k s q) f2], .int .i64 T, .int .i64 (Pl.code k s q), .bool true]) ?_ rfl ⟨j1, f1, j2, f2, rfl, ?_, ?_, by omega, by simp; omega, by omega, by simp; omega, hne2, ?_⟩
    · rw [results_cell_tmp3 rfl, HT2.out]; go_simp
    · exact (O1.out.setOther _ _ _ (by omega)).setOther _ _ _ (by omega)
    · exact (O2.out.setOther _ _ _ (by omega)).setOther _ _ _ (by omega)
    · exact kept_set (kept_set K4.out _ _ _ (.inr (by omega))) _ _ _ (.inr (by omega))
end Go.Proofs.Ytbkafdphagmgpaa
