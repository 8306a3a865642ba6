/- What the program's Touch answers, for every bus and access. -/
import Derived.Test.YtbkafdphagmgpaaImplTch4
namespace Go.Proofs.Ytbkafdphagmgpaa
open Go.RowKit
set_option linter.unusedVariables false

theorem Pl.ask_acc (k s a v : Int) : (Pl.isAcc k s a v 0 && ((k == 2) || (v == 0))) = Pl.askOk k s a v := by
  unfold Pl.isAcc Pl.askOk
  rw [show (decide ((0 : Int) ≤ 0) && decide ((0 : Int) ≤ 3)) = true from rfl, Bool.and_true]
  cases Pl.okv s v <;> cases Pl.accKind k <;> cases Pl.addr a <;> rfl

set_option maxRecDepth 100000 in
set_option maxHeartbeats 8000000 in
theorem touch_bad (w : World) (a b : Option Addr) (ca cb m : Nat) (xs ys : List Int) (k s q v : Int) (ha : Came w a xs) (hb : Came w b ys) (lx : xs.length ≤ 2000000) (ly : ys.length = 5 * m) (bm : m ≤ 2000000) (lo : -9223372036854775808 ≤ v) (hi : v ≤ 9223372036854775807) (hno : Pl.tOk xs ys m k s q v = false) :
    Calls Try.prog 23 #[.agg #[.slice a xs.length ca, .slice b m cb], .int .i64 k, .int .i64 s, .int .i64 q, .int .i64 v] w fun e w' => e = .returned (.tuple #[.agg #[.slice none 0 0, .slice none 0 0], .int .i64 0, .int .i64 0, .bool false]) ∧ Kept 0 0 w w' := by
  have HA := hide ha
  have HB := hide hb
  have HY := hide ly
  have K0 := hide (kept_new (kept_new (kept_alloc w (.cells #[.slice a xs.length ca, .slice b m cb] 25)) (.cells #[.slice none 0 0, .slice none 0 0] 25)) (.cells #[.int .i64 k, .int .i64 s, .int .i64 q, .int .i64 v, .int .i64 0] 61))
  have R0 := Blk.new (w.alloc (.cells #[.slice a xs.length ca, .slice b m cb] 25)) #[.slice none 0 0, .slice none 0 0] 25
  have A0 := Blk.new ((w.alloc (.cells #[.slice a xs.length ca, .slice b m cb] 25)).alloc (.cells #[.slice none 0 0, .slice none 0 0] 25)) #[.int .i64 k, .int .i64 s, .int .i64 q, .int .i64 v, .int .i64 0] 61
  simp only [World.size_alloc] at R0 A0
  have R1 := hide (R0.alloc (.cells #[.int .i64 k, .int .i64 s, .int .i64 q, .int .i64 v, .int .i64 0] 61))
  have A1 := hide A0
  have HACC := hide (Pl.ask_acc k s q v)
  clear ha hb ly R0 A0
  cases h1 : Pl.goodBus xs ys m
  · go_enter Try.func23, Try.ntmps23
    go_wp2_with (go_at_call 21; refine (goodBus _ a b ca cb m xs ys (HA.out.keptS K0.out) (HB.out.keptS K0.out) lx HY.out bm).mono ?_; rintro e w1 ⟨rfl, k1⟩; rw [h1]; have R2 := hide (R1.out.kept0 k1); have r0 := R2.out.cell (i := 0) rfl; have r1 := R2.out.cell (i := 1) rfl; have f0 := R2.out.frozen 0; have f1 := R2.out.frozen 1)
    refine bodyPost_ret (v := .tuple #[.agg #[.slice none 0 0, .slice none 0 0], .int .i64 0, .int .i64 0, .bool false]) ?_ rfl ⟨rfl, ?_⟩
    · rw [results_cell_tmp3 rfl]; go_simp
    · exact kept_set (kept_set (K0.out.trans k1) _ _ _ (.inr (by omega))) _ _ _ (.inr (by omega))
  · have h2 : Pl.askOk k s q v = false := by unfold Pl.tOk at hno; rw [h1, Bool.true_and] at hno; exact hno
    clear hno
    go_enter Try.func23, Try.ntmps23
    go_wp2_with (first
      | (go_at_call 21; refine (goodBus _ a b ca cb m xs ys (HA.out.keptS K0.out) (HB.out.keptS K0.out) lx HY.out bm).mono ?_; rintro e w1 ⟨rfl, k1⟩; rw [h1]; have R2 := hide (R1.out.kept0 k1); have A2 := hide (A1.out.kept0 k1); have z0 := A2.out.cell (i := 0) rfl; have z1 := A2.out.cell (i := 1) rfl; have z2 := A2.out.cell (i := 2) rfl; have z3 := A2.out.cell (i := 3) rfl; have z4 := A2.out.cell (i := 4) rfl)
      | (go_at_call 49; refine (isAsked k s q v 0 _ lo hi).mono ?_; rintro e w2 ⟨rfl, o, p, rfl⟩; rw [HACC.out, h2]; have R3 := hide ((R2.out.alloc o).alloc p); have r0 := R3.out.cell (i := 0) rfl; have r1 := R3.out.cell (i := 1) rfl; have f0 := R3.out.frozen 0; have f1 := R3.out.frozen 1))
    refine bodyPost_ret (v := .tuple #[.agg #[.slice none 0 0, .slice none 0 0], .int .i64 0, .int .i64 0, .bool false]) ?_ rfl ⟨rfl, ?_⟩
    · rw [results_cell_tmp3 rfl]; go_simp
    · exact kept_set (kept_set (kept_new (kept_new (K0.out.trans k1) _) _) _ _ _ (.inr (by omega))) _ _ _ (.inr (by omega))

set_option maxRecDepth 100000 in
set_option maxHeartbeats 8000000 in
theorem touch_good (w : World) (a b : Option Addr) (ca cb m : Nat) (xs ys : List Int) (k s q v : Int) (ha : Came w a xs) (hb : Came w b ys) (lx : xs.length ≤ 2000000) (ly : ys.length = 5 * m) (bm : m ≤ 2000000) (lo : -9223372036854775808 ≤ v) (hi : v ≤ 9223372036854775807) (hgood : Pl.goodBus xs ys m = true) (hask : Pl.askOk k s q v = true) (T : Int) (HT : Hid (T = if k = 2 then 0 else Pl.lv xs k s q v)) :
    Calls Try.prog 23 #[.agg #[.slice a xs.length ca, .slice b m cb], .int .i64 k, .int .i64 s, .int .i64 q, .int .i64 v] w fun e w' => ∃ g1 g2 c2 : Nat, e = .returned (.tuple #[.agg #[.slice (some ⟨g1, 0, none⟩) 512 512, .slice (some ⟨g2, 0, none⟩) (Pl.nm m k s q) c2], .int .i64 T, .int .i64 (Pl.code k s q), .bool true]) ∧ Own w' g1 (Pl.nb xs k s q v) ∧ Own w' g2 (Pl.nl xs ys m k s q v) ∧ w.heap.size ≤ g1 ∧ g1 < w'.heap.size ∧ w.heap.size ≤ g2 ∧ g2 < w'.heap.size ∧ g1 ≠ g2 ∧ Kept 0 0 w w' := by
  obtain ⟨l5, hbytes, m400, _⟩ := Pl.goodBus_ok hgood
  have HA := hide ha
  have HB := hide hb
  have HY := hide ly
  have L5 := hide l5
  have HBY := hide hbytes
  have K0 := hide (kept_new (kept_new (kept_alloc w (.cells #[.slice a xs.length ca, .slice b m cb] 25)) (.cells #[.slice none 0 0, .slice none 0 0] 25)) (.cells #[.int .i64 k, .int .i64 s, .int .i64 q, .int .i64 v, .int .i64 0] 61))
  have R0 := Blk.new (w.alloc (.cells #[.slice a xs.length ca, .slice b m cb] 25)) #[.slice none 0 0, .slice none 0 0] 25
  have A0 := Blk.new ((w.alloc (.cells #[.slice a xs.length ca, .slice b m cb] 25)).alloc (.cells #[.slice none 0 0, .slice none 0 0] 25)) #[.int .i64 k, .int .i64 s, .int .i64 q, .int .i64 v, .int .i64 0] 61
  have P1 := hide (((Blk.new w #[.slice a xs.length ca, .slice b m cb] 25).alloc (.cells #[.slice none 0 0, .slice none 0 0] 25)).alloc (.cells #[.int .i64 k, .int .i64 s, .int .i64 q, .int .i64 v, .int .i64 0] 61))
  simp only [World.size_alloc] at R0 A0
  have R1 := hide (R0.alloc (.cells #[.int .i64 k, .int .i64 s, .int .i64 q, .int .i64 v, .int .i64 0] 61))
  have A1 := hide A0
  have HACC := hide (Pl.ask_acc k s q v)
  have HASK := hide hask
  have bz := Try.boardZero
  clear ha hb ly R0 A0 l5 hbytes
  go_enter Try.func23, Try.ntmps23
  go_wp2_with (first
    | (go_at_call 21; refine (goodBus _ a b ca cb m xs ys (HA.out.keptS K0.out) (HB.out.keptS K0.out) lx HY.out bm).mono ?_; rintro e w1 ⟨rfl, k1⟩; rw [hgood]; have R2 := hide (R1.out.kept0 k1); have P2 := hide (P1.out.kept0 k1); have A2 := hide (A1.out.kept0 k1); have z0 := A2.out.cell (i := 0) rfl; have z1 := A2.out.cell (i := 1) rfl; have z2 := A2.out.cell (i := 2) rfl; have z3 := A2.out.cell (i := 3) rfl; have z4 := A2.out.cell (i := 4) rfl; have K1 := hide (K0.out.trans k1); clear k1)
    | (go_at_call 49; refine (isAsked k s q v 0 _ lo hi).mono ?_; rintro e w2 ⟨rfl, o, p, rfl⟩; rw [HACC.out, hask]; have R3 := hide ((R2.out.alloc o).alloc p); have P3 := hide ((P2.out.alloc o).alloc p); have A3 := hide ((A2.out.alloc o).alloc p); have K3 := hide (kept_new (kept_new K1.out o) p); have p0 := P3.out.cell (i := 0) rfl; have p1 := P3.out.cell (i := 1) rfl))
  clear z0 z1 z2 z3 z4 p0 p1
  obtain ⟨W3, hW3⟩ : ∃ W : World, W = (w1.alloc o).alloc p := ⟨_, rfl⟩
  rw [← hW3] at R3 P3 A3 K3 ⊢
  clear hW3
  refine (boardOf W3 a b ca cb m xs ys (HA.out.keptS K3.out).1 (HB.out.keptS K3.out).1 L5.out HY.out m400).mono ?_
  rintro e w4 ⟨gl, rfl, hb4, hg4, k4⟩
  have lgl := hb4.lt
  have n3 : w.heap.size + 1 + 1 < W3.heap.size := A3.out.lt
  have n4 := k4.size
  have BX := hide ((Blk.new w4 (brd zeros (.slice none 0 0)) 71).setRow (ds := brd xs (.slice (some ⟨gl, 0, none⟩) m m)))
  have LX := hide ((hb4.alloc (.cells (brd zeros (.slice none 0 0)) 71)).setRowOther (g := w4.heap.size) (ds := brd xs (.slice (some ⟨gl, 0, none⟩) m m)) (by omega))
  have AX := hide (((A3.out.kept0 k4).alloc (.cells (brd zeros (.slice none 0 0)) 71)).setRowOther (g := w4.heap.size) (ds := brd xs (.slice (some ⟨gl, 0, none⟩) m m)) (by omega))
  have RX := hide (((R3.out.kept0 k4).alloc (.cells (brd zeros (.slice none 0 0)) 71)).setRowOther (g := w4.heap.size) (ds := brd xs (.slice (some ⟨gl, 0, none⟩) m m)) (by omega))
  have KX := hide (kept_setRow (kept_new (K3.out.trans k4) (.cells (brd zeros (.slice none 0 0)) 71)) w4.heap.size (brd xs (.slice (some ⟨gl, 0, none⟩) m m)) (by omega))
  obtain ⟨X, hX⟩ : ∃ X : World, X = (w4.alloc (.cells (brd zeros (.slice none 0 0)) 71)).setRow w4.heap.size (brd xs (.slice (some ⟨gl, 0, none⟩) m m)) := ⟨_, rfl⟩
  rw [← hX] at BX LX AX RX KX
  have x0 := AX.out.cell (i := 0) rfl
  have x1 := AX.out.cell (i := 1) rfl
  have x2 := AX.out.cell (i := 2) rfl
  have x3 := AX.out.cell (i := 3) rfl
  have x4 := AX.out.cell (i := 4) rfl
  rw [hX] at x0 x1 x2 x3 x4
  have HZ : Hid ((Try.prog.info? 71).map (·.size) = some (brd xs (.slice (some ⟨gl, 0, none⟩) m m)).size) := hide (by rw [brd_size, L5.out]; exact Try.boardSize)
  have HZ2 : Hid ((brd zeros (.slice none 0 0)).size = (brd xs (.slice (some ⟨gl, 0, none⟩) m m)).size) := hide (by rw [brd_size, brd_size, L5.out, zeros_len])
  clear hb4 k4
  go_wp2_with (refine wpList_store_row rfl 71 (.tmp 15) (.tmp 33) rfl w4.heap.size (brd xs (.slice (some ⟨gl, 0, none⟩) m m)) rfl rfl 71 (brd zeros (.slice none 0 0)) (Blk.new w4 _ _) HZ.out HZ2.out (brd_one _ _ rfl) ?_)
  rw [← hX]
  clear hX x0 x1 x2 x3 x4
  refine (touch X w4.heap.size W3.heap.size gl xs ys m m k s q v BX.out L5.out HBY.out (own5_of_blk LX.out HY.out hg4 bm) (by omega) (by omega) m400 HASK.out T HT).mono ?_
  rintro e w5 ⟨g3, c3, rfl, hb5, ho5, hn5, hk5⟩
  obtain ⟨o1, o2⟩ := ho5.lt g3 rfl
  have R5 := hide (RX.out.kept hk5 (by omega))
  have B5 := hide hb5
  have O5 := hide (own_of_row5 ho5)
  have s0 := KX.out.size
  have K5 := hide (kept_over KX.out hk5 (by omega))
  have s5 := hk5.size
  clear hb5 ho5 hk5
  have HNL : Hid ((Pl.nb xs k s q v).length = 512) := hide (by rw [Pl.nb_len]; exact L5.out)
  go_wp2_with fail
  refine (boardBus w5 w4.heap.size (Pl.nb xs k s q v) (some ⟨g3, 0, none⟩) (Pl.nm m k s q) c3 B5.out HNL.out).mono ?_
  rintro e w6 ⟨g, rfl, hb6, hg6, k6⟩
  have R6 := hide (R5.out.kept0 k6)
  have G6 := hide (own_of_blk hb6)
  have lg6 := hb6.lt
  have O6 := hide (O5.out.keptS k6 (by omega))
  have K6 := hide (K5.out.trans k6)
  have s6 := k6.size
  have r0 := R6.out.cell (i := 0) rfl
  have r1 := R6.out.cell (i := 1) rfl
  have f0 := R6.out.frozen 0
  have f1 := R6.out.frozen 1
  clear hb6 k6
  go_wp2_with fail
  refine bodyPost_ret (v := .tuple #[.agg #[.slice (some ⟨g, 0, none⟩) 512 512, .slice (some ⟨g3, 0, none⟩) (Pl.nm m k s q) c3], .int .i64 T, .int .i64 (Pl.code k s q), .bool true]) ?_ rfl ⟨g, g3, c3, rfl, ?_, ?_, by omega, by simp; omega, by omega, by simp; omega, by omega, ?_⟩
  · rw [results_cell_tmp3 rfl]; go_simp
  · exact (G6.out.setOther _ _ _ (by omega)).setOther _ _ _ (by omega)
  · exact (O6.out.setOther _ _ _ (by omega)).setOther _ _ _ (by omega)
  · exact kept_set (kept_set K6.out _ _ _ (.inr (by omega))) _ _ _ (.inr (by omega))

theorem implTouch (w : World) (a b : Option Addr) (ca cb m : Nat) (xs ys : List Int) (k s q v : Int) (ha : Came w a xs) (hb : Came w b ys) (lx : xs.length ≤ 2000000) (ly : ys.length = 5 * m) (bm : m ≤ 2000000) (wf : (Lit.int .i64 v).wf = true) :
    Calls Try.prog 23 #[.agg #[.slice a xs.length ca, .slice b m cb], .int .i64 k, .int .i64 s, .int .i64 q, .int .i64 v] w fun e w' => ∃ (b1 b2 : Option Addr) (c1 c2 : Nat), e = .returned (.tuple #[.agg #[.slice b1 (Pl.tB xs ys m k s q v).length c1, .slice b2 (Pl.tN xs ys m k s q v) c2], .int .i64 (Pl.tV xs ys m k s q v), .int .i64 (Pl.tC xs ys m k s q v), .bool (Pl.tOk xs ys m k s q v)]) ∧
      SlotIn w' w.heap.size w'.heap.size b1 (Pl.tB xs ys m k s q v) ∧ SlotIn w' w.heap.size w'.heap.size b2 (Pl.tL xs ys m k s q v) ∧ (∀ g, blk b1 = some g → blk b2 ≠ some g) ∧ Kept 0 0 w w' := by
  obtain ⟨lo, hi⟩ := bounds_i64 wf
  cases h : Pl.tOk xs ys m k s q v
  · refine (touch_bad w a b ca cb m xs ys k s q v ha hb lx ly bm lo hi h).mono ?_
    rintro e w' ⟨rfl, kk⟩
    refine ⟨none, none, 0, 0, ?_, .inl ⟨rfl, by simp [Pl.tB, h]⟩, .inl ⟨rfl, by simp [Pl.tL, h]⟩, by intro g hg; simp [blk] at hg, kk⟩
    simp [Pl.tB, Pl.tN, Pl.tV, Pl.tC, h]
  · have hg : Pl.goodBus xs ys m = true := by simp only [Pl.tOk, Bool.and_eq_true] at h; exact h.1
    have hk : Pl.askOk k s q v = true := by simp only [Pl.tOk, Bool.and_eq_true] at h; exact h.2
    have e1 : Pl.tB xs ys m k s q v = Pl.nb xs k s q v := by simp [Pl.tB, h]
    have e2 : Pl.tL xs ys m k s q v = Pl.nl xs ys m k s q v := by simp [Pl.tL, h]
    have e3 : Pl.tN xs ys m k s q v = Pl.nm m k s q := by simp [Pl.tN, h]
    have e4 : Pl.tC xs ys m k s q v = Pl.code k s q := by simp [Pl.tC, h]
    have e5 : Pl.tV xs ys m k s q v = if k = 2 then 0 else Pl.lv xs k s q v := by simp [Pl.tV, h]
    refine (touch_good w a b ca cb m xs ys k s q v ha hb lx ly bm lo hi hg hk (Pl.tV xs ys m k s q v) (hide e5)).mono ?_
    rintro e w' ⟨g1, g2, c2, rfl, p1, p2, p3, p4, p5, p6, p7, kk⟩
    refine ⟨some ⟨g1, 0, none⟩, some ⟨g2, 0, none⟩, 512, c2, ?_, ?_, ?_, ?_, kk⟩
    · rw [e1, e3, e4, Pl.nb_len, (Pl.goodBus_ok hg).1]
    · rw [e1]; exact .inr ⟨g1, rfl, p3, p4, p1⟩
    · rw [e2]; exact .inr ⟨g2, rfl, p5, p6, p2⟩
    · intro g hg hh
      simp [blk] at hg hh
      omega
end Go.Proofs.Ytbkafdphagmgpaa
