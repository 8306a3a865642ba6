/- What the program's PlaceOf answers, for every argument. -/
import Derived.Test.YtikmelkobbbgnaaImplRegJ
import Derived.Test.YtikmelkobbbgnaaImplRegK2
import Derived.Test.YtikmelkobbbgnaaImplRegK3
import Derived.Test.YtikmelkobbbgnaaImplRegK4
import Derived.Test.YtikmelkobbbgnaaImplRegK5
import Derived.Test.YtikmelkobbbgnaaSpecReg7
namespace Go.Proofs.Ytikmelkobbbgnaa
open Go.RowKit
set_option linter.unusedVariables false
theorem placeR_len {d : Pl.Rg} (g : Pl.Good d) (z m k e : Int) : (Pl.placeR d z m k e).xs.length = 4 ∧ (Pl.placeR d z m k e).ys.length = 4 := by
  unfold Pl.placeR
  split
  · simp [g.d4, g.a4]
  · split <;> simp [g.d4, g.a4]
/-- the way of an operand that lies in memory, and what the bank then answers -/
theorem wayPlace (d : Pl.Rg) (z m k e : Int) (hg : Pl.Good d) (hz : z = 1 ∨ z = 2) (h2 : Pl.opOk m k e = true) (h3 : ((m == 0) || ((m == 1) || (m == 7))) = false) :
    ∃ IV : Value, (∀ W : World, Calls Try.prog 47 #[.agg #[.int .i64 m, .int .i64 k, .int .i64 e]] W fun r w' => r = .returned IV ∧ Kept 0 0 W w') ∧
      (∀ (W : World) (g : Nat), Blk W g (bkR d) 55 → Calls Try.prog 54 #[.pointer (some ⟨g, 0, none⟩), .int .i64 z, IV] W fun e' w' => e' = .returned (.tuple #[.int .i64 (Pl.placeV d z m k e), .bool true]) ∧ Blk w' g (bkR (Pl.placeR d z m k e)) 55 ∧ Kept g (g + 1) W w') := by
  obtain ⟨hk, x0, x1, hm, hk6⟩ : (k = 0 ∨ k = 1 ∨ k = 2 ∨ k = 3) ∧ 0 ≤ e ∧ e ≤ 65535 ∧ (m = 2 ∨ m = 3 ∨ m = 4 ∨ m = 5 ∨ m = 6) ∧ (m = 6 → k = 0) := by
    simp [Pl.opOk, Pl.modeOk, Pl.within, Pl.wordOk] at h2
    simp at h3
    omega
  rcases hm with rfl | rfl | rfl | rfl | rfl
  · rcases hk with rfl | rfl | rfl | rfl
    · exact ⟨_, fun W => wayOf2 0 e W, fun W g hB => place2_0 W g d z e hB hg hz x0 x1⟩
    · exact ⟨_, fun W => wayOf2 1 e W, fun W g hB => place2_1 W g d z e hB hg hz x0 x1⟩
    · exact ⟨_, fun W => wayOf2 2 e W, fun W g hB => place2_2 W g d z e hB hg hz x0 x1⟩
    · exact ⟨_, fun W => wayOf2 3 e W, fun W g hB => place2_3 W g d z e hB hg hz x0 x1⟩
  · rcases hk with rfl | rfl | rfl | rfl
    · exact ⟨_, fun W => wayOf3 0 e W, fun W g hB => place3_0 W g d z e hB hg hz x0 x1⟩
    · exact ⟨_, fun W => wayOf3 1 e W, fun W g hB => place3_1 W g d z e hB hg hz x0 x1⟩
    · exact ⟨_, fun W => wayOf3 2 e W, fun W g hB => place3_2 W g d z e hB hg hz x0 x1⟩
    · exact ⟨_, fun W => wayOf3 3 e W, fun W g hB => place3_3 W g d z e hB hg hz x0 x1⟩
  · rcases hk with rfl | rfl | rfl | rfl
    · exact ⟨_, fun W => wayOf4 0 e W, fun W g hB => place4_0 W g d z e hB hg hz x0 x1⟩
    · exact ⟨_, fun W => wayOf4 1 e W, fun W g hB => place4_1 W g d z e hB hg hz x0 x1⟩
    · exact ⟨_, fun W => wayOf4 2 e W, fun W g hB => place4_2 W g d z e hB hg hz x0 x1⟩
    · exact ⟨_, fun W => wayOf4 3 e W, fun W g hB => place4_3 W g d z e hB hg hz x0 x1⟩
  · rcases hk with rfl | rfl | rfl | rfl
    · exact ⟨_, fun W => wayOf5 0 e W, fun W g hB => place5_0 W g d z e hB hg hz x0 x1⟩
    · exact ⟨_, fun W => wayOf5 1 e W, fun W g hB => place5_1 W g d z e hB hg hz x0 x1⟩
    · exact ⟨_, fun W => wayOf5 2 e W, fun W g hB => place5_2 W g d z e hB hg hz x0 x1⟩
    · exact ⟨_, fun W => wayOf5 3 e W, fun W g hB => place5_3 W g d z e hB hg hz x0 x1⟩
  · obtain rfl := hk6 rfl
    exact ⟨_, fun W => wayOf6 0 e W, fun W g hB => place6 W g d z e hB hg hz x0 x1⟩
theorem wayNone (z m k e : Int) (h3 : ((m == 0) || ((m == 1) || (m == 7))) = true) :
    ∃ IV : Value, (∀ W : World, Calls Try.prog 47 #[.agg #[.int .i64 m, .int .i64 k, .int .i64 e]] W fun r w' => r = .returned IV ∧ Kept 0 0 W w') ∧
      (∀ (W : World) (g : Nat), Calls Try.prog 54 #[.pointer (some ⟨g, 0, none⟩), .int .i64 z, IV] W fun e' w' => e' = .returned (.tuple #[.int .i64 0, .bool false]) ∧ w' = W) := by
  simp at h3
  rcases h3 with rfl | rfl | rfl
  · exact ⟨_, fun W => wayOf0 k e W, fun W g => place0 W g z _⟩
  · exact ⟨_, fun W => wayOf1 k e W, fun W g => place1 W g z _⟩
  · exact ⟨_, fun W => wayOf7 k e W, fun W g => place7 W g z _⟩
set_option maxRecDepth 20000 in
set_option maxHeartbeats 16000000 in
theorem implPlaceOf (w : World) (d : Pl.Rg) (a b : Option Addr) (ca cb : Nat) (z m k e : Int) (ha : Came w a d.xs) (hb : Came w b d.ys) (lx : d.xs.length ≤ 2000000) (ly : d.ys.length ≤ 2000000) (wfd : Pl.WfR d) (wfz : (Lit.int .i64 z).wf = true) (wfm : (Lit.int .i64 m).wf = true) (wfk : (Lit.int .i64 k).wf = true) (wfe : (Lit.int .i64 e).wf = true) :
    Calls Try.prog 24 #[.agg #[.slice a d.xs.length ca, .slice b d.ys.length cb, .int .i64 d.o, .int .i64 d.p, .int .i64 d.f, .int .i64 d.m, .bool d.s, .bool d.t], .int .i64 z, .agg #[.int .i64 m, .int .i64 k, .int .i64 e]] w fun e' w' => ∃ (a' b' : Option Addr) (ca' cb' : Nat), e' = .returned (.tuple #[.agg #[.slice a' (Pl.plcR d z m k e).xs.length ca', .slice b' (Pl.plcR d z m k e).ys.length cb', .int .i64 (Pl.plcR d z m k e).o, .int .i64 (Pl.plcR d z m k e).p, .int .i64 (Pl.plcR d z m k e).f, .int .i64 (Pl.plcR d z m k e).m, .bool (Pl.plcR d z m k e).s, .bool (Pl.plcR d z m k e).t], .int .i64 (Pl.plcV d z m k e), .bool (Pl.plcOk d z m k e)]) ∧ RegIn w' w.heap.size (Pl.plcR d z m k e) a' b' ∧ Kept 0 0 w w' := by
  have HA := hide ha
  have HB := hide hb
  have K0 := hide (kept_new (kept_new (kept_alloc w (.cells #[.slice a d.xs.length ca, .slice b d.ys.length cb, .int .i64 d.o, .int .i64 d.p, .int .i64 d.f, .int .i64 d.m, .bool d.s, .bool d.t] 24)) (.cells #[.int .i64 m, .int .i64 k, .int .i64 e] 37)) (.cells #[.slice none 0 0, .slice none 0 0, .int .i64 0, .int .i64 0, .int .i64 0, .int .i64 0, .bool false, .bool false] 24))
  have P0 := hide (((Blk.new w #[.slice a d.xs.length ca, .slice b d.ys.length cb, .int .i64 d.o, .int .i64 d.p, .int .i64 d.f, .int .i64 d.m, .bool d.s, .bool d.t] 24).alloc (.cells #[.int .i64 m, .int .i64 k, .int .i64 e] 37)).alloc (.cells #[.slice none 0 0, .slice none 0 0, .int .i64 0, .int .i64 0, .int .i64 0, .int .i64 0, .bool false, .bool false] 24))
  have Q0 := ((Blk.new (w.alloc (.cells #[.slice a d.xs.length ca, .slice b d.ys.length cb, .int .i64 d.o, .int .i64 d.p, .int .i64 d.f, .int .i64 d.m, .bool d.s, .bool d.t] 24)) #[.int .i64 m, .int .i64 k, .int .i64 e] 37).alloc (.cells #[.slice none 0 0, .slice none 0 0, .int .i64 0, .int .i64 0, .int .i64 0, .int .i64 0, .bool false, .bool false] 24))
  have R0 := Blk.new ((w.alloc (.cells #[.slice a d.xs.length ca, .slice b d.ys.length cb, .int .i64 d.o, .int .i64 d.p, .int .i64 d.f, .int .i64 d.m, .bool d.s, .bool d.t] 24)).alloc (.cells #[.int .i64 m, .int .i64 k, .int .i64 e] 37)) #[.slice none 0 0, .slice none 0 0, .int .i64 0, .int .i64 0, .int .i64 0, .int .i64 0, .bool false, .bool false] 24
  simp only [World.size_alloc] at R0 Q0
  replace R0 := hide R0
  replace Q0 := hide Q0
  clear ha hb
  cases h0 : Pl.rgOk d
  · have E : Hid (Pl.plcOk d z m k e = false) := hide (by unfold Pl.plcOk; rw [h0]; rfl)
    go_enter Try.func24, Try.ntmps24
    go_wp2_with (first | (go_at_call 19; refine (implGoodRegs _ d a b ca cb (HA.out.keptS K0.out) (HB.out.keptS K0.out) lx ly wfd).mono ?_; rintro e9 w1 ⟨rfl, k1⟩; rw [h0]; have R1 := hide (R0.out.kept0 k1); have P1 := hide (P0.out.kept0 k1); have Q1 := hide (Q0.out.kept0 k1); have K1 := hide (K0.out.trans k1); clear k1; have y0 := R1.out.cell (i := 0) rfl; have fy0 := R1.out.frozen 0; have y1 := R1.out.cell (i := 1) rfl; have fy1 := R1.out.frozen 1; have y2 := R1.out.cell (i := 2) rfl; have fy2 := R1.out.frozen 2; have y3 := R1.out.cell (i := 3) rfl; have fy3 := R1.out.frozen 3; have y4 := R1.out.cell (i := 4) rfl; have fy4 := R1.out.frozen 4; have y5 := R1.out.cell (i := 5) rfl; have fy5 := R1.out.frozen 5; have y6 := R1.out.cell (i := 6) rfl; have fy6 := R1.out.frozen 6; have y7 := R1.out.cell (i := 7) rfl; have fy7 := R1.out.frozen 7))
    refine bodyPost_ret (v := .tuple #[.agg #[.slice none 0 0, .slice none 0 0, .int .i64 0, .int .i64 0, .int .i64 0, .int .i64 0, .bool false, .bool false], .int .i64 0, .bool false]) ?_ rfl ?_
    · rw [results_cell_tmp2 rfl]; go_simp
    · refine ⟨none, none, 0, 0, ?_, ⟨.inl ⟨rfl, ?_⟩, .inl ⟨rfl, ?_⟩, ?_⟩, ?_⟩
      · simp [Pl.plcR, Pl.plcV, E.out, Pl.rgNo]
      · simp [Pl.plcR, E.out, Pl.rgNo]
      · simp [Pl.plcR, E.out, Pl.rgNo]
      · intro g hg; simp [blk] at hg
      · exact (kept_set (kept_set (kept_set (kept_set (kept_set (kept_set (kept_set (kept_set K1.out _ _ _ (.inr (by omega))) _ _ _ (.inr (by omega))) _ _ _ (.inr (by omega))) _ _ _ (.inr (by omega))) _ _ _ (.inr (by omega))) _ _ _ (.inr (by omega))) _ _ _ (.inr (by omega))) _ _ _ (.inr (by omega)))
  · cases h1 : (decide (z = 1) || decide (z = 2))
    · have E : Hid (Pl.plcOk d z m k e = false) := hide (by unfold Pl.plcOk; rw [h0, h1]; rfl)
      go_enter Try.func24, Try.ntmps24
      go_wp2_with (first | (go_at_call 19; refine (implGoodRegs _ d a b ca cb (HA.out.keptS K0.out) (HB.out.keptS K0.out) lx ly wfd).mono ?_; rintro e9 w1 ⟨rfl, k1⟩; rw [h0]; have R1 := hide (R0.out.kept0 k1); have P1 := hide (P0.out.kept0 k1); have Q1 := hide (Q0.out.kept0 k1); have K1 := hide (K0.out.trans k1); clear k1; have y0 := R1.out.cell (i := 0) rfl; have fy0 := R1.out.frozen 0; have y1 := R1.out.cell (i := 1) rfl; have fy1 := R1.out.frozen 1; have y2 := R1.out.cell (i := 2) rfl; have fy2 := R1.out.frozen 2; have y3 := R1.out.cell (i := 3) rfl; have fy3 := R1.out.frozen 3; have y4 := R1.out.cell (i := 4) rfl; have fy4 := R1.out.frozen 4; have y5 := R1.out.cell (i := 5) rfl; have fy5 := R1.out.frozen 5; have y6 := R1.out.cell (i := 6) rfl; have fy6 := R1.out.frozen 6; have y7 := R1.out.cell (i := 7) rfl; have fy7 := R1.out.frozen 7; have z0 := Q1.out.cell (i := 0) rfl; have z1 := Q1.out.cell (i := 1) rfl; have z2 := Q1.out.cell (i := 2) rfl) | (go_at_call 52; refine (isSize _ _).mono ?_; rintro e9 w' ⟨rfl, hw⟩; have hw2 := hw.symm; clear hw; subst hw2; rw [h1]))
      refine bodyPost_ret (v := .tuple #[.agg #[.slice none 0 0, .slice none 0 0, .int .i64 0, .int .i64 0, .int .i64 0, .int .i64 0, .bool false, .bool false], .int .i64 0, .bool false]) ?_ rfl ?_
      · rw [results_cell_tmp2 rfl]; go_simp
      · refine ⟨none, none, 0, 0, ?_, ⟨.inl ⟨rfl, ?_⟩, .inl ⟨rfl, ?_⟩, ?_⟩, ?_⟩
        · simp [Pl.plcR, Pl.plcV, E.out, Pl.rgNo]
        · simp [Pl.plcR, E.out, Pl.rgNo]
        · simp [Pl.plcR, E.out, Pl.rgNo]
        · intro g hg; simp [blk] at hg
        · exact (kept_set (kept_set (kept_set (kept_set (kept_set (kept_set (kept_set (kept_set K1.out _ _ _ (.inr (by omega))) _ _ _ (.inr (by omega))) _ _ _ (.inr (by omega))) _ _ _ (.inr (by omega))) _ _ _ (.inr (by omega))) _ _ _ (.inr (by omega))) _ _ _ (.inr (by omega))) _ _ _ (.inr (by omega)))
    · cases h2 : Pl.opOk m k e
      · have E : Hid (Pl.plcOk d z m k e = false) := hide (by unfold Pl.plcOk; rw [h0, h1, h2]; rfl)
        go_enter Try.func24, Try.ntmps24
        go_wp2_with (first | (go_at_call 19; refine (implGoodRegs _ d a b ca cb (HA.out.keptS K0.out) (HB.out.keptS K0.out) lx ly wfd).mono ?_; rintro e9 w1 ⟨rfl, k1⟩; rw [h0]; have R1 := hide (R0.out.kept0 k1); have P1 := hide (P0.out.kept0 k1); have Q1 := hide (Q0.out.kept0 k1); have K1 := hide (K0.out.trans k1); clear k1; have z0 := Q1.out.cell (i := 0) rfl; have z1 := Q1.out.cell (i := 1) rfl; have z2 := Q1.out.cell (i := 2) rfl) | (go_at_call 52; refine (isSize _ _).mono ?_; rintro e9 w' ⟨rfl, hw⟩; have hw2 := hw.symm; clear hw; subst hw2; rw [h1]) | (go_at_call 22; refine (implGoodOperand _ m k e wfm wfk wfe).mono ?_; rintro e9 w2 ⟨rfl, k2⟩; rw [h2]; have R2 := hide (R1.out.kept0 k2); have P2 := hide (P1.out.kept0 k2); have Q2 := hide (Q1.out.kept0 k2); have K2 := hide (K1.out.trans k2); clear k2; have y0 := R2.out.cell (i := 0) rfl; have fy0 := R2.out.frozen 0; have y1 := R2.out.cell (i := 1) rfl; have fy1 := R2.out.frozen 1; have y2 := R2.out.cell (i := 2) rfl; have fy2 := R2.out.frozen 2; have y3 := R2.out.cell (i := 3) rfl; have fy3 := R2.out.frozen 3; have y4 := R2.out.cell (i := 4) rfl; have fy4 := R2.out.frozen 4; have y5 := R2.out.cell (i := 5) rfl; have fy5 := R2.out.frozen 5; have y6 := R2.out.cell (i := 6) rfl; have fy6 := R2.out.frozen 6; have y7 := R2.out.cell (i := 7) rfl; have fy7 := R2.out.frozen 7))
        refine bodyPost_ret (v := .tuple #[.agg #[.slice none 0 0, .slice none 0 0, .int .i64 0, .int .i64 0, .int .i64 0, .int .i64 0, .bool false, .bool false], .int .i64 0, .bool false]) ?_ rfl ?_
        · rw [results_cell_tmp2 rfl]; go_simp
        · refine ⟨none, none, 0, 0, ?_, ⟨.inl ⟨rfl, ?_⟩, .inl ⟨rfl, ?_⟩, ?_⟩, ?_⟩
          · simp [Pl.plcR, Pl.plcV, E.out, Pl.rgNo]
          · simp [Pl.plcR, E.out, Pl.rgNo]
          · simp [Pl.plcR, E.out, Pl.rgNo]
          · intro g hg; simp [blk] at hg
          · exact (kept_set (kept_set (kept_set (kept_set (kept_set (kept_set (kept_set (kept_set K2.out _ _ _ (.inr (by omega))) _ _ _ (.inr (by omega))) _ _ _ (.inr (by omega))) _ _ _ (.inr (by omega))) _ _ _ (.inr (by omega))) _ _ _ (.inr (by omega))) _ _ _ (.inr (by omega))) _ _ _ (.inr (by omega)))
      · have HG := hide (Pl.good_of h0)
        cases h3 : ((m == 0) || ((m == 1) || (m == 7)))
        · have E : Hid (Pl.plcOk d z m k e = true) := hide (by unfold Pl.plcOk; rw [h0, h1, h2]; simp at h3; simp [h3])
          obtain ⟨IV, hW, hP⟩ := wayPlace d z m k e (Pl.good_of h0) (by simpa using h1) h2 h3
          have HW := hide hW
          clear hW
          have LZ := hide (placeR_len (Pl.good_of h0) z m k e)
          have EZ : Hid (Pl.plcR d z m k e = Pl.placeR d z m k e) := hide (by simp [Pl.plcR, E.out])
          have EV : Hid (Pl.plcV d z m k e = Pl.placeV d z m k e) := hide (by simp [Pl.plcV, E.out])
          obtain ⟨Z, hZ⟩ : ∃ Z, Z = Pl.placeR d z m k e := ⟨_, rfl⟩
          obtain ⟨V, hV⟩ : ∃ V, V = Pl.placeV d z m k e := ⟨_, rfl⟩
          rw [← hZ] at EZ LZ hP
          rw [← hV] at EV hP
          have HP := hide hP
          clear hZ hV hP
          go_enter Try.func24, Try.ntmps24
          go_wp2_with (first | (go_at_call 19; refine (implGoodRegs _ d a b ca cb (HA.out.keptS K0.out) (HB.out.keptS K0.out) lx ly wfd).mono ?_; rintro e9 w1 ⟨rfl, k1⟩; rw [h0]; have R1 := hide (R0.out.kept0 k1); have P1 := hide (P0.out.kept0 k1); have Q1 := hide (Q0.out.kept0 k1); have K1 := hide (K0.out.trans k1); clear k1; have z0 := Q1.out.cell (i := 0) rfl; have z1 := Q1.out.cell (i := 1) rfl; have z2 := Q1.out.cell (i := 2) rfl) | (go_at_call 52; refine (isSize _ _).mono ?_; rintro e9 w' ⟨rfl, hw⟩; have hw2 := hw.symm; clear hw; subst hw2; rw [h1]) | (go_at_call 22; refine (implGoodOperand _ m k e wfm wfk wfe).mono ?_; rintro e9 w2 ⟨rfl, k2⟩; rw [h2]; have R2 := hide (R1.out.kept0 k2); have P2 := hide (P1.out.kept0 k2); have Q2 := hide (Q1.out.kept0 k2); have K2 := hide (K1.out.trans k2); clear k2; have y0 := P2.out.cell (i := 0) rfl; have y1 := P2.out.cell (i := 1) rfl; have y2 := P2.out.cell (i := 2) rfl; have y3 := P2.out.cell (i := 3) rfl; have y4 := P2.out.cell (i := 4) rfl; have y5 := P2.out.cell (i := 5) rfl; have y6 := P2.out.cell (i := 6) rfl; have y7 := P2.out.cell (i := 7) rfl) | (go_at_call 53; refine (bankOf _ d a b ca cb (HA.out.keptS K2.out).1 (HB.out.keptS K2.out).1 HG.out.d4 HG.out.a4).mono ?_; rintro e9 w3 ⟨rfl, k3⟩; have K3 := hide (K2.out.trans k3); have R3 := hide (R2.out.kept0 k3); have Q3 := hide (Q2.out.kept0 k3); clear k3) | (refine wpList_store_row rfl 55 (.tmp 9) (.tmp 27) rfl w3.heap.size (bkR d) rfl rfl 55 _ (Blk.new w3 #[.int .i64 0, .int .i64 0, .int .i64 0, .int .i64 0, .int .i64 0, .int .i64 0, .int .i64 0, .int .i64 0, .int .i64 0, .int .i64 0, .int .i64 0, .int .i64 0, .bool false, .bool false] 55) (bkR_info d) rfl (bkR_one d) ?_; obtain ⟨X, hX⟩ : ∃ X : World, X = (w3.alloc (.cells #[.int .i64 0, .int .i64 0, .int .i64 0, .int .i64 0, .int .i64 0, .int .i64 0, .int .i64 0, .int .i64 0, .int .i64 0, .int .i64 0, .int .i64 0, .int .i64 0, .bool false, .bool false] 55)).setRow w3.heap.size (bkR d) := ⟨_, rfl⟩; have BX : Hid (Blk X w3.heap.size (bkR d) 55) := hide (by rw [hX]; exact (Blk.new w3 #[.int .i64 0, .int .i64 0, .int .i64 0, .int .i64 0, .int .i64 0, .int .i64 0, .int .i64 0, .int .i64 0, .int .i64 0, .int .i64 0, .int .i64 0, .int .i64 0, .bool false, .bool false] 55).setRow); have KX : Hid (Kept 0 0 w3 X) := hide (by rw [hX]; exact kept_setRow (kept_alloc w3 _) _ _ (Nat.le_refl _)); rw [← hX]; clear hX; have RX := hide (R3.out.kept0 KX.out); have QX := hide (Q3.out.kept0 KX.out); have KW := hide (K3.out.trans KX.out); have zz0 := QX.out.cell (i := 0) rfl; have zz1 := QX.out.cell (i := 1) rfl; have zz2 := QX.out.cell (i := 2) rfl) | (go_at_call 47; refine (HW.out _).mono ?_; rintro e9 w4 ⟨rfl, k4⟩; have B4 := hide (BX.out.kept0 k4); have R4 := hide (RX.out.kept0 k4); have K4 := hide (KW.out.trans k4); clear k4) | (go_at_call 54; refine (HP.out _ w3.heap.size B4.out).mono ?_; rintro e9 w5 ⟨rfl, hB5, k5⟩; have B5 := hide hB5; have s3 := R3.out.lt; have R5 := hide (R4.out.kept k5 (by omega)); have K5 := hide (kept_over K4.out k5 K3.out.size); clear hB5 k5 s3) | (refine wpList_load_row rfl 55 (.tmp 9) rfl w3.heap.size rfl 55 (bkR Z) (0, 0) _ B5.out Try.underlying55 rfl (bkR_info Z) ?_) | (go_at_call 33; refine (bankRegs Z _ LZ.out.1 LZ.out.2).mono ?_; rintro e9 w6 ⟨a3, b3, c3, d3, rfl, hR6, k6⟩; have RR := hide hR6; have R6 := hide (R5.out.kept0 k6); have K6 := hide (K5.out.trans k6); have q0 := R6.out.cell (i := 0) rfl; have fq0 := R6.out.frozen 0; have q1 := R6.out.cell (i := 1) rfl; have fq1 := R6.out.frozen 1; have q2 := R6.out.cell (i := 2) rfl; have fq2 := R6.out.frozen 2; have q3 := R6.out.cell (i := 3) rfl; have fq3 := R6.out.frozen 3; have q4 := R6.out.cell (i := 4) rfl; have fq4 := R6.out.frozen 4; have q5 := R6.out.cell (i := 5) rfl; have fq5 := R6.out.frozen 5; have q6 := R6.out.cell (i := 6) rfl; have fq6 := R6.out.frozen 6; have q7 := R6.out.cell (i := 7) rfl; have fq7 := R6.out.frozen 7; clear hR6 k6))
          have s0 := R0.out.lt
          have s5 := R5.out.lt
          have S5 := K5.out.size
          refine bodyPost_ret (v := .tuple #[.agg #[.slice a3 Z.xs.length c3, .slice b3 Z.ys.length d3, .int .i64 Z.o, .int .i64 Z.p, .int .i64 Z.f, .int .i64 Z.m, .bool Z.s, .bool Z.t], .int .i64 V, .bool true]) ?_ rfl ?_
          · rw [results_cell_tmp2 rfl]; go_simp
          · refine ⟨a3, b3, c3, d3, ?_, ?_, ?_⟩
            · rw [EZ.out, EV.out, E.out]
            · rw [EZ.out]; exact RegIn.base ((((((((RR.out.set _ _ _ (by omega)).set _ _ _ (by omega)).set _ _ _ (by omega)).set _ _ _ (by omega)).set _ _ _ (by omega)).set _ _ _ (by omega)).set _ _ _ (by omega)).set _ _ _ (by omega)) (by omega)
            · exact (kept_set (kept_set (kept_set (kept_set (kept_set (kept_set (kept_set (kept_set K6.out _ _ _ (.inr (by omega))) _ _ _ (.inr (by omega))) _ _ _ (.inr (by omega))) _ _ _ (.inr (by omega))) _ _ _ (.inr (by omega))) _ _ _ (.inr (by omega))) _ _ _ (.inr (by omega))) _ _ _ (.inr (by omega)))
        · have E : Hid (Pl.plcOk d z m k e = false) := hide (by
            unfold Pl.plcOk; rw [h0, h1, h2]
            simp at h3
            rcases h3 with h3 | h3 | h3 <;> simp [h3])
          obtain ⟨IV, hW, hP⟩ := wayNone z m k e h3
          have HW := hide hW
          have HP := hide hP
          clear hW hP
          go_enter Try.func24, Try.ntmps24
          go_wp2_with (first | (go_at_call 19; refine (implGoodRegs _ d a b ca cb (HA.out.keptS K0.out) (HB.out.keptS K0.out) lx ly wfd).mono ?_; rintro e9 w1 ⟨rfl, k1⟩; rw [h0]; have R1 := hide (R0.out.kept0 k1); have P1 := hide (P0.out.kept0 k1); have Q1 := hide (Q0.out.kept0 k1); have K1 := hide (K0.out.trans k1); clear k1; have z0 := Q1.out.cell (i := 0) rfl; have z1 := Q1.out.cell (i := 1) rfl; have z2 := Q1.out.cell (i := 2) rfl) | (go_at_call 52; refine (isSize _ _).mono ?_; rintro e9 w' ⟨rfl, hw⟩; have hw2 := hw.symm; clear hw; subst hw2; rw [h1]) | (go_at_call 22; refine (implGoodOperand _ m k e wfm wfk wfe).mono ?_; rintro e9 w2 ⟨rfl, k2⟩; rw [h2]; have R2 := hide (R1.out.kept0 k2); have P2 := hide (P1.out.kept0 k2); have Q2 := hide (Q1.out.kept0 k2); have K2 := hide (K1.out.trans k2); clear k2; have y0 := P2.out.cell (i := 0) rfl; have y1 := P2.out.cell (i := 1) rfl; have y2 := P2.out.cell (i := 2) rfl; have y3 := P2.out.cell (i := 3) rfl; have y4 := P2.out.cell (i := 4) rfl; have y5 := P2.out.cell (i := 5) rfl; have y6 := P2.out.cell (i := 6) rfl; have y7 := P2.out.cell (i := 7) rfl) | (go_at_call 53; refine (bankOf _ d a b ca cb (HA.out.keptS K2.out).1 (HB.out.keptS K2.out).1 HG.out.d4 HG.out.a4).mono ?_; rintro e9 w3 ⟨rfl, k3⟩; have K3 := hide (K2.out.trans k3); have R3 := hide (R2.out.kept0 k3); have Q3 := hide (Q2.out.kept0 k3); clear k3) | (refine wpList_store_row rfl 55 (.tmp 9) (.tmp 27) rfl w3.heap.size (bkR d) rfl rfl 55 _ (Blk.new w3 #[.int .i64 0, .int .i64 0, .int .i64 0, .int .i64 0, .int .i64 0, .int .i64 0, .int .i64 0, .int .i64 0, .int .i64 0, .int .i64 0, .int .i64 0, .int .i64 0, .bool false, .bool false] 55) (bkR_info d) rfl (bkR_one d) ?_; obtain ⟨X, hX⟩ : ∃ X : World, X = (w3.alloc (.cells #[.int .i64 0, .int .i64 0, .int .i64 0, .int .i64 0, .int .i64 0, .int .i64 0, .int .i64 0, .int .i64 0, .int .i64 0, .int .i64 0, .int .i64 0, .int .i64 0, .bool false, .bool false] 55)).setRow w3.heap.size (bkR d) := ⟨_, rfl⟩; have BX : Hid (Blk X w3.heap.size (bkR d) 55) := hide (by rw [hX]; exact (Blk.new w3 #[.int .i64 0, .int .i64 0, .int .i64 0, .int .i64 0, .int .i64 0, .int .i64 0, .int .i64 0, .int .i64 0, .int .i64 0, .int .i64 0, .int .i64 0, .int .i64 0, .bool false, .bool false] 55).setRow); have KX : Hid (Kept 0 0 w3 X) := hide (by rw [hX]; exact kept_setRow (kept_alloc w3 _) _ _ (Nat.le_refl _)); rw [← hX]; clear hX; have RX := hide (R3.out.kept0 KX.out); have QX := hide (Q3.out.kept0 KX.out); have KW := hide (K3.out.trans KX.out); have zz0 := QX.out.cell (i := 0) rfl; have zz1 := QX.out.cell (i := 1) rfl; have zz2 := QX.out.cell (i := 2) rfl) | (go_at_call 47; refine (HW.out _).mono ?_; rintro e9 w4 ⟨rfl, k4⟩; have B4 := hide (BX.out.kept0 k4); have R4 := hide (RX.out.kept0 k4); have K4 := hide (KW.out.trans k4); clear k4) | (go_at_call 54; refine (HP.out _ w3.heap.size).mono ?_; rintro e9 w' ⟨rfl, hw⟩; have hw2 := hw.symm; clear hw; subst hw2; have s3 := R3.out.lt; have q0 := R4.out.cell (i := 0) rfl; have fq0 := R4.out.frozen 0; have q1 := R4.out.cell (i := 1) rfl; have fq1 := R4.out.frozen 1; have q2 := R4.out.cell (i := 2) rfl; have fq2 := R4.out.frozen 2; have q3 := R4.out.cell (i := 3) rfl; have fq3 := R4.out.frozen 3; have q4 := R4.out.cell (i := 4) rfl; have fq4 := R4.out.frozen 4; have q5 := R4.out.cell (i := 5) rfl; have fq5 := R4.out.frozen 5; have q6 := R4.out.cell (i := 6) rfl; have fq6 := R4.out.frozen 6; have q7 := R4.out.cell (i := 7) rfl; have fq7 := R4.out.frozen 7))
          refine bodyPost_ret (v := .tuple #[.agg #[.slice none 0 0, .slice none 0 0, .int .i64 0, .int .i64 0, .int .i64 0, .int .i64 0, .bool false, .bool false], .int .i64 0, .bool false]) ?_ rfl ?_
          · rw [results_cell_tmp2 rfl]; go_simp
          · refine ⟨none, none, 0, 0, ?_, ⟨.inl ⟨rfl, ?_⟩, .inl ⟨rfl, ?_⟩, ?_⟩, ?_⟩
            · simp [Pl.plcR, Pl.plcV, E.out, Pl.rgNo]
            · simp [Pl.plcR, E.out, Pl.rgNo]
            · simp [Pl.plcR, E.out, Pl.rgNo]
            · intro g hg; simp [blk] at hg
            · exact (kept_set (kept_set (kept_set (kept_set (kept_set (kept_set (kept_set (kept_set K4.out _ _ _ (.inr (by omega))) _ _ _ (.inr (by omega))) _ _ _ (.inr (by omega))) _ _ _ (.inr (by omega))) _ _ _ (.inr (by omega))) _ _ _ (.inr (by omega))) _ _ _ (.inr (by omega))) _ _ _ (.inr (by omega)))
end Go.Proofs.Ytikmelkobbbgnaa
