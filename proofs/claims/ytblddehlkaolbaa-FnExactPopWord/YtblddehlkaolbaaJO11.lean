/- The law on PopWord: of whatever arguments, its Go function returns true, and no block that was there has turned. -/
import Derived.Test.YtblddehlkaolbaaJO3
import Derived.Test.YtblddehlkaolbaaJO7
import Derived.Test.YtblddehlkaolbaaJO10
import Derived.Deep.DeepCutAuto
namespace Go.Proofs.Ytblddehlkaolbaa
open Go.RowKit
set_option linter.unusedVariables false
set_option maxRecDepth 100000 in
set_option maxHeartbeats 16000000 in
theorem lawPopWord (d : Pl.Cp) (a b e q : Option Addr) (ca cb ce cq : Nat) (w : World) (hx : Came w a d.r.xs) (hy : Came w b d.r.ys) (hz : Came w e d.bx) (hq : Came w q d.bl) (lx : d.r.xs.length ≤ 9223372036854775807) (ly : d.r.ys.length ≤ 9223372036854775807) (lz : d.bx.length ≤ 9223372036854775807) (lm : d.bm ≤ 9223372036854775807) (ll : d.bl.length = 5 * d.bm) (wfd : Pl.WfR d.r) :
    Calls Try.prog 6 #[.agg #[.slice a d.r.xs.length ca, .slice b d.r.ys.length cb, .int .i64 d.r.o, .int .i64 d.r.p, .int .i64 d.r.f, .int .i64 d.r.m, .bool d.r.s, .bool d.r.t, .slice e d.bx.length ce, .slice q d.bm cq, .bool d.st, .bool d.ha]] w fun e w' => e = .returned (.bool true) ∧ Below w.heap.size w w' := by
  have HX := hide hx
  have HY := hide hy
  have HZ := hide hz
  have HQ := hide hq
  have HWF := hide wfd
  have HLL := hide ll
  have Bel := hide (kept_alloc w (.cells #[.slice a d.r.xs.length ca, .slice b d.r.ys.length cb, .int .i64 d.r.o, .int .i64 d.r.p, .int .i64 d.r.f, .int .i64 d.r.m, .bool d.r.s, .bool d.r.t, .slice e d.bx.length ce, .slice q d.bm cq, .bool d.st, .bool d.ha] 43)).below
  have WA := hide (Blk.new w #[.slice a d.r.xs.length ca, .slice b d.r.ys.length cb, .int .i64 d.r.o, .int .i64 d.r.p, .int .i64 d.r.f, .int .i64 d.r.m, .bool d.r.s, .bool d.r.t, .slice e d.bx.length ce, .slice q d.bm cq, .bool d.st, .bool d.ha] 43)
  obtain ⟨X0, hX0⟩ : ∃ X : World, w.alloc (.cells #[.slice a d.r.xs.length ca, .slice b d.r.ys.length cb, .int .i64 d.r.o, .int .i64 d.r.p, .int .i64 d.r.f, .int .i64 d.r.m, .bool d.r.s, .bool d.r.t, .slice e d.bx.length ce, .slice q d.bm cq, .bool d.st, .bool d.ha] 43) = X := ⟨_, rfl⟩
  have nX0 : X0.heap.size = w.heap.size + 1 := by simp [← hX0]
  rw [hX0] at Bel WA
  have hln := Pl.pp_len d ll
  clear hx hy hz hq wfd ll
  by_cases hs : szC d.r.xs.length d.r.ys.length d.bx.length d.bm 1048576 < 0
  · go_enter Try.func6, Try.ntmps6
    have p0_0 := WA.out.cell (i := 0) rfl
    have p0_1 := WA.out.cell (i := 1) rfl
    have p0_2 := WA.out.cell (i := 2) rfl
    have p0_3 := WA.out.cell (i := 3) rfl
    have p0_4 := WA.out.cell (i := 4) rfl
    have p0_5 := WA.out.cell (i := 5) rfl
    have p0_6 := WA.out.cell (i := 6) rfl
    have p0_7 := WA.out.cell (i := 7) rfl
    have p0_8 := WA.out.cell (i := 8) rfl
    have p0_9 := WA.out.cell (i := 9) rfl
    have p0_10 := WA.out.cell (i := 10) rfl
    have p0_11 := WA.out.cell (i := 11) rfl
    go_wp2_with fail
    refine (szCpu _ d a b e q ca cb ce cq 1048576 lx ly lz lm (by decide) (by decide)).mono ?_
    rintro e9 w1 ⟨rfl, k⟩
    have Bn := hide (below_kept Bel.out k (by omega))
    clear k
    go_wp2_with fail
    go_ret
    exact ⟨rfl, Bn.out⟩
  · have hb := szC_neg hs
    have bx : d.r.xs.length ≤ 2000000 := by omega
    have by_ : d.r.ys.length ≤ 2000000 := by omega
    have bz : d.bx.length ≤ 2000000 := by omega
    have bm : d.bm ≤ 2000000 := by omega
    have ds : decide (szC d.r.xs.length d.r.ys.length d.bx.length d.bm 1048576 < 0) = false := by simpa using hs
    clear hs hb
    generalize hDD : Pl.ppC d = D at hln
    generalize hVV : Pl.ppV d = V
    generalize hBB : Pl.ppF d = B
    generalize hKK : Pl.cpOk d = K
    obtain ⟨bD, bE, bF, bL, bM⟩ := hln
    have HDL := hide bL
    have HDD := hide hDD
    have HVV := hide hVV
    have HBB := hide hBB
    have HKK := hide hKK
    clear bL hDD hVV hBB hKK
    go_enter Try.func6, Try.ntmps6
    have p0_0 := WA.out.cell (i := 0) rfl
    have p0_1 := WA.out.cell (i := 1) rfl
    have p0_2 := WA.out.cell (i := 2) rfl
    have p0_3 := WA.out.cell (i := 3) rfl
    have p0_4 := WA.out.cell (i := 4) rfl
    have p0_5 := WA.out.cell (i := 5) rfl
    have p0_6 := WA.out.cell (i := 6) rfl
    have p0_7 := WA.out.cell (i := 7) rfl
    have p0_8 := WA.out.cell (i := 8) rfl
    have p0_9 := WA.out.cell (i := 9) rfl
    have p0_10 := WA.out.cell (i := 10) rfl
    have p0_11 := WA.out.cell (i := 11) rfl
    go_wp2_with fail
    clear p0_0 p0_1 p0_2 p0_3 p0_4 p0_5 p0_6 p0_7 p0_8 p0_9 p0_10 p0_11
    refine (szCpu _ d a b e q ca cb ce cq 1048576 lx ly lz lm (by decide) (by decide)).mono ?_
    rintro e9 w1 ⟨rfl, k⟩
    have Beln := hide (below_kept Bel.out k (by omega))
    have WAn := hide (WA.out.kept k (by omega))
    clear Bel WA
    have Bel := Beln
    have WA := WAn
    clear Beln WAn
    have nw1 := k.size
    clear k
    clear hX0
    have p0_0 := WA.out.cell (i := 0) rfl
    have p0_1 := WA.out.cell (i := 1) rfl
    have p0_2 := WA.out.cell (i := 2) rfl
    have p0_3 := WA.out.cell (i := 3) rfl
    have p0_4 := WA.out.cell (i := 4) rfl
    have p0_5 := WA.out.cell (i := 5) rfl
    have p0_6 := WA.out.cell (i := 6) rfl
    have p0_7 := WA.out.cell (i := 7) rfl
    have p0_8 := WA.out.cell (i := 8) rfl
    have p0_9 := WA.out.cell (i := 9) rfl
    have p0_10 := WA.out.cell (i := 10) rfl
    have p0_11 := WA.out.cell (i := 11) rfl
    go_wp2_with fail
    clear p0_0 p0_1 p0_2 p0_3 p0_4 p0_5 p0_6 p0_7 p0_8 p0_9 p0_10 p0_11 ds
    refine (toCpu _ d a b e q ca cb ce cq (HX.out.below Bel.out).1 (HY.out.below Bel.out).1 (HZ.out.below Bel.out).1 (HQ.out.below Bel.out).1 bx by_ bz HLL.out bm).mono ?_
    rintro e9 w2 ⟨g1, g2, g3, g4, rfl, hs9, k⟩
    have Beln := hide (below_kept Bel.out k (by omega))
    have WAn := hide (WA.out.kept k (by omega))
    clear Bel WA
    have Bel := Beln
    have WA := WAn
    clear Beln WAn
    have nw2 := k.size
    have O1 := hide hs9
    clear k hs9
    go_wp2_with fail
    refine (specPopWord _ d _ _ _ _ _ _ _ _ O1.out.d.row O1.out.a'.row O1.out.b'.row O1.out.l.row bx by_ bz HLL.out bm).mono ?_
    rw [HDD.out, HVV.out, HBB.out, HKK.out]
    unfold cpuV
    rintro e9 w3 ⟨a0, b0, e0, q0, ca0, cb0, ce0, cq0, rfl, hin, k⟩
    have hsl := hin.sl
    have Beln := hide (below_kept Bel.out k (by omega))
    have WAn := hide (WA.out.kept k (by omega))
    have O1n := hide (O1.out.kept k (by omega))
    clear Bel WA O1
    have Bel := Beln
    have WA := WAn
    have O1 := O1n
    clear Beln WAn O1n
    have nw3 := k.size
    have S0 := hide hsl
    clear k hin hsl
    clear O1
    have ka : Kept 0 0 w3 (w3.alloc (.cells #[.slice a0 D.r.xs.length ca0, .slice b0 D.r.ys.length cb0, .int .i64 D.r.o, .int .i64 D.r.p, .int .i64 D.r.f, .int .i64 D.r.m, .bool D.r.s, .bool D.r.t, .slice e0 D.bx.length ce0, .slice q0 D.bm cq0, .bool D.st, .bool D.ha] 29)) := kept_alloc w3 _
    have Beln := hide (below_kept Bel.out ka (by omega))
    have WAn := hide (WA.out.kept ka (by omega))
    have S0n := hide (S0.out.kept ka (by omega))
    clear Bel WA S0
    have Bel := Beln
    have WA := WAn
    have S0 := S0n
    clear Beln WAn S0n
    have B0 := (Blk.new w3 #[.slice a0 D.r.xs.length ca0, .slice b0 D.r.ys.length cb0, .int .i64 D.r.o, .int .i64 D.r.p, .int .i64 D.r.f, .int .i64 D.r.m, .bool D.r.s, .bool D.r.t, .slice e0 D.bx.length ce0, .slice q0 D.bm cq0, .bool D.st, .bool D.ha] 29)
    obtain ⟨X3, hX3⟩ : ∃ X : World, (w3.alloc (.cells #[.slice a0 D.r.xs.length ca0, .slice b0 D.r.ys.length cb0, .int .i64 D.r.o, .int .i64 D.r.p, .int .i64 D.r.f, .int .i64 D.r.m, .bool D.r.s, .bool D.r.t, .slice e0 D.bx.length ce0, .slice q0 D.bm cq0, .bool D.st, .bool D.ha] 29)) = X := ⟨_, rfl⟩
    have nX3 : X3.heap.size = w3.heap.size + 1 := by simp [← hX3]
    rw [hX3] at Bel WA S0 B0
    have W0 := hide B0
    clear ka B0
    have p0_0 := WA.out.cell (i := 0) rfl
    have p0_1 := WA.out.cell (i := 1) rfl
    have p0_2 := WA.out.cell (i := 2) rfl
    have p0_3 := WA.out.cell (i := 3) rfl
    have p0_4 := WA.out.cell (i := 4) rfl
    have p0_5 := WA.out.cell (i := 5) rfl
    have p0_6 := WA.out.cell (i := 6) rfl
    have p0_7 := WA.out.cell (i := 7) rfl
    have p0_8 := WA.out.cell (i := 8) rfl
    have p0_9 := WA.out.cell (i := 9) rfl
    have p0_10 := WA.out.cell (i := 10) rfl
    have p0_11 := WA.out.cell (i := 11) rfl
    go_wp2_with fail
    clear p0_0 p0_1 p0_2 p0_3 p0_4 p0_5 p0_6 p0_7 p0_8 p0_9 p0_10 p0_11 hX3
    refine (toCpu _ d a b e q ca cb ce cq (HX.out.below Bel.out).1 (HY.out.below Bel.out).1 (HZ.out.below Bel.out).1 (HQ.out.below Bel.out).1 bx by_ bz HLL.out bm).mono ?_
    rintro e9 w4 ⟨g5, g6, g7, g8, rfl, hs9, k⟩
    have Beln := hide (below_kept Bel.out k (by omega))
    have WAn := hide (WA.out.kept k (by omega))
    have S0n := hide (S0.out.kept k (by omega))
    have W0n := hide (W0.out.kept k (by omega))
    clear Bel WA S0 W0
    have Bel := Beln
    have WA := WAn
    have S0 := S0n
    have W0 := W0n
    clear Beln WAn S0n W0n
    have nw4 := k.size
    have O3 := hide hs9
    clear k hs9
    have ka : Kept 0 0 w4 (w4.alloc (.cells #[.slice (some ⟨g5, 0, none⟩) d.r.xs.length d.r.xs.length, .slice (some ⟨g6, 0, none⟩) d.r.ys.length d.r.ys.length, .int .i64 d.r.o, .int .i64 d.r.p, .int .i64 d.r.f, .int .i64 d.r.m, .bool d.r.s, .bool d.r.t, .slice (some ⟨g7, 0, none⟩) d.bx.length d.bx.length, .slice (some ⟨g8, 0, none⟩) d.bm d.bm, .bool d.st, .bool d.ha] 29)) := kept_alloc w4 _
    have Beln := hide (below_kept Bel.out ka (by omega))
    have WAn := hide (WA.out.kept ka (by omega))
    have S0n := hide (S0.out.kept ka (by omega))
    have W0n := hide (W0.out.kept ka (by omega))
    have O3n := hide (O3.out.kept ka (by omega))
    clear Bel WA S0 W0 O3
    have Bel := Beln
    have WA := WAn
    have S0 := S0n
    have W0 := W0n
    have O3 := O3n
    clear Beln WAn S0n W0n O3n
    have B0 := (Blk.new w4 #[.slice (some ⟨g5, 0, none⟩) d.r.xs.length d.r.xs.length, .slice (some ⟨g6, 0, none⟩) d.r.ys.length d.r.ys.length, .int .i64 d.r.o, .int .i64 d.r.p, .int .i64 d.r.f, .int .i64 d.r.m, .bool d.r.s, .bool d.r.t, .slice (some ⟨g7, 0, none⟩) d.bx.length d.bx.length, .slice (some ⟨g8, 0, none⟩) d.bm d.bm, .bool d.st, .bool d.ha] 29)
    obtain ⟨X4, hX4⟩ : ∃ X : World, (w4.alloc (.cells #[.slice (some ⟨g5, 0, none⟩) d.r.xs.length d.r.xs.length, .slice (some ⟨g6, 0, none⟩) d.r.ys.length d.r.ys.length, .int .i64 d.r.o, .int .i64 d.r.p, .int .i64 d.r.f, .int .i64 d.r.m, .bool d.r.s, .bool d.r.t, .slice (some ⟨g7, 0, none⟩) d.bx.length d.bx.length, .slice (some ⟨g8, 0, none⟩) d.bm d.bm, .bool d.st, .bool d.ha] 29)) = X := ⟨_, rfl⟩
    have nX4 : X4.heap.size = w4.heap.size + 1 := by simp [← hX4]
    rw [hX4] at Bel WA S0 W0 O3 B0
    have VA := hide B0
    clear ka B0
    have p0_0 := VA.out.cell (i := 0) rfl
    have p0_1 := VA.out.cell (i := 1) rfl
    have p0_2 := VA.out.cell (i := 2) rfl
    have p0_3 := VA.out.cell (i := 3) rfl
    have p0_4 := VA.out.cell (i := 4) rfl
    have p0_5 := VA.out.cell (i := 5) rfl
    have p0_6 := VA.out.cell (i := 6) rfl
    have p0_7 := VA.out.cell (i := 7) rfl
    have p0_8 := VA.out.cell (i := 8) rfl
    have p0_9 := VA.out.cell (i := 9) rfl
    have p0_10 := VA.out.cell (i := 10) rfl
    have p0_11 := VA.out.cell (i := 11) rfl
    go_wp2_with fail
    clear p0_0 p0_1 p0_2 p0_3 p0_4 p0_5 p0_6 p0_7 p0_8 p0_9 p0_10 p0_11 hX4
    refine (implPopWord _ d _ _ _ _ _ _ _ _ ⟨O3.out.d.row, HX.out.2⟩ ⟨O3.out.a'.row, HY.out.2⟩ ⟨O3.out.b'.row, HZ.out.2⟩ ⟨O3.out.l.row, HQ.out.2⟩ bx by_ bz HLL.out bm HWF.out).mono ?_
    rw [HDD.out, HVV.out, HBB.out, HKK.out]
    unfold cpuV
    rintro e9 w5 ⟨a1, b1, e1, q1, ca1, cb1, ce1, cq1, rfl, hin, k⟩
    have hsl := hin.sl
    have Beln := hide (below_kept Bel.out k (by omega))
    have WAn := hide (WA.out.kept k (by omega))
    have S0n := hide (S0.out.kept k (by omega))
    have W0n := hide (W0.out.kept k (by omega))
    have O3n := hide (O3.out.kept k (by omega))
    have VAn := hide (VA.out.kept k (by omega))
    clear Bel WA S0 W0 O3 VA
    have Bel := Beln
    have WA := WAn
    have S0 := S0n
    have W0 := W0n
    have O3 := O3n
    have VA := VAn
    clear Beln WAn S0n W0n O3n VAn
    have nw5 := k.size
    have S1 := hide hsl
    clear k hin hsl
    have ka : Kept 0 0 w5 (w5.alloc (.cells #[.slice a1 D.r.xs.length ca1, .slice b1 D.r.ys.length cb1, .int .i64 D.r.o, .int .i64 D.r.p, .int .i64 D.r.f, .int .i64 D.r.m, .bool D.r.s, .bool D.r.t, .slice e1 D.bx.length ce1, .slice q1 D.bm cq1, .bool D.st, .bool D.ha] 29)) := kept_alloc w5 _
    have Beln := hide (below_kept Bel.out ka (by omega))
    have WAn := hide (WA.out.kept ka (by omega))
    have S0n := hide (S0.out.kept ka (by omega))
    have W0n := hide (W0.out.kept ka (by omega))
    have O3n := hide (O3.out.kept ka (by omega))
    have VAn := hide (VA.out.kept ka (by omega))
    have S1n := hide (S1.out.kept ka (by omega))
    clear Bel WA S0 W0 O3 VA S1
    have Bel := Beln
    have WA := WAn
    have S0 := S0n
    have W0 := W0n
    have O3 := O3n
    have VA := VAn
    have S1 := S1n
    clear Beln WAn S0n W0n O3n VAn S1n
    have B0 := (Blk.new w5 #[.slice a1 D.r.xs.length ca1, .slice b1 D.r.ys.length cb1, .int .i64 D.r.o, .int .i64 D.r.p, .int .i64 D.r.f, .int .i64 D.r.m, .bool D.r.s, .bool D.r.t, .slice e1 D.bx.length ce1, .slice q1 D.bm cq1, .bool D.st, .bool D.ha] 29)
    obtain ⟨X5, hX5⟩ : ∃ X : World, (w5.alloc (.cells #[.slice a1 D.r.xs.length ca1, .slice b1 D.r.ys.length cb1, .int .i64 D.r.o, .int .i64 D.r.p, .int .i64 D.r.f, .int .i64 D.r.m, .bool D.r.s, .bool D.r.t, .slice e1 D.bx.length ce1, .slice q1 D.bm cq1, .bool D.st, .bool D.ha] 29)) = X := ⟨_, rfl⟩
    have nX5 : X5.heap.size = w5.heap.size + 1 := by simp [← hX5]
    rw [hX5] at Bel WA S0 W0 O3 VA S1 B0
    have W1 := hide B0
    clear ka B0
    have p0_0 := W1.out.cell (i := 0) rfl
    have p0_1 := W1.out.cell (i := 1) rfl
    have p0_2 := W1.out.cell (i := 2) rfl
    have p0_3 := W1.out.cell (i := 3) rfl
    have p0_4 := W1.out.cell (i := 4) rfl
    have p0_5 := W1.out.cell (i := 5) rfl
    have p0_6 := W1.out.cell (i := 6) rfl
    have p0_7 := W1.out.cell (i := 7) rfl
    have p0_8 := W1.out.cell (i := 8) rfl
    have p0_9 := W1.out.cell (i := 9) rfl
    have p0_10 := W1.out.cell (i := 10) rfl
    have p0_11 := W1.out.cell (i := 11) rfl
    have p1_0 := W0.out.cell (i := 0) rfl
    have p1_1 := W0.out.cell (i := 1) rfl
    have p1_2 := W0.out.cell (i := 2) rfl
    have p1_3 := W0.out.cell (i := 3) rfl
    have p1_4 := W0.out.cell (i := 4) rfl
    have p1_5 := W0.out.cell (i := 5) rfl
    have p1_6 := W0.out.cell (i := 6) rfl
    have p1_7 := W0.out.cell (i := 7) rfl
    have p1_8 := W0.out.cell (i := 8) rfl
    have p1_9 := W0.out.cell (i := 9) rfl
    have p1_10 := W0.out.cell (i := 10) rfl
    have p1_11 := W0.out.cell (i := 11) rfl
    go_wp2_with fail
    clear p0_0 p0_1 p0_2 p0_3 p0_4 p0_5 p0_6 p0_7 p0_8 p0_9 p0_10 p0_11 p1_0 p1_1 p1_2 p1_3 p1_4 p1_5 p1_6 p1_7 p1_8 p1_9 p1_10 p1_11 hX5
    refine (eqCpu _ D a1 b1 e1 q1 a0 b0 e0 q0 _ _ _ _ _ _ _ _ S1.out.d.row S1.out.a'.row S1.out.b'.row S1.out.l.row S0.out.d.row S0.out.a'.row S0.out.b'.row S0.out.l.row (by omega) (by omega) (by omega) HDL.out (by omega)).mono ?_
    rintro e9 w6 ⟨rfl, k⟩
    have Beln := hide (below_kept Bel.out k (by omega))
    have WAn := hide (WA.out.kept k (by omega))
    have S0n := hide (S0.out.kept k (by omega))
    have W0n := hide (W0.out.kept k (by omega))
    have O3n := hide (O3.out.kept k (by omega))
    have VAn := hide (VA.out.kept k (by omega))
    have S1n := hide (S1.out.kept k (by omega))
    have W1n := hide (W1.out.kept k (by omega))
    clear Bel WA S0 W0 O3 VA S1 W1
    have Bel := Beln
    have WA := WAn
    have S0 := S0n
    have W0 := W0n
    have O3 := O3n
    have VA := VAn
    have S1 := S1n
    have W1 := W1n
    clear Beln WAn S0n W0n O3n VAn S1n W1n
    have nw6 := k.size
    clear k
    have p0_0 := WA.out.cell (i := 0) rfl
    have p0_1 := WA.out.cell (i := 1) rfl
    have p0_2 := WA.out.cell (i := 2) rfl
    have p0_3 := WA.out.cell (i := 3) rfl
    have p0_4 := WA.out.cell (i := 4) rfl
    have p0_5 := WA.out.cell (i := 5) rfl
    have p0_6 := WA.out.cell (i := 6) rfl
    have p0_7 := WA.out.cell (i := 7) rfl
    have p0_8 := WA.out.cell (i := 8) rfl
    have p0_9 := WA.out.cell (i := 9) rfl
    have p0_10 := WA.out.cell (i := 10) rfl
    have p0_11 := WA.out.cell (i := 11) rfl
    have p1_0 := VA.out.cell (i := 0) rfl
    have p1_1 := VA.out.cell (i := 1) rfl
    have p1_2 := VA.out.cell (i := 2) rfl
    have p1_3 := VA.out.cell (i := 3) rfl
    have p1_4 := VA.out.cell (i := 4) rfl
    have p1_5 := VA.out.cell (i := 5) rfl
    have p1_6 := VA.out.cell (i := 6) rfl
    have p1_7 := VA.out.cell (i := 7) rfl
    have p1_8 := VA.out.cell (i := 8) rfl
    have p1_9 := VA.out.cell (i := 9) rfl
    have p1_10 := VA.out.cell (i := 10) rfl
    have p1_11 := VA.out.cell (i := 11) rfl
    go_upto_region 10 with fail
    go_cut [61, 62, 63, 64, 65] (fun _ _ _ _ t wx => t = .bool false ∧ Kept 0 0 w6 wx)
    case first =>
      go_region_with (first | (go_at_call 18; refine (toCpu _ d a b e q ca cb ce cq (HX.out.below Bel.out.drew).1 (HY.out.below Bel.out.drew).1 (HZ.out.below Bel.out.drew).1 (HQ.out.below Bel.out.drew).1 bx by_ bz HLL.out bm).mono ?_; rintro e9 w7 ⟨g9, g10, g11, g12, rfl, hs9, kd⟩; have k := undrewK kd; have VN := hide (VA.out.kept0 k); have u0 := VN.out.cell (i := 0) rfl; have u1 := VN.out.cell (i := 1) rfl; have u2 := VN.out.cell (i := 2) rfl; have u3 := VN.out.cell (i := 3) rfl; have u4 := VN.out.cell (i := 4) rfl; have u5 := VN.out.cell (i := 5) rfl; have u6 := VN.out.cell (i := 6) rfl; have u7 := VN.out.cell (i := 7) rfl; have u8 := VN.out.cell (i := 8) rfl; have u9 := VN.out.cell (i := 9) rfl; have u10 := VN.out.cell (i := 10) rfl; have u11 := VN.out.cell (i := 11) rfl; have P3 := hide (O3.out.kept k (by omega)); have P5 := hide hs9; have K7 := hide k; clear k kd hs9) | (go_at_call 11; refine (eqCpu _ d _ _ _ _ _ _ _ _ _ _ _ _ _ _ _ _ P3.out.d.row P3.out.a'.row P3.out.b'.row P3.out.l.row P5.out.d.row P5.out.a'.row P5.out.b'.row P5.out.l.row bx by_ bz HLL.out bm).mono ?_; rintro e9 w8 ⟨rfl, k⟩; have K8 := hide (K7.out.trans k); clear k))
      all_goals
        go_wp2_with fail
        go_meet
        case rel => exact ⟨rfl, K8.out⟩
    case rest =>
      clear p0_0 p0_1 p0_2 p0_3 p0_4 p0_5 p0_6 p0_7 p0_8 p0_9 p0_10 p0_11 p1_0 p1_1 p1_2 p1_3 p1_4 p1_5 p1_6 p1_7 p1_8 p1_9 p1_10 p1_11
      rename_i wx
      obtain ⟨rfl, k⟩ := hcut
      have Beln := hide (below_kept Bel.out k (by omega))
      have WAn := hide (WA.out.kept k (by omega))
      have S0n := hide (S0.out.kept k (by omega))
      have W0n := hide (W0.out.kept k (by omega))
      have O3n := hide (O3.out.kept k (by omega))
      have VAn := hide (VA.out.kept k (by omega))
      have S1n := hide (S1.out.kept k (by omega))
      have W1n := hide (W1.out.kept k (by omega))
      clear Bel WA S0 W0 O3 VA S1 W1
      have Bel := Beln
      have WA := WAn
      have S0 := S0n
      have W0 := W0n
      have O3 := O3n
      have VA := VAn
      have S1 := S1n
      have W1 := W1n
      clear Beln WAn S0n W0n O3n VAn S1n W1n
      have nwx := k.size
      clear k
      have p0_0 := VA.out.cell (i := 0) rfl
      have p0_1 := VA.out.cell (i := 1) rfl
      have p0_2 := VA.out.cell (i := 2) rfl
      have p0_3 := VA.out.cell (i := 3) rfl
      have p0_4 := VA.out.cell (i := 4) rfl
      have p0_5 := VA.out.cell (i := 5) rfl
      have p0_6 := VA.out.cell (i := 6) rfl
      have p0_7 := VA.out.cell (i := 7) rfl
      have p0_8 := VA.out.cell (i := 8) rfl
      have p0_9 := VA.out.cell (i := 9) rfl
      have p0_10 := VA.out.cell (i := 10) rfl
      have p0_11 := VA.out.cell (i := 11) rfl
      go_wp2_with fail
      clear p0_0 p0_1 p0_2 p0_3 p0_4 p0_5 p0_6 p0_7 p0_8 p0_9 p0_10 p0_11
      refine (markCpu _ X3.heap.size w4.heap.size d _ _ _ _ _ _ _ _ O3.out (by omega) bx by_ bz HLL.out bm).mono ?_
      rintro e9 w9 ⟨rfl, _, k⟩
      clear O3
      have Beln := hide (below_kept Bel.out k (by omega))
      have WAn := hide (WA.out.kept k (by omega))
      have S0n := hide (S0.out.kept k (by omega))
      have W0n := hide (W0.out.kept k (by omega))
      have VAn := hide (VA.out.kept k (by omega))
      have S1n := hide (S1.out.kept k (by omega))
      have W1n := hide (W1.out.kept k (by omega))
      clear Bel WA S0 W0 VA S1 W1
      have Bel := Beln
      have WA := WAn
      have S0 := S0n
      have W0 := W0n
      have VA := VAn
      have S1 := S1n
      have W1 := W1n
      clear Beln WAn S0n W0n VAn S1n W1n
      have nw9 := k.size
      clear k
      have hmk : ¬ (Pl.mkN d 1 < 0) := by unfold Pl.mkN; omega
      have p0_0 := W1.out.cell (i := 0) rfl
      have p0_1 := W1.out.cell (i := 1) rfl
      have p0_2 := W1.out.cell (i := 2) rfl
      have p0_3 := W1.out.cell (i := 3) rfl
      have p0_4 := W1.out.cell (i := 4) rfl
      have p0_5 := W1.out.cell (i := 5) rfl
      have p0_6 := W1.out.cell (i := 6) rfl
      have p0_7 := W1.out.cell (i := 7) rfl
      have p0_8 := W1.out.cell (i := 8) rfl
      have p0_9 := W1.out.cell (i := 9) rfl
      have p0_10 := W1.out.cell (i := 10) rfl
      have p0_11 := W1.out.cell (i := 11) rfl
      have p1_0 := W0.out.cell (i := 0) rfl
      have p1_1 := W0.out.cell (i := 1) rfl
      have p1_2 := W0.out.cell (i := 2) rfl
      have p1_3 := W0.out.cell (i := 3) rfl
      have p1_4 := W0.out.cell (i := 4) rfl
      have p1_5 := W0.out.cell (i := 5) rfl
      have p1_6 := W0.out.cell (i := 6) rfl
      have p1_7 := W0.out.cell (i := 7) rfl
      have p1_8 := W0.out.cell (i := 8) rfl
      have p1_9 := W0.out.cell (i := 9) rfl
      have p1_10 := W0.out.cell (i := 10) rfl
      have p1_11 := W0.out.cell (i := 11) rfl
      go_wp2_with fail
      clear p0_0 p0_1 p0_2 p0_3 p0_4 p0_5 p0_6 p0_7 p0_8 p0_9 p0_10 p0_11 p1_0 p1_1 p1_2 p1_3 p1_4 p1_5 p1_6 p1_7 p1_8 p1_9 p1_10 p1_11
      refine (eqCpu _ D a1 b1 e1 q1 a0 b0 e0 q0 _ _ _ _ _ _ _ _ S1.out.d.row S1.out.a'.row S1.out.b'.row S1.out.l.row S0.out.d.row S0.out.a'.row S0.out.b'.row S0.out.l.row (by omega) (by omega) (by omega) HDL.out (by omega)).mono ?_
      rintro e9 w10 ⟨rfl, k⟩
      have Beln := hide (below_kept Bel.out k (by omega))
      have WAn := hide (WA.out.kept k (by omega))
      have S0n := hide (S0.out.kept k (by omega))
      have W0n := hide (W0.out.kept k (by omega))
      have VAn := hide (VA.out.kept k (by omega))
      have S1n := hide (S1.out.kept k (by omega))
      have W1n := hide (W1.out.kept k (by omega))
      clear Bel WA S0 W0 VA S1 W1
      have Bel := Beln
      have WA := WAn
      have S0 := S0n
      have W0 := W0n
      have VA := VAn
      have S1 := S1n
      have W1 := W1n
      clear Beln WAn S0n W0n VAn S1n W1n
      have nw10 := k.size
      clear k
      have p0_0 := W1.out.cell (i := 0) rfl
      have p0_1 := W1.out.cell (i := 1) rfl
      have p0_2 := W1.out.cell (i := 2) rfl
      have p0_3 := W1.out.cell (i := 3) rfl
      have p0_4 := W1.out.cell (i := 4) rfl
      have p0_5 := W1.out.cell (i := 5) rfl
      have p0_6 := W1.out.cell (i := 6) rfl
      have p0_7 := W1.out.cell (i := 7) rfl
      have p0_8 := W1.out.cell (i := 8) rfl
      have p0_9 := W1.out.cell (i := 9) rfl
      have p0_10 := W1.out.cell (i := 10) rfl
      have p0_11 := W1.out.cell (i := 11) rfl
      go_wp2_with fail
      clear p0_0 p0_1 p0_2 p0_3 p0_4 p0_5 p0_6 p0_7 p0_8 p0_9 p0_10 p0_11
      refine (markCpu _ X4.heap.size w5.heap.size D a1 b1 e1 q1 _ _ _ _ S1.out (by omega) (by omega) (by omega) (by omega) HDL.out (by omega)).mono ?_
      rintro e9 w11 ⟨rfl, hm9, k⟩
      clear S1
      have Beln := hide (below_kept Bel.out k (by omega))
      have WAn := hide (WA.out.kept k (by omega))
      have S0n := hide (S0.out.kept k (by omega))
      have W0n := hide (W0.out.kept k (by omega))
      have VAn := hide (VA.out.kept k (by omega))
      have W1n := hide (W1.out.kept k (by omega))
      clear Bel WA S0 W0 VA W1
      have Bel := Beln
      have WA := WAn
      have S0 := S0n
      have W0 := W0n
      have VA := VAn
      have W1 := W1n
      clear Beln WAn S0n W0n VAn W1n
      have M1 := hide hm9
      have nw11 := k.size
      clear k hm9
      have p0_0 := W1.out.cell (i := 0) rfl
      have p0_1 := W1.out.cell (i := 1) rfl
      have p0_2 := W1.out.cell (i := 2) rfl
      have p0_3 := W1.out.cell (i := 3) rfl
      have p0_4 := W1.out.cell (i := 4) rfl
      have p0_5 := W1.out.cell (i := 5) rfl
      have p0_6 := W1.out.cell (i := 6) rfl
      have p0_7 := W1.out.cell (i := 7) rfl
      have p0_8 := W1.out.cell (i := 8) rfl
      have p0_9 := W1.out.cell (i := 9) rfl
      have p0_10 := W1.out.cell (i := 10) rfl
      have p0_11 := W1.out.cell (i := 11) rfl
      go_wp2_with fail
      clear p0_0 p0_1 p0_2 p0_3 p0_4 p0_5 p0_6 p0_7 p0_8 p0_9 p0_10 p0_11
      have hmD : ¬ (Pl.mkN D 1 < 0) := by unfold Pl.mkN; omega
      refine (heldCpu _ D a1 b1 e1 q1 _ _ _ _ M1.out.d.row M1.out.a'.row M1.out.b'.row M1.out.l.row (by omega) (by omega) (by omega) (by omega)).mono ?_
      rintro e9 w12 ⟨rfl, k⟩
      have Beln := hide (below_kept Bel.out k (by omega))
      have WAn := hide (WA.out.kept k (by omega))
      have S0n := hide (S0.out.kept k (by omega))
      have W0n := hide (W0.out.kept k (by omega))
      have VAn := hide (VA.out.kept k (by omega))
      have W1n := hide (W1.out.kept k (by omega))
      have M1n := hide (M1.out.kept k (by omega))
      clear Bel WA S0 W0 VA W1 M1
      have Bel := Beln
      have WA := WAn
      have S0 := S0n
      have W0 := W0n
      have VA := VAn
      have W1 := W1n
      have M1 := M1n
      clear Beln WAn S0n W0n VAn W1n M1n
      have nw12 := k.size
      clear k
      have p0_0 := WA.out.cell (i := 0) rfl
      have p0_1 := WA.out.cell (i := 1) rfl
      have p0_2 := WA.out.cell (i := 2) rfl
      have p0_3 := WA.out.cell (i := 3) rfl
      have p0_4 := WA.out.cell (i := 4) rfl
      have p0_5 := WA.out.cell (i := 5) rfl
      have p0_6 := WA.out.cell (i := 6) rfl
      have p0_7 := WA.out.cell (i := 7) rfl
      have p0_8 := WA.out.cell (i := 8) rfl
      have p0_9 := WA.out.cell (i := 9) rfl
      have p0_10 := WA.out.cell (i := 10) rfl
      have p0_11 := WA.out.cell (i := 11) rfl
      go_wp2_with fail
      clear p0_0 p0_1 p0_2 p0_3 p0_4 p0_5 p0_6 p0_7 p0_8 p0_9 p0_10 p0_11
      refine (toCpu _ d a b e q ca cb ce cq (HX.out.below Bel.out).1 (HY.out.below Bel.out).1 (HZ.out.below Bel.out).1 (HQ.out.below Bel.out).1 bx by_ bz HLL.out bm).mono ?_
      rintro e9 w13 ⟨h1, h2, h3, h4, rfl, hs9, k⟩
      have Beln := hide (below_kept Bel.out k (by omega))
      have WAn := hide (WA.out.kept k (by omega))
      have S0n := hide (S0.out.kept k (by omega))
      have W0n := hide (W0.out.kept k (by omega))
      have VAn := hide (VA.out.kept k (by omega))
      have W1n := hide (W1.out.kept k (by omega))
      have M1n := hide (M1.out.kept k (by omega))
      clear Bel WA S0 W0 VA W1 M1
      have Bel := Beln
      have WA := WAn
      have S0 := S0n
      have W0 := W0n
      have VA := VAn
      have W1 := W1n
      have M1 := M1n
      clear Beln WAn S0n W0n VAn W1n M1n
      have nw13 := k.size
      have O5 := hide hs9
      clear k hs9
      go_wp2_with fail
      refine (implPopWord _ d _ _ _ _ _ _ _ _ ⟨O5.out.d.row, HX.out.2⟩ ⟨O5.out.a'.row, HY.out.2⟩ ⟨O5.out.b'.row, HZ.out.2⟩ ⟨O5.out.l.row, HQ.out.2⟩ bx by_ bz HLL.out bm HWF.out).mono ?_
      rw [HDD.out, HVV.out, HBB.out, HKK.out]
      unfold cpuV
      rintro e9 w14 ⟨a2, b2, e2, q2, ca2, cb2, ce2, cq2, rfl, hin, k⟩
      have hsl := hin.sl
      have Beln := hide (below_kept Bel.out k (by omega))
      have WAn := hide (WA.out.kept k (by omega))
      have S0n := hide (S0.out.kept k (by omega))
      have W0n := hide (W0.out.kept k (by omega))
      have VAn := hide (VA.out.kept k (by omega))
      have W1n := hide (W1.out.kept k (by omega))
      have M1n := hide (M1.out.kept k (by omega))
      have O5n := hide (O5.out.kept k (by omega))
      clear Bel WA S0 W0 VA W1 M1 O5
      have Bel := Beln
      have WA := WAn
      have S0 := S0n
      have W0 := W0n
      have VA := VAn
      have W1 := W1n
      have M1 := M1n
      have O5 := O5n
      clear Beln WAn S0n W0n VAn W1n M1n O5n
      have nw14 := k.size
      have S2 := hide hsl
      clear k hin hsl
      clear O5
      have ka : Kept 0 0 w14 (w14.alloc (.cells #[.slice a2 D.r.xs.length ca2, .slice b2 D.r.ys.length cb2, .int .i64 D.r.o, .int .i64 D.r.p, .int .i64 D.r.f, .int .i64 D.r.m, .bool D.r.s, .bool D.r.t, .slice e2 D.bx.length ce2, .slice q2 D.bm cq2, .bool D.st, .bool D.ha] 29)) := kept_alloc w14 _
      have Beln := hide (below_kept Bel.out ka (by omega))
      have WAn := hide (WA.out.kept ka (by omega))
      have S0n := hide (S0.out.kept ka (by omega))
      have W0n := hide (W0.out.kept ka (by omega))
      have VAn := hide (VA.out.kept ka (by omega))
      have W1n := hide (W1.out.kept ka (by omega))
      have M1n := hide (M1.out.kept ka (by omega))
      have S2n := hide (S2.out.kept ka (by omega))
      clear Bel WA S0 W0 VA W1 M1 S2
      have Bel := Beln
      have WA := WAn
      have S0 := S0n
      have W0 := W0n
      have VA := VAn
      have W1 := W1n
      have M1 := M1n
      have S2 := S2n
      clear Beln WAn S0n W0n VAn W1n M1n S2n
      have B0 := (Blk.new w14 #[.slice a2 D.r.xs.length ca2, .slice b2 D.r.ys.length cb2, .int .i64 D.r.o, .int .i64 D.r.p, .int .i64 D.r.f, .int .i64 D.r.m, .bool D.r.s, .bool D.r.t, .slice e2 D.bx.length ce2, .slice q2 D.bm cq2, .bool D.st, .bool D.ha] 29)
      obtain ⟨X14, hX14⟩ : ∃ X : World, (w14.alloc (.cells #[.slice a2 D.r.xs.length ca2, .slice b2 D.r.ys.length cb2, .int .i64 D.r.o, .int .i64 D.r.p, .int .i64 D.r.f, .int .i64 D.r.m, .bool D.r.s, .bool D.r.t, .slice e2 D.bx.length ce2, .slice q2 D.bm cq2, .bool D.st, .bool D.ha] 29)) = X := ⟨_, rfl⟩
      have nX14 : X14.heap.size = w14.heap.size + 1 := by simp [← hX14]
      rw [hX14] at Bel WA S0 W0 VA W1 M1 S2 B0
      have W2 := hide B0
      clear ka B0
      have p0_0 := W2.out.cell (i := 0) rfl
      have p0_1 := W2.out.cell (i := 1) rfl
      have p0_2 := W2.out.cell (i := 2) rfl
      have p0_3 := W2.out.cell (i := 3) rfl
      have p0_4 := W2.out.cell (i := 4) rfl
      have p0_5 := W2.out.cell (i := 5) rfl
      have p0_6 := W2.out.cell (i := 6) rfl
      have p0_7 := W2.out.cell (i := 7) rfl
      have p0_8 := W2.out.cell (i := 8) rfl
      have p0_9 := W2.out.cell (i := 9) rfl
      have p0_10 := W2.out.cell (i := 10) rfl
      have p0_11 := W2.out.cell (i := 11) rfl
      have p1_0 := W0.out.cell (i := 0) rfl
      have p1_1 := W0.out.cell (i := 1) rfl
      have p1_2 := W0.out.cell (i := 2) rfl
      have p1_3 := W0.out.cell (i := 3) rfl
      have p1_4 := W0.out.cell (i := 4) rfl
      have p1_5 := W0.out.cell (i := 5) rfl
      have p1_6 := W0.out.cell (i := 6) rfl
      have p1_7 := W0.out.cell (i := 7) rfl
      have p1_8 := W0.out.cell (i := 8) rfl
      have p1_9 := W0.out.cell (i := 9) rfl
      have p1_10 := W0.out.cell (i := 10) rfl
      have p1_11 := W0.out.cell (i := 11) rfl
      go_wp2_with fail
      clear p0_0 p0_1 p0_2 p0_3 p0_4 p0_5 p0_6 p0_7 p0_8 p0_9 p0_10 p0_11 p1_0 p1_1 p1_2 p1_3 p1_4 p1_5 p1_6 p1_7 p1_8 p1_9 p1_10 p1_11 hX14
      refine (eqCpu _ D a2 b2 e2 q2 a0 b0 e0 q0 _ _ _ _ _ _ _ _ S2.out.d.row S2.out.a'.row S2.out.b'.row S2.out.l.row S0.out.d.row S0.out.a'.row S0.out.b'.row S0.out.l.row (by omega) (by omega) (by omega) HDL.out (by omega)).mono ?_
      rintro e9 w15 ⟨rfl, k⟩
      have Beln := hide (below_kept Bel.out k (by omega))
      have WAn := hide (WA.out.kept k (by omega))
      have S0n := hide (S0.out.kept k (by omega))
      have W0n := hide (W0.out.kept k (by omega))
      have VAn := hide (VA.out.kept k (by omega))
      have W1n := hide (W1.out.kept k (by omega))
      have M1n := hide (M1.out.kept k (by omega))
      have S2n := hide (S2.out.kept k (by omega))
      have W2n := hide (W2.out.kept k (by omega))
      clear Bel WA S0 W0 VA W1 M1 S2 W2
      have Bel := Beln
      have WA := WAn
      have S0 := S0n
      have W0 := W0n
      have VA := VAn
      have W1 := W1n
      have M1 := M1n
      have S2 := S2n
      have W2 := W2n
      clear Beln WAn S0n W0n VAn W1n M1n S2n W2n
      have nw15 := k.size
      clear k
      have p0_0 := W1.out.cell (i := 0) rfl
      have p0_1 := W1.out.cell (i := 1) rfl
      have p0_2 := W1.out.cell (i := 2) rfl
      have p0_3 := W1.out.cell (i := 3) rfl
      have p0_4 := W1.out.cell (i := 4) rfl
      have p0_5 := W1.out.cell (i := 5) rfl
      have p0_6 := W1.out.cell (i := 6) rfl
      have p0_7 := W1.out.cell (i := 7) rfl
      have p0_8 := W1.out.cell (i := 8) rfl
      have p0_9 := W1.out.cell (i := 9) rfl
      have p0_10 := W1.out.cell (i := 10) rfl
      have p0_11 := W1.out.cell (i := 11) rfl
      go_wp2_with fail
      clear p0_0 p0_1 p0_2 p0_3 p0_4 p0_5 p0_6 p0_7 p0_8 p0_9 p0_10 p0_11
      refine (heldCpu _ D a1 b1 e1 q1 _ _ _ _ M1.out.d.row M1.out.a'.row M1.out.b'.row M1.out.l.row (by omega) (by omega) (by omega) (by omega)).mono ?_
      rintro e9 w16 ⟨rfl, k⟩
      have Beln := hide (below_kept Bel.out k (by omega))
      have WAn := hide (WA.out.kept k (by omega))
      have S0n := hide (S0.out.kept k (by omega))
      have W0n := hide (W0.out.kept k (by omega))
      have VAn := hide (VA.out.kept k (by omega))
      have W1n := hide (W1.out.kept k (by omega))
      have M1n := hide (M1.out.kept k (by omega))
      have S2n := hide (S2.out.kept k (by omega))
      have W2n := hide (W2.out.kept k (by omega))
      clear Bel WA S0 W0 VA W1 M1 S2 W2
      have Bel := Beln
      have WA := WAn
      have S0 := S0n
      have W0 := W0n
      have VA := VAn
      have W1 := W1n
      have M1 := M1n
      have S2 := S2n
      have W2 := W2n
      clear Beln WAn S0n W0n VAn W1n M1n S2n W2n
      have nw16 := k.size
      clear k
      go_wp2_with fail
      go_ret
      exact ⟨rfl, Bel.out⟩
end Go.Proofs.Ytblddehlkaolbaa

