/- The law on StepCpu: of whatever arguments, its Go function returns true, and no block that was there has turned. From what a row says of the program's two tables to what our contracts ask of them. A processor that came in to a law, opened: four lists that lie in memory, the accesses spoken of as the row of their numbers. -/
import Derived.Test.YtblddehlkaolbaaGreatDoorJA3
import Derived.Test.YtblddehlkaolbaaGreatDoorJA23
import Derived.Test.YtblddehlkaolbaaGreatDoorJA37
import Derived.Deep.DeepCutAuto
import Derived.Test.YtblddehlkaolbaaGreatDoorRows
import Derived.Test.YtblddehlkaolbaaGreatDoorJA34
import Derived.Lib.LaidTab
import Derived.Stop.LaidErr
import Derived.LaidMore
import Derived.Test.YtblddehlkaolbaaGreatDoorJA2
import Derived.Lib.SmallJoins
import Derived.Deep.Slices
import Derived.ProofKit
import Derived.OpenShut
namespace Go.Proofs.YtblddehlkaolbaaGreatDoor
open Go.RowKit
set_option linter.unusedVariables false
set_option maxRecDepth 100000 in
set_option maxHeartbeats 16000000 in
theorem lawStepCpu (d : Pl.Cp) (a b e q : Option Addr) (ca cb ce cq : Nat) (w : World) (ht : TabS w) (hn : TabN w) (hx : Came w a d.r.xs) (hy : Came w b d.r.ys) (hz : Came w e d.bx) (hq : Came w q d.bl) (lx : d.r.xs.length ≤ 9223372036854775807) (ly : d.r.ys.length ≤ 9223372036854775807) (lz : d.bx.length ≤ 9223372036854775807) (lm : d.bm ≤ 9223372036854775807) (ll : d.bl.length = 5 * d.bm) (wfd : Pl.WfR d.r) :
    Calls Tryz.prog 3 #[.agg #[.slice a d.r.xs.length ca, .slice b d.r.ys.length cb, .int .i64 d.r.o, .int .i64 d.r.p, .int .i64 d.r.f, .int .i64 d.r.m, .bool d.r.s, .bool d.r.t, .slice e d.bx.length ce, .slice q d.bm cq, .bool d.st, .bool d.ha]] w fun e w' => e = .returned (.bool true) ∧ Below w.heap.size w w' := by
  have HS := hide ht
  have HT := hide hn
  have HX := hide hx
  have HY := hide hy
  have HZ := hide hz
  have HQ := hide hq
  have HWF := hide wfd
  have HLL := hide ll
  have Bel := hide (kept_alloc w (.cells #[.slice a d.r.xs.length ca, .slice b d.r.ys.length cb, .int .i64 d.r.o, .int .i64 d.r.p, .int .i64 d.r.f, .int .i64 d.r.m, .bool d.r.s, .bool d.r.t, .slice e d.bx.length ce, .slice q d.bm cq, .bool d.st, .bool d.ha] 29)).below
  have WA := hide (Blk.new w #[.slice a d.r.xs.length ca, .slice b d.r.ys.length cb, .int .i64 d.r.o, .int .i64 d.r.p, .int .i64 d.r.f, .int .i64 d.r.m, .bool d.r.s, .bool d.r.t, .slice e d.bx.length ce, .slice q d.bm cq, .bool d.st, .bool d.ha] 29)
  obtain ⟨X0, hX0⟩ : ∃ X : World, w.alloc (.cells #[.slice a d.r.xs.length ca, .slice b d.r.ys.length cb, .int .i64 d.r.o, .int .i64 d.r.p, .int .i64 d.r.f, .int .i64 d.r.m, .bool d.r.s, .bool d.r.t, .slice e d.bx.length ce, .slice q d.bm cq, .bool d.st, .bool d.ha] 29) = X := ⟨_, rfl⟩
  have nX0 : X0.heap.size = w.heap.size + 1 := by simp [← hX0]
  rw [hX0] at Bel WA
  have hln := Pl.sc_len d ll
  clear ht hn hx hy hz hq wfd ll
  by_cases hs : szC d.r.xs.length d.r.ys.length d.bx.length d.bm 1048576 < 0
  · go_enter Tryz.func3, Tryz.ntmps3
    have p0_0 := WA.out.cell (i := 0) rfl
    have p0_1 := WA.out.cell (i := 1) rfl
    have p0_2 := WA.out.cell (i := 2) rfl
    have p0_3 := WA.out.cell (i := 3) rfl
    have p0_4 := WA.out.cell (i := 4) rfl
    have p0_5 := WA.out.cell (i := 5) rfl
    have p0_6 := WA.out.cell (i := 6) rfl
    have p0_7 := WA.out.cell (i := 7) rfl
    have p0_8 := WA.out.cell (i := 8) rfl
    have p0_9 := WA.out.cell (i := 9) rfl
    have p0_10 := WA.out.cell (i := 10) rfl
    have p0_11 := WA.out.cell (i := 11) rfl
    go_wp2_with fail
    refine (szCpu _ d a b e q ca cb ce cq 1048576 lx ly lz lm (by decide) (by decide)).mono ?_
    rintro e9 w1 ⟨rfl, k⟩
    have Bn := hide (below_kept Bel.out k (by omega))
    clear k
    go_wp2_with fail
    go_ret
    exact ⟨rfl, Bn.out⟩
  · have hb := szC_neg hs
    have bx : d.r.xs.length ≤ 2000000 := by omega
    have by_ : d.r.ys.length ≤ 2000000 := by omega
    have bz : d.bx.length ≤ 2000000 := by omega
    have bm : d.bm ≤ 2000000 := by omega
    have ds : decide (szC d.r.xs.length d.r.ys.length d.bx.length d.bm 1048576 < 0) = false := by simpa using hs
    clear hs hb
    generalize hDD : Pl.scC d = D at hln
    generalize hFF : Pl.scF d = F
    generalize hKK : Pl.scOk d = K
    obtain ⟨bD, bE, bF, bL, bM⟩ := hln
    have HDL := hide bL
    have HDD := hide hDD
    have HFF := hide hFF
    have HKK := hide hKK
    clear bL hDD hFF hKK
    go_enter Tryz.func3, Tryz.ntmps3
    have p0_0 := WA.out.cell (i := 0) rfl
    have p0_1 := WA.out.cell (i := 1) rfl
    have p0_2 := WA.out.cell (i := 2) rfl
    have p0_3 := WA.out.cell (i := 3) rfl
    have p0_4 := WA.out.cell (i := 4) rfl
    have p0_5 := WA.out.cell (i := 5) rfl
    have p0_6 := WA.out.cell (i := 6) rfl
    have p0_7 := WA.out.cell (i := 7) rfl
    have p0_8 := WA.out.cell (i := 8) rfl
    have p0_9 := WA.out.cell (i := 9) rfl
    have p0_10 := WA.out.cell (i := 10) rfl
    have p0_11 := WA.out.cell (i := 11) rfl
    go_wp2_with fail
    clear p0_0 p0_1 p0_2 p0_3 p0_4 p0_5 p0_6 p0_7 p0_8 p0_9 p0_10 p0_11
    refine (szCpu _ d a b e q ca cb ce cq 1048576 lx ly lz lm (by decide) (by decide)).mono ?_
    rintro e9 w1 ⟨rfl, k⟩
    have Beln := hide (below_kept Bel.out k (by omega))
    have WAn := hide (WA.out.kept k (by omega))
    clear Bel WA
    have Bel := Beln
    have WA := WAn
    clear Beln WAn
    have nw1 := k.size
    clear k
    clear hX0
    have p0_0 := WA.out.cell (i := 0) rfl
    have p0_1 := WA.out.cell (i := 1) rfl
    have p0_2 := WA.out.cell (i := 2) rfl
    have p0_3 := WA.out.cell (i := 3) rfl
    have p0_4 := WA.out.cell (i := 4) rfl
    have p0_5 := WA.out.cell (i := 5) rfl
    have p0_6 := WA.out.cell (i := 6) rfl
    have p0_7 := WA.out.cell (i := 7) rfl
    have p0_8 := WA.out.cell (i := 8) rfl
    have p0_9 := WA.out.cell (i := 9) rfl
    have p0_10 := WA.out.cell (i := 10) rfl
    have p0_11 := WA.out.cell (i := 11) rfl
    go_wp2_with fail
    clear p0_0 p0_1 p0_2 p0_3 p0_4 p0_5 p0_6 p0_7 p0_8 p0_9 p0_10 p0_11 ds
    refine (toCpu _ d a b e q ca cb ce cq (HX.out.below Bel.out).1 (HY.out.below Bel.out).1 (HZ.out.below Bel.out).1 (HQ.out.below Bel.out).1 bx by_ bz HLL.out bm).mono ?_
    rintro e9 w2 ⟨g1, g2, g3, g4, rfl, hs9, k⟩
    have Beln := hide (below_kept Bel.out k (by omega))
    have WAn := hide (WA.out.kept k (by omega))
    clear Bel WA
    have Bel := Beln
    have WA := WAn
    clear Beln WAn
    have nw2 := k.size
    have O1 := hide hs9
    clear k hs9
    go_wp2_with fail
    refine (specStepCpu _ d _ _ _ _ _ _ _ _ O1.out.d.row O1.out.a'.row O1.out.b'.row O1.out.l.row bx by_ bz HLL.out bm).mono ?_
    rw [HDD.out, HFF.out, HKK.out]
    unfold cpuV ftC
    rintro e9 w3 ⟨a0, b0, e0, q0, ca0, cb0, ce0, cq0, rfl, hin, k⟩
    have hsl := hin.sl
    have Beln := hide (below_kept Bel.out k (by omega))
    have WAn := hide (WA.out.kept k (by omega))
    have O1n := hide (O1.out.kept k (by omega))
    clear Bel WA O1
    have Bel := Beln
    have WA := WAn
    have O1 := O1n
    clear Beln WAn O1n
    have nw3 := k.size
    have S0 := hide hsl
    clear k hin hsl
    clear O1
    have ka : Kept 0 0 w3 ((w3.alloc (.cells #[.slice a0 D.r.xs.length ca0, .slice b0 D.r.ys.length cb0, .int .i64 D.r.o, .int .i64 D.r.p, .int .i64 D.r.f, .int .i64 D.r.m, .bool D.r.s, .bool D.r.t, .slice e0 D.bx.length ce0, .slice q0 D.bm cq0, .bool D.st, .bool D.ha] 36)).alloc (.cells #[.int .i64 F.v, .int .i64 F.pc, .int .i64 F.ad, .int .i64 F.wo, .bool F.wr] 38)) := kept_new (kept_alloc w3 _) _
    have Beln := hide (below_kept Bel.out ka (by omega))
    have WAn := hide (WA.out.kept ka (by omega))
    have S0n := hide (S0.out.kept ka (by omega))
    clear Bel WA S0
    have Bel := Beln
    have WA := WAn
    have S0 := S0n
    clear Beln WAn S0n
    have B0 := ((Blk.new w3 #[.slice a0 D.r.xs.length ca0, .slice b0 D.r.ys.length cb0, .int .i64 D.r.o, .int .i64 D.r.p, .int .i64 D.r.f, .int .i64 D.r.m, .bool D.r.s, .bool D.r.t, .slice e0 D.bx.length ce0, .slice q0 D.bm cq0, .bool D.st, .bool D.ha] 36).alloc (.cells #[.int .i64 F.v, .int .i64 F.pc, .int .i64 F.ad, .int .i64 F.wo, .bool F.wr] 38))
    have B1 := (Blk.new (w3.alloc (.cells #[.slice a0 D.r.xs.length ca0, .slice b0 D.r.ys.length cb0, .int .i64 D.r.o, .int .i64 D.r.p, .int .i64 D.r.f, .int .i64 D.r.m, .bool D.r.s, .bool D.r.t, .slice e0 D.bx.length ce0, .slice q0 D.bm cq0, .bool D.st, .bool D.ha] 36)) #[.int .i64 F.v, .int .i64 F.pc, .int .i64 F.ad, .int .i64 F.wo, .bool F.wr] 38)
    simp only [World.size_alloc] at B1
    obtain ⟨X3, hX3⟩ : ∃ X : World, ((w3.alloc (.cells #[.slice a0 D.r.xs.length ca0, .slice b0 D.r.ys.length cb0, .int .i64 D.r.o, .int .i64 D.r.p, .int .i64 D.r.f, .int .i64 D.r.m, .bool D.r.s, .bool D.r.t, .slice e0 D.bx.length ce0, .slice q0 D.bm cq0, .bool D.st, .bool D.ha] 36)).alloc (.cells #[.int .i64 F.v, .int .i64 F.pc, .int .i64 F.ad, .int .i64 F.wo, .bool F.wr] 38)) = X := ⟨_, rfl⟩
    have nX3 : X3.heap.size = w3.heap.size + 2 := by simp [← hX3]
    rw [hX3] at Bel WA S0 B0 B1
    have W0 := hide B0
    have F0 := hide B1
    clear ka B0 B1
    have p0_0 := WA.out.cell (i := 0) rfl
    have p0_1 := WA.out.cell (i := 1) rfl
    have p0_2 := WA.out.cell (i := 2) rfl
    have p0_3 := WA.out.cell (i := 3) rfl
    have p0_4 := WA.out.cell (i := 4) rfl
    have p0_5 := WA.out.cell (i := 5) rfl
    have p0_6 := WA.out.cell (i := 6) rfl
    have p0_7 := WA.out.cell (i := 7) rfl
    have p0_8 := WA.out.cell (i := 8) rfl
    have p0_9 := WA.out.cell (i := 9) rfl
    have p0_10 := WA.out.cell (i := 10) rfl
    have p0_11 := WA.out.cell (i := 11) rfl
    go_wp2_with fail
    clear p0_0 p0_1 p0_2 p0_3 p0_4 p0_5 p0_6 p0_7 p0_8 p0_9 p0_10 p0_11 hX3
    refine (toCpu _ d a b e q ca cb ce cq (HX.out.below Bel.out).1 (HY.out.below Bel.out).1 (HZ.out.below Bel.out).1 (HQ.out.below Bel.out).1 bx by_ bz HLL.out bm).mono ?_
    rintro e9 w4 ⟨g5, g6, g7, g8, rfl, hs9, k⟩
    have Beln := hide (below_kept Bel.out k (by omega))
    have WAn := hide (WA.out.kept k (by omega))
    have S0n := hide (S0.out.kept k (by omega))
    have W0n := hide (W0.out.kept k (by omega))
    have F0n := hide (F0.out.kept k (by omega))
    clear Bel WA S0 W0 F0
    have Bel := Beln
    have WA := WAn
    have S0 := S0n
    have W0 := W0n
    have F0 := F0n
    clear Beln WAn S0n W0n F0n
    have nw4 := k.size
    have O3 := hide hs9
    clear k hs9
    have ka : Kept 0 0 w4 (w4.alloc (.cells #[.slice (some ⟨g5, 0, none⟩) d.r.xs.length d.r.xs.length, .slice (some ⟨g6, 0, none⟩) d.r.ys.length d.r.ys.length, .int .i64 d.r.o, .int .i64 d.r.p, .int .i64 d.r.f, .int .i64 d.r.m, .bool d.r.s, .bool d.r.t, .slice (some ⟨g7, 0, none⟩) d.bx.length d.bx.length, .slice (some ⟨g8, 0, none⟩) d.bm d.bm, .bool d.st, .bool d.ha] 36)) := kept_alloc w4 _
    have Beln := hide (below_kept Bel.out ka (by omega))
    have WAn := hide (WA.out.kept ka (by omega))
    have S0n := hide (S0.out.kept ka (by omega))
    have W0n := hide (W0.out.kept ka (by omega))
    have F0n := hide (F0.out.kept ka (by omega))
    have O3n := hide (O3.out.kept ka (by omega))
    clear Bel WA S0 W0 F0 O3
    have Bel := Beln
    have WA := WAn
    have S0 := S0n
    have W0 := W0n
    have F0 := F0n
    have O3 := O3n
    clear Beln WAn S0n W0n F0n O3n
    have B0 := (Blk.new w4 #[.slice (some ⟨g5, 0, none⟩) d.r.xs.length d.r.xs.length, .slice (some ⟨g6, 0, none⟩) d.r.ys.length d.r.ys.length, .int .i64 d.r.o, .int .i64 d.r.p, .int .i64 d.r.f, .int .i64 d.r.m, .bool d.r.s, .bool d.r.t, .slice (some ⟨g7, 0, none⟩) d.bx.length d.bx.length, .slice (some ⟨g8, 0, none⟩) d.bm d.bm, .bool d.st, .bool d.ha] 36)
    obtain ⟨X4, hX4⟩ : ∃ X : World, (w4.alloc (.cells #[.slice (some ⟨g5, 0, none⟩) d.r.xs.length d.r.xs.length, .slice (some ⟨g6, 0, none⟩) d.r.ys.length d.r.ys.length, .int .i64 d.r.o, .int .i64 d.r.p, .int .i64 d.r.f, .int .i64 d.r.m, .bool d.r.s, .bool d.r.t, .slice (some ⟨g7, 0, none⟩) d.bx.length d.bx.length, .slice (some ⟨g8, 0, none⟩) d.bm d.bm, .bool d.st, .bool d.ha] 36)) = X := ⟨_, rfl⟩
    have nX4 : X4.heap.size = w4.heap.size + 1 := by simp [← hX4]
    rw [hX4] at Bel WA S0 W0 F0 O3 B0
    have VA := hide B0
    clear ka B0
    have p0_0 := VA.out.cell (i := 0) rfl
    have p0_1 := VA.out.cell (i := 1) rfl
    have p0_2 := VA.out.cell (i := 2) rfl
    have p0_3 := VA.out.cell (i := 3) rfl
    have p0_4 := VA.out.cell (i := 4) rfl
    have p0_5 := VA.out.cell (i := 5) rfl
    have p0_6 := VA.out.cell (i := 6) rfl
    have p0_7 := VA.out.cell (i := 7) rfl
    have p0_8 := VA.out.cell (i := 8) rfl
    have p0_9 := VA.out.cell (i := 9) rfl
    have p0_10 := VA.out.cell (i := 10) rfl
    have p0_11 := VA.out.cell (i := 11) rfl
    go_wp2_with fail
    clear p0_0 p0_1 p0_2 p0_3 p0_4 p0_5 p0_6 p0_7 p0_8 p0_9 p0_10 p0_11 hX4
    refine (implStepCpu _ d _ _ _ _ _ _ _ _ ⟨O3.out.d.row, HX.out.2⟩ ⟨O3.out.a'.row, HY.out.2⟩ ⟨O3.out.b'.row, HZ.out.2⟩ ⟨O3.out.l.row, HQ.out.2⟩ bx by_ bz HLL.out bm HWF.out (HS.out.below Bel.out) (HT.out.below Bel.out)).mono ?_
    rw [HDD.out, HFF.out, HKK.out]
    unfold cpuV ftC
    rintro e9 w5 ⟨a1, b1, e1, q1, ca1, cb1, ce1, cq1, rfl, hin, k⟩
    have hsl := hin.sl
    have Beln := hide (below_kept Bel.out k (by omega))
    have WAn := hide (WA.out.kept k (by omega))
    have S0n := hide (S0.out.kept k (by omega))
    have W0n := hide (W0.out.kept k (by omega))
    have F0n := hide (F0.out.kept k (by omega))
    have O3n := hide (O3.out.kept k (by omega))
    have VAn := hide (VA.out.kept k (by omega))
    clear Bel WA S0 W0 F0 O3 VA
    have Bel := Beln
    have WA := WAn
    have S0 := S0n
    have W0 := W0n
    have F0 := F0n
    have O3 := O3n
    have VA := VAn
    clear Beln WAn S0n W0n F0n O3n VAn
    have nw5 := k.size
    have S1 := hide hsl
    clear k hin hsl
    have ka : Kept 0 0 w5 ((w5.alloc (.cells #[.slice a1 D.r.xs.length ca1, .slice b1 D.r.ys.length cb1, .int .i64 D.r.o, .int .i64 D.r.p, .int .i64 D.r.f, .int .i64 D.r.m, .bool D.r.s, .bool D.r.t, .slice e1 D.bx.length ce1, .slice q1 D.bm cq1, .bool D.st, .bool D.ha] 36)).alloc (.cells #[.int .i64 F.v, .int .i64 F.pc, .int .i64 F.ad, .int .i64 F.wo, .bool F.wr] 38)) := kept_new (kept_alloc w5 _) _
    have Beln := hide (below_kept Bel.out ka (by omega))
    have WAn := hide (WA.out.kept ka (by omega))
    have S0n := hide (S0.out.kept ka (by omega))
    have W0n := hide (W0.out.kept ka (by omega))
    have F0n := hide (F0.out.kept ka (by omega))
    have O3n := hide (O3.out.kept ka (by omega))
    have VAn := hide (VA.out.kept ka (by omega))
    have S1n := hide (S1.out.kept ka (by omega))
    clear Bel WA S0 W0 F0 O3 VA S1
    have Bel := Beln
    have WA := WAn
    have S0 := S0n
    have W0 := W0n
    have F0 := F0n
    have O3 := O3n
    have VA := VAn
    have S1 := S1n
    clear Beln WAn S0n W0n F0n O3n VAn S1n
    have B0 := ((Blk.new w5 #[.slice a1 D.r.xs.length ca1, .slice b1 D.r.ys.length cb1, .int .i64 D.r.o, .int .i64 D.r.p, .int .i64 D.r.f, .int .i64 D.r.m, .bool D.r.s, .bool D.r.t, .slice e1 D.bx.length ce1, .slice q1 D.bm cq1, .bool D.st, .bool D.ha] 36).alloc (.cells #[.int .i64 F.v, .int .i64 F.pc, .int .i64 F.ad, .int .i64 F.wo, .bool F.wr] 38))
    have B1 := (Blk.new (w5.alloc (.cells #[.slice a1 D.r.xs.length ca1, .slice b1 D.r.ys.length cb1, .int .i64 D.r.o, .int .i64 D.r.p, .int .i64 D.r.f, .int .i64 D.r.m, .bool D.r.s, .bool D.r.t, .slice e1 D.bx.length ce1, .slice q1 D.bm cq1, .bool D.st, .bool D.ha] 36)) #[.int .i64 F.v, .int .i64 F.pc, .int .i64 F.ad, .int .i64 F.wo, .bool F.wr] 38)
    simp only [World.size_alloc] at B1
    obtain ⟨X5, hX5⟩ : ∃ X : World, ((w5.alloc (.cells #[.slice a1 D.r.xs.length ca1, .slice b1 D.r.ys.length cb1, .int .i64 D.r.o, .int .i64 D.r.p, .int .i64 D.r.f, .int .i64 D.r.m, .bool D.r.s, .bool D.r.t, .slice e1 D.bx.length ce1, .slice q1 D.bm cq1, .bool D.st, .bool D.ha] 36)).alloc (.cells #[.int .i64 F.v, .int .i64 F.pc, .int .i64 F.ad, .int .i64 F.wo, .bool F.wr] 38)) = X := ⟨_, rfl⟩
    have nX5 : X5.heap.size = w5.heap.size + 2 := by simp [← hX5]
    rw [hX5] at Bel WA S0 W0 F0 O3 VA S1 B0 B1
    have W1 := hide B0
    have F1 := hide B1
    clear ka B0 B1
    have p0_0 := W1.out.cell (i := 0) rfl
    have p0_1 := W1.out.cell (i := 1) rfl
    have p0_2 := W1.out.cell (i := 2) rfl
    have p0_3 := W1.out.cell (i := 3) rfl
    have p0_4 := W1.out.cell (i := 4) rfl
    have p0_5 := W1.out.cell (i := 5) rfl
    have p0_6 := W1.out.cell (i := 6) rfl
    have p0_7 := W1.out.cell (i := 7) rfl
    have p0_8 := W1.out.cell (i := 8) rfl
    have p0_9 := W1.out.cell (i := 9) rfl
    have p0_10 := W1.out.cell (i := 10) rfl
    have p0_11 := W1.out.cell (i := 11) rfl
    have p1_0 := W0.out.cell (i := 0) rfl
    have p1_1 := W0.out.cell (i := 1) rfl
    have p1_2 := W0.out.cell (i := 2) rfl
    have p1_3 := W0.out.cell (i := 3) rfl
    have p1_4 := W0.out.cell (i := 4) rfl
    have p1_5 := W0.out.cell (i := 5) rfl
    have p1_6 := W0.out.cell (i := 6) rfl
    have p1_7 := W0.out.cell (i := 7) rfl
    have p1_8 := W0.out.cell (i := 8) rfl
    have p1_9 := W0.out.cell (i := 9) rfl
    have p1_10 := W0.out.cell (i := 10) rfl
    have p1_11 := W0.out.cell (i := 11) rfl
    go_wp2_with fail
    clear p0_0 p0_1 p0_2 p0_3 p0_4 p0_5 p0_6 p0_7 p0_8 p0_9 p0_10 p0_11 p1_0 p1_1 p1_2 p1_3 p1_4 p1_5 p1_6 p1_7 p1_8 p1_9 p1_10 p1_11 hX5
    refine (eqCpu _ D a1 b1 e1 q1 a0 b0 e0 q0 _ _ _ _ _ _ _ _ S1.out.d.row S1.out.a'.row S1.out.b'.row S1.out.l.row S0.out.d.row S0.out.a'.row S0.out.b'.row S0.out.l.row (by omega) (by omega) (by omega) HDL.out (by omega)).mono ?_
    rintro e9 w6 ⟨rfl, k⟩
    have Beln := hide (below_kept Bel.out k (by omega))
    have WAn := hide (WA.out.kept k (by omega))
    have S0n := hide (S0.out.kept k (by omega))
    have W0n := hide (W0.out.kept k (by omega))
    have F0n := hide (F0.out.kept k (by omega))
    have O3n := hide (O3.out.kept k (by omega))
    have VAn := hide (VA.out.kept k (by omega))
    have S1n := hide (S1.out.kept k (by omega))
    have W1n := hide (W1.out.kept k (by omega))
    have F1n := hide (F1.out.kept k (by omega))
    clear Bel WA S0 W0 F0 O3 VA S1 W1 F1
    have Bel := Beln
    have WA := WAn
    have S0 := S0n
    have W0 := W0n
    have F0 := F0n
    have O3 := O3n
    have VA := VAn
    have S1 := S1n
    have W1 := W1n
    have F1 := F1n
    clear Beln WAn S0n W0n F0n O3n VAn S1n W1n F1n
    have nw6 := k.size
    clear k
    have p0_0 := F1.out.cell (i := 0) rfl
    have p0_1 := F1.out.cell (i := 1) rfl
    have p0_2 := F1.out.cell (i := 2) rfl
    have p0_3 := F1.out.cell (i := 3) rfl
    have p0_4 := F1.out.cell (i := 4) rfl
    have p1_0 := F0.out.cell (i := 0) rfl
    have p1_1 := F0.out.cell (i := 1) rfl
    have p1_2 := F0.out.cell (i := 2) rfl
    have p1_3 := F0.out.cell (i := 3) rfl
    have p1_4 := F0.out.cell (i := 4) rfl
    go_wp2_with fail
    clear p0_0 p0_1 p0_2 p0_3 p0_4 p1_0 p1_1 p1_2 p1_3 p1_4
    refine (eqFault _ F).mono ?_
    rintro e9 w6f ⟨rfl, k⟩
    have Beln := hide (below_kept Bel.out k (by omega))
    have WAn := hide (WA.out.kept k (by omega))
    have S0n := hide (S0.out.kept k (by omega))
    have W0n := hide (W0.out.kept k (by omega))
    have F0n := hide (F0.out.kept k (by omega))
    have O3n := hide (O3.out.kept k (by omega))
    have VAn := hide (VA.out.kept k (by omega))
    have S1n := hide (S1.out.kept k (by omega))
    have W1n := hide (W1.out.kept k (by omega))
    have F1n := hide (F1.out.kept k (by omega))
    clear Bel WA S0 W0 F0 O3 VA S1 W1 F1
    have Bel := Beln
    have WA := WAn
    have S0 := S0n
    have W0 := W0n
    have F0 := F0n
    have O3 := O3n
    have VA := VAn
    have S1 := S1n
    have W1 := W1n
    have F1 := F1n
    clear Beln WAn S0n W0n F0n O3n VAn S1n W1n F1n
    have nw6f := k.size
    clear k
    have p0_0 := WA.out.cell (i := 0) rfl
    have p0_1 := WA.out.cell (i := 1) rfl
    have p0_2 := WA.out.cell (i := 2) rfl
    have p0_3 := WA.out.cell (i := 3) rfl
    have p0_4 := WA.out.cell (i := 4) rfl
    have p0_5 := WA.out.cell (i := 5) rfl
    have p0_6 := WA.out.cell (i := 6) rfl
    have p0_7 := WA.out.cell (i := 7) rfl
    have p0_8 := WA.out.cell (i := 8) rfl
    have p0_9 := WA.out.cell (i := 9) rfl
    have p0_10 := WA.out.cell (i := 10) rfl
    have p0_11 := WA.out.cell (i := 11) rfl
    have p1_0 := VA.out.cell (i := 0) rfl
    have p1_1 := VA.out.cell (i := 1) rfl
    have p1_2 := VA.out.cell (i := 2) rfl
    have p1_3 := VA.out.cell (i := 3) rfl
    have p1_4 := VA.out.cell (i := 4) rfl
    have p1_5 := VA.out.cell (i := 5) rfl
    have p1_6 := VA.out.cell (i := 6) rfl
    have p1_7 := VA.out.cell (i := 7) rfl
    have p1_8 := VA.out.cell (i := 8) rfl
    have p1_9 := VA.out.cell (i := 9) rfl
    have p1_10 := VA.out.cell (i := 10) rfl
    have p1_11 := VA.out.cell (i := 11) rfl
    go_upto_region 10 with fail
    go_cut [52, 53, 54, 55, 56] (fun _ _ _ _ t wx => t = .bool false ∧ Kept 0 0 w6f wx)
    case first =>
      go_region_with (first | (go_at_call 7; refine (toCpu _ d a b e q ca cb ce cq (HX.out.below Bel.out.drew).1 (HY.out.below Bel.out.drew).1 (HZ.out.below Bel.out.drew).1 (HQ.out.below Bel.out.drew).1 bx by_ bz HLL.out bm).mono ?_; rintro e9 w7 ⟨g9, g10, g11, g12, rfl, hs9, kd⟩; have k := undrewK kd; have VN := hide (VA.out.kept0 k); have u0 := VN.out.cell (i := 0) rfl; have u1 := VN.out.cell (i := 1) rfl; have u2 := VN.out.cell (i := 2) rfl; have u3 := VN.out.cell (i := 3) rfl; have u4 := VN.out.cell (i := 4) rfl; have u5 := VN.out.cell (i := 5) rfl; have u6 := VN.out.cell (i := 6) rfl; have u7 := VN.out.cell (i := 7) rfl; have u8 := VN.out.cell (i := 8) rfl; have u9 := VN.out.cell (i := 9) rfl; have u10 := VN.out.cell (i := 10) rfl; have u11 := VN.out.cell (i := 11) rfl; have P3 := hide (O3.out.kept k (by omega)); have P5 := hide hs9; have K7 := hide k; clear k kd hs9) | (go_at_call 9; refine (eqCpu _ d _ _ _ _ _ _ _ _ _ _ _ _ _ _ _ _ P3.out.d.row P3.out.a'.row P3.out.b'.row P3.out.l.row P5.out.d.row P5.out.a'.row P5.out.b'.row P5.out.l.row bx by_ bz HLL.out bm).mono ?_; rintro e9 w8 ⟨rfl, k⟩; have K8 := hide (K7.out.trans k); clear k))
      all_goals
        go_wp2_with fail
        go_meet
        case rel => exact ⟨rfl, K8.out⟩
    case rest =>
      clear p0_0 p0_1 p0_2 p0_3 p0_4 p0_5 p0_6 p0_7 p0_8 p0_9 p0_10 p0_11 p1_0 p1_1 p1_2 p1_3 p1_4 p1_5 p1_6 p1_7 p1_8 p1_9 p1_10 p1_11
      rename_i wx
      obtain ⟨rfl, k⟩ := hcut
      have Beln := hide (below_kept Bel.out k (by omega))
      have WAn := hide (WA.out.kept k (by omega))
      have S0n := hide (S0.out.kept k (by omega))
      have W0n := hide (W0.out.kept k (by omega))
      have F0n := hide (F0.out.kept k (by omega))
      have O3n := hide (O3.out.kept k (by omega))
      have VAn := hide (VA.out.kept k (by omega))
      have S1n := hide (S1.out.kept k (by omega))
      have W1n := hide (W1.out.kept k (by omega))
      have F1n := hide (F1.out.kept k (by omega))
      clear Bel WA S0 W0 F0 O3 VA S1 W1 F1
      have Bel := Beln
      have WA := WAn
      have S0 := S0n
      have W0 := W0n
      have F0 := F0n
      have O3 := O3n
      have VA := VAn
      have S1 := S1n
      have W1 := W1n
      have F1 := F1n
      clear Beln WAn S0n W0n F0n O3n VAn S1n W1n F1n
      have nwx := k.size
      clear k
      have p0_0 := VA.out.cell (i := 0) rfl
      have p0_1 := VA.out.cell (i := 1) rfl
      have p0_2 := VA.out.cell (i := 2) rfl
      have p0_3 := VA.out.cell (i := 3) rfl
      have p0_4 := VA.out.cell (i := 4) rfl
      have p0_5 := VA.out.cell (i := 5) rfl
      have p0_6 := VA.out.cell (i := 6) rfl
      have p0_7 := VA.out.cell (i := 7) rfl
      have p0_8 := VA.out.cell (i := 8) rfl
      have p0_9 := VA.out.cell (i := 9) rfl
      have p0_10 := VA.out.cell (i := 10) rfl
      have p0_11 := VA.out.cell (i := 11) rfl
      go_wp2_with fail
      clear p0_0 p0_1 p0_2 p0_3 p0_4 p0_5 p0_6 p0_7 p0_8 p0_9 p0_10 p0_11
      refine (markCpu _ X3.heap.size w4.heap.size d _ _ _ _ _ _ _ _ O3.out (by omega) bx by_ bz HLL.out bm).mono ?_
      rintro e9 w9 ⟨rfl, _, k⟩
      clear O3
      have Beln := hide (below_kept Bel.out k (by omega))
      have WAn := hide (WA.out.kept k (by omega))
      have S0n := hide (S0.out.kept k (by omega))
      have W0n := hide (W0.out.kept k (by omega))
      have F0n := hide (F0.out.kept k (by omega))
      have VAn := hide (VA.out.kept k (by omega))
      have S1n := hide (S1.out.kept k (by omega))
      have W1n := hide (W1.out.kept k (by omega))
      have F1n := hide (F1.out.kept k (by omega))
      clear Bel WA S0 W0 F0 VA S1 W1 F1
      have Bel := Beln
      have WA := WAn
      have S0 := S0n
      have W0 := W0n
      have F0 := F0n
      have VA := VAn
      have S1 := S1n
      have W1 := W1n
      have F1 := F1n
      clear Beln WAn S0n W0n F0n VAn S1n W1n F1n
      have nw9 := k.size
      clear k
      have hmk : ¬ (Pl.mkN d 1 < 0) := by unfold Pl.mkN; omega
      have p0_0 := W1.out.cell (i := 0) rfl
      have p0_1 := W1.out.cell (i := 1) rfl
      have p0_2 := W1.out.cell (i := 2) rfl
      have p0_3 := W1.out.cell (i := 3) rfl
      have p0_4 := W1.out.cell (i := 4) rfl
      have p0_5 := W1.out.cell (i := 5) rfl
      have p0_6 := W1.out.cell (i := 6) rfl
      have p0_7 := W1.out.cell (i := 7) rfl
      have p0_8 := W1.out.cell (i := 8) rfl
      have p0_9 := W1.out.cell (i := 9) rfl
      have p0_10 := W1.out.cell (i := 10) rfl
      have p0_11 := W1.out.cell (i := 11) rfl
      have p1_0 := W0.out.cell (i := 0) rfl
      have p1_1 := W0.out.cell (i := 1) rfl
      have p1_2 := W0.out.cell (i := 2) rfl
      have p1_3 := W0.out.cell (i := 3) rfl
      have p1_4 := W0.out.cell (i := 4) rfl
      have p1_5 := W0.out.cell (i := 5) rfl
      have p1_6 := W0.out.cell (i := 6) rfl
      have p1_7 := W0.out.cell (i := 7) rfl
      have p1_8 := W0.out.cell (i := 8) rfl
      have p1_9 := W0.out.cell (i := 9) rfl
      have p1_10 := W0.out.cell (i := 10) rfl
      have p1_11 := W0.out.cell (i := 11) rfl
      go_wp2_with fail
      clear p0_0 p0_1 p0_2 p0_3 p0_4 p0_5 p0_6 p0_7 p0_8 p0_9 p0_10 p0_11 p1_0 p1_1 p1_2 p1_3 p1_4 p1_5 p1_6 p1_7 p1_8 p1_9 p1_10 p1_11
      refine (eqCpu _ D a1 b1 e1 q1 a0 b0 e0 q0 _ _ _ _ _ _ _ _ S1.out.d.row S1.out.a'.row S1.out.b'.row S1.out.l.row S0.out.d.row S0.out.a'.row S0.out.b'.row S0.out.l.row (by omega) (by omega) (by omega) HDL.out (by omega)).mono ?_
      rintro e9 w10 ⟨rfl, k⟩
      have Beln := hide (below_kept Bel.out k (by omega))
      have WAn := hide (WA.out.kept k (by omega))
      have S0n := hide (S0.out.kept k (by omega))
      have W0n := hide (W0.out.kept k (by omega))
      have F0n := hide (F0.out.kept k (by omega))
      have VAn := hide (VA.out.kept k (by omega))
      have S1n := hide (S1.out.kept k (by omega))
      have W1n := hide (W1.out.kept k (by omega))
      have F1n := hide (F1.out.kept k (by omega))
      clear Bel WA S0 W0 F0 VA S1 W1 F1
      have Bel := Beln
      have WA := WAn
      have S0 := S0n
      have W0 := W0n
      have F0 := F0n
      have VA := VAn
      have S1 := S1n
      have W1 := W1n
      have F1 := F1n
      clear Beln WAn S0n W0n F0n VAn S1n W1n F1n
      have nw10 := k.size
      clear k
      have p0_0 := F1.out.cell (i := 0) rfl
      have p0_1 := F1.out.cell (i := 1) rfl
      have p0_2 := F1.out.cell (i := 2) rfl
      have p0_3 := F1.out.cell (i := 3) rfl
      have p0_4 := F1.out.cell (i := 4) rfl
      have p1_0 := F0.out.cell (i := 0) rfl
      have p1_1 := F0.out.cell (i := 1) rfl
      have p1_2 := F0.out.cell (i := 2) rfl
      have p1_3 := F0.out.cell (i := 3) rfl
      have p1_4 := F0.out.cell (i := 4) rfl
      go_wp2_with fail
      clear p0_0 p0_1 p0_2 p0_3 p0_4 p1_0 p1_1 p1_2 p1_3 p1_4
      refine (eqFault _ F).mono ?_
      rintro e9 w10f ⟨rfl, k⟩
      have Beln := hide (below_kept Bel.out k (by omega))
      have WAn := hide (WA.out.kept k (by omega))
      have S0n := hide (S0.out.kept k (by omega))
      have W0n := hide (W0.out.kept k (by omega))
      have F0n := hide (F0.out.kept k (by omega))
      have VAn := hide (VA.out.kept k (by omega))
      have S1n := hide (S1.out.kept k (by omega))
      have W1n := hide (W1.out.kept k (by omega))
      have F1n := hide (F1.out.kept k (by omega))
      clear Bel WA S0 W0 F0 VA S1 W1 F1
      have Bel := Beln
      have WA := WAn
      have S0 := S0n
      have W0 := W0n
      have F0 := F0n
      have VA := VAn
      have S1 := S1n
      have W1 := W1n
      have F1 := F1n
      clear Beln WAn S0n W0n F0n VAn S1n W1n F1n
      have nw10f := k.size
      clear k
      have p0_0 := W1.out.cell (i := 0) rfl
      have p0_1 := W1.out.cell (i := 1) rfl
      have p0_2 := W1.out.cell (i := 2) rfl
      have p0_3 := W1.out.cell (i := 3) rfl
      have p0_4 := W1.out.cell (i := 4) rfl
      have p0_5 := W1.out.cell (i := 5) rfl
      have p0_6 := W1.out.cell (i := 6) rfl
      have p0_7 := W1.out.cell (i := 7) rfl
      have p0_8 := W1.out.cell (i := 8) rfl
      have p0_9 := W1.out.cell (i := 9) rfl
      have p0_10 := W1.out.cell (i := 10) rfl
      have p0_11 := W1.out.cell (i := 11) rfl
      go_wp2_with fail
      clear p0_0 p0_1 p0_2 p0_3 p0_4 p0_5 p0_6 p0_7 p0_8 p0_9 p0_10 p0_11
      refine (markCpu _ X4.heap.size w5.heap.size D a1 b1 e1 q1 _ _ _ _ S1.out (by omega) (by omega) (by omega) (by omega) HDL.out (by omega)).mono ?_
      rintro e9 w11 ⟨rfl, hm9, k⟩
      clear S1
      have Beln := hide (below_kept Bel.out k (by omega))
      have WAn := hide (WA.out.kept k (by omega))
      have S0n := hide (S0.out.kept k (by omega))
      have W0n := hide (W0.out.kept k (by omega))
      have F0n := hide (F0.out.kept k (by omega))
      have VAn := hide (VA.out.kept k (by omega))
      have W1n := hide (W1.out.kept k (by omega))
      have F1n := hide (F1.out.kept k (by omega))
      clear Bel WA S0 W0 F0 VA W1 F1
      have Bel := Beln
      have WA := WAn
      have S0 := S0n
      have W0 := W0n
      have F0 := F0n
      have VA := VAn
      have W1 := W1n
      have F1 := F1n
      clear Beln WAn S0n W0n F0n VAn W1n F1n
      have M1 := hide hm9
      have nw11 := k.size
      clear k hm9
      have p0_0 := W1.out.cell (i := 0) rfl
      have p0_1 := W1.out.cell (i := 1) rfl
      have p0_2 := W1.out.cell (i := 2) rfl
      have p0_3 := W1.out.cell (i := 3) rfl
      have p0_4 := W1.out.cell (i := 4) rfl
      have p0_5 := W1.out.cell (i := 5) rfl
      have p0_6 := W1.out.cell (i := 6) rfl
      have p0_7 := W1.out.cell (i := 7) rfl
      have p0_8 := W1.out.cell (i := 8) rfl
      have p0_9 := W1.out.cell (i := 9) rfl
      have p0_10 := W1.out.cell (i := 10) rfl
      have p0_11 := W1.out.cell (i := 11) rfl
      go_wp2_with fail
      clear p0_0 p0_1 p0_2 p0_3 p0_4 p0_5 p0_6 p0_7 p0_8 p0_9 p0_10 p0_11
      have hmD : ¬ (Pl.mkN D 1 < 0) := by unfold Pl.mkN; omega
      refine (heldCpu _ D a1 b1 e1 q1 _ _ _ _ M1.out.d.row M1.out.a'.row M1.out.b'.row M1.out.l.row (by omega) (by omega) (by omega) (by omega)).mono ?_
      rintro e9 w12 ⟨rfl, k⟩
      have Beln := hide (below_kept Bel.out k (by omega))
      have WAn := hide (WA.out.kept k (by omega))
      have S0n := hide (S0.out.kept k (by omega))
      have W0n := hide (W0.out.kept k (by omega))
      have F0n := hide (F0.out.kept k (by omega))
      have VAn := hide (VA.out.kept k (by omega))
      have W1n := hide (W1.out.kept k (by omega))
      have F1n := hide (F1.out.kept k (by omega))
      have M1n := hide (M1.out.kept k (by omega))
      clear Bel WA S0 W0 F0 VA W1 F1 M1
      have Bel := Beln
      have WA := WAn
      have S0 := S0n
      have W0 := W0n
      have F0 := F0n
      have VA := VAn
      have W1 := W1n
      have F1 := F1n
      have M1 := M1n
      clear Beln WAn S0n W0n F0n VAn W1n F1n M1n
      have nw12 := k.size
      clear k
      have p0_0 := WA.out.cell (i := 0) rfl
      have p0_1 := WA.out.cell (i := 1) rfl
      have p0_2 := WA.out.cell (i := 2) rfl
      have p0_3 := WA.out.cell (i := 3) rfl
      have p0_4 := WA.out.cell (i := 4) rfl
      have p0_5 := WA.out.cell (i := 5) rfl
      have p0_6 := WA.out.cell (i := 6) rfl
      have p0_7 := WA.out.cell (i := 7) rfl
      have p0_8 := WA.out.cell (i := 8) rfl
      have p0_9 := WA.out.cell (i := 9) rfl
      have p0_10 := WA.out.cell (i := 10) rfl
      have p0_11 := WA.out.cell (i := 11) rfl
      go_wp2_with fail
      clear p0_0 p0_1 p0_2 p0_3 p0_4 p0_5 p0_6 p0_7 p0_8 p0_9 p0_10 p0_11
      refine (toCpu _ d a b e q ca cb ce cq (HX.out.below Bel.out).1 (HY.out.below Bel.out).1 (HZ.out.below Bel.out).1 (HQ.out.below Bel.out).1 bx by_ bz HLL.out bm).mono ?_
      rintro e9 w13 ⟨h1, h2, h3, h4, rfl, hs9, k⟩
      have Beln := hide (below_kept Bel.out k (by omega))
      have WAn := hide (WA.out.kept k (by omega))
      have S0n := hide (S0.out.kept k (by omega))
      have W0n := hide (W0.out.kept k (by omega))
      have F0n := hide (F0.out.kept k (by omega))
      have VAn := hide (VA.out.kept k (by omega))
      have W1n := hide (W1.out.kept k (by omega))
      have F1n := hide (F1.out.kept k (by omega))
      have M1n := hide (M1.out.kept k (by omega))
      clear Bel WA S0 W0 F0 VA W1 F1 M1
      have Bel := Beln
      have WA := WAn
      have S0 := S0n
      have W0 := W0n
      have F0 := F0n
      have VA := VAn
      have W1 := W1n
      have F1 := F1n
      have M1 := M1n
      clear Beln WAn S0n W0n F0n VAn W1n F1n M1n
      have nw13 := k.size
      have O5 := hide hs9
      clear k hs9
      go_wp2_with fail
      refine (implStepCpu _ d _ _ _ _ _ _ _ _ ⟨O5.out.d.row, HX.out.2⟩ ⟨O5.out.a'.row, HY.out.2⟩ ⟨O5.out.b'.row, HZ.out.2⟩ ⟨O5.out.l.row, HQ.out.2⟩ bx by_ bz HLL.out bm HWF.out (HS.out.below Bel.out) (HT.out.below Bel.out)).mono ?_
      rw [HDD.out, HFF.out, HKK.out]
      unfold cpuV ftC
      rintro e9 w14 ⟨a2, b2, e2, q2, ca2, cb2, ce2, cq2, rfl, hin, k⟩
      have hsl := hin.sl
      have Beln := hide (below_kept Bel.out k (by omega))
      have WAn := hide (WA.out.kept k (by omega))
      have S0n := hide (S0.out.kept k (by omega))
      have W0n := hide (W0.out.kept k (by omega))
      have F0n := hide (F0.out.kept k (by omega))
      have VAn := hide (VA.out.kept k (by omega))
      have W1n := hide (W1.out.kept k (by omega))
      have F1n := hide (F1.out.kept k (by omega))
      have M1n := hide (M1.out.kept k (by omega))
      have O5n := hide (O5.out.kept k (by omega))
      clear Bel WA S0 W0 F0 VA W1 F1 M1 O5
      have Bel := Beln
      have WA := WAn
      have S0 := S0n
      have W0 := W0n
      have F0 := F0n
      have VA := VAn
      have W1 := W1n
      have F1 := F1n
      have M1 := M1n
      have O5 := O5n
      clear Beln WAn S0n W0n F0n VAn W1n F1n M1n O5n
      have nw14 := k.size
      have S2 := hide hsl
      clear k hin hsl
      clear O5
      have ka : Kept 0 0 w14 ((w14.alloc (.cells #[.slice a2 D.r.xs.length ca2, .slice b2 D.r.ys.length cb2, .int .i64 D.r.o, .int .i64 D.r.p, .int .i64 D.r.f, .int .i64 D.r.m, .bool D.r.s, .bool D.r.t, .slice e2 D.bx.length ce2, .slice q2 D.bm cq2, .bool D.st, .bool D.ha] 36)).alloc (.cells #[.int .i64 F.v, .int .i64 F.pc, .int .i64 F.ad, .int .i64 F.wo, .bool F.wr] 38)) := kept_new (kept_alloc w14 _) _
      have Beln := hide (below_kept Bel.out ka (by omega))
      have WAn := hide (WA.out.kept ka (by omega))
      have S0n := hide (S0.out.kept ka (by omega))
      have W0n := hide (W0.out.kept ka (by omega))
      have F0n := hide (F0.out.kept ka (by omega))
      have VAn := hide (VA.out.kept ka (by omega))
      have W1n := hide (W1.out.kept ka (by omega))
      have F1n := hide (F1.out.kept ka (by omega))
      have M1n := hide (M1.out.kept ka (by omega))
      have S2n := hide (S2.out.kept ka (by omega))
      clear Bel WA S0 W0 F0 VA W1 F1 M1 S2
      have Bel := Beln
      have WA := WAn
      have S0 := S0n
      have W0 := W0n
      have F0 := F0n
      have VA := VAn
      have W1 := W1n
      have F1 := F1n
      have M1 := M1n
      have S2 := S2n
      clear Beln WAn S0n W0n F0n VAn W1n F1n M1n S2n
      have B0 := ((Blk.new w14 #[.slice a2 D.r.xs.length ca2, .slice b2 D.r.ys.length cb2, .int .i64 D.r.o, .int .i64 D.r.p, .int .i64 D.r.f, .int .i64 D.r.m, .bool D.r.s, .bool D.r.t, .slice e2 D.bx.length ce2, .slice q2 D.bm cq2, .bool D.st, .bool D.ha] 36).alloc (.cells #[.int .i64 F.v, .int .i64 F.pc, .int .i64 F.ad, .int .i64 F.wo, .bool F.wr] 38))
      have B1 := (Blk.new (w14.alloc (.cells #[.slice a2 D.r.xs.length ca2, .slice b2 D.r.ys.length cb2, .int .i64 D.r.o, .int .i64 D.r.p, .int .i64 D.r.f, .int .i64 D.r.m, .bool D.r.s, .bool D.r.t, .slice e2 D.bx.length ce2, .slice q2 D.bm cq2, .bool D.st, .bool D.ha] 36)) #[.int .i64 F.v, .int .i64 F.pc, .int .i64 F.ad, .int .i64 F.wo, .bool F.wr] 38)
      simp only [World.size_alloc] at B1
      obtain ⟨X14, hX14⟩ : ∃ X : World, ((w14.alloc (.cells #[.slice a2 D.r.xs.length ca2, .slice b2 D.r.ys.length cb2, .int .i64 D.r.o, .int .i64 D.r.p, .int .i64 D.r.f, .int .i64 D.r.m, .bool D.r.s, .bool D.r.t, .slice e2 D.bx.length ce2, .slice q2 D.bm cq2, .bool D.st, .bool D.ha] 36)).alloc (.cells #[.int .i64 F.v, .int .i64 F.pc, .int .i64 F.ad, .int .i64 F.wo, .bool F.wr] 38)) = X := ⟨_, rfl⟩
      have nX14 : X14.heap.size = w14.heap.size + 2 := by simp [← hX14]
      rw [hX14] at Bel WA S0 W0 F0 VA W1 F1 M1 S2 B0 B1
      have W2 := hide B0
      have F2 := hide B1
      clear ka B0 B1
      have p0_0 := W2.out.cell (i := 0) rfl
      have p0_1 := W2.out.cell (i := 1) rfl
      have p0_2 := W2.out.cell (i := 2) rfl
      have p0_3 := W2.out.cell (i := 3) rfl
      have p0_4 := W2.out.cell (i := 4) rfl
      have p0_5 := W2.out.cell (i := 5) rfl
      have p0_6 := W2.out.cell (i := 6) rfl
      have p0_7 := W2.out.cell (i := 7) rfl
      have p0_8 := W2.out.cell (i := 8) rfl
      have p0_9 := W2.out.cell (i := 9) rfl
      have p0_10 := W2.out.cell (i := 10) rfl
      have p0_11 := W2.out.cell (i := 11) rfl
      have p1_0 := W0.out.cell (i := 0) rfl
      have p1_1 := W0.out.cell (i := 1) rfl
      have p1_2 := W0.out.cell (i := 2) rfl
      have p1_3 := W0.out.cell (i := 3) rfl
      have p1_4 := W0.out.cell (i := 4) rfl
      have p1_5 := W0.out.cell (i := 5) rfl
      have p1_6 := W0.out.cell (i := 6) rfl
      have p1_7 := W0.out.cell (i := 7) rfl
      have p1_8 := W0.out.cell (i := 8) rfl
      have p1_9 := W0.out.cell (i := 9) rfl
      have p1_10 := W0.out.cell (i := 10) rfl
      have p1_11 := W0.out.cell (i := 11) rfl
      go_wp2_with fail
      clear p0_0 p0_1 p0_2 p0_3 p0_4 p0_5 p0_6 p0_7 p0_8 p0_9 p0_10 p0_11 p1_0 p1_1 p1_2 p1_3 p1_4 p1_5 p1_6 p1_7 p1_8 p1_9 p1_10 p1_11 hX14
      refine (eqCpu _ D a2 b2 e2 q2 a0 b0 e0 q0 _ _ _ _ _ _ _ _ S2.out.d.row S2.out.a'.row S2.out.b'.row S2.out.l.row S0.out.d.row S0.out.a'.row S0.out.b'.row S0.out.l.row (by omega) (by omega) (by omega) HDL.out (by omega)).mono ?_
      rintro e9 w15 ⟨rfl, k⟩
      have Beln := hide (below_kept Bel.out k (by omega))
      have WAn := hide (WA.out.kept k (by omega))
      have S0n := hide (S0.out.kept k (by omega))
      have W0n := hide (W0.out.kept k (by omega))
      have F0n := hide (F0.out.kept k (by omega))
      have VAn := hide (VA.out.kept k (by omega))
      have W1n := hide (W1.out.kept k (by omega))
      have F1n := hide (F1.out.kept k (by omega))
      have M1n := hide (M1.out.kept k (by omega))
      have S2n := hide (S2.out.kept k (by omega))
      have W2n := hide (W2.out.kept k (by omega))
      have F2n := hide (F2.out.kept k (by omega))
      clear Bel WA S0 W0 F0 VA W1 F1 M1 S2 W2 F2
      have Bel := Beln
      have WA := WAn
      have S0 := S0n
      have W0 := W0n
      have F0 := F0n
      have VA := VAn
      have W1 := W1n
      have F1 := F1n
      have M1 := M1n
      have S2 := S2n
      have W2 := W2n
      have F2 := F2n
      clear Beln WAn S0n W0n F0n VAn W1n F1n M1n S2n W2n F2n
      have nw15 := k.size
      clear k
      have p0_0 := F2.out.cell (i := 0) rfl
      have p0_1 := F2.out.cell (i := 1) rfl
      have p0_2 := F2.out.cell (i := 2) rfl
      have p0_3 := F2.out.cell (i := 3) rfl
      have p0_4 := F2.out.cell (i := 4) rfl
      have p1_0 := F0.out.cell (i := 0) rfl
      have p1_1 := F0.out.cell (i := 1) rfl
      have p1_2 := F0.out.cell (i := 2) rfl
      have p1_3 := F0.out.cell (i := 3) rfl
      have p1_4 := F0.out.cell (i := 4) rfl
      go_wp2_with fail
      clear p0_0 p0_1 p0_2 p0_3 p0_4 p1_0 p1_1 p1_2 p1_3 p1_4
      refine (eqFault _ F).mono ?_
      rintro e9 w15f ⟨rfl, k⟩
      have Beln := hide (below_kept Bel.out k (by omega))
      have WAn := hide (WA.out.kept k (by omega))
      have S0n := hide (S0.out.kept k (by omega))
      have W0n := hide (W0.out.kept k (by omega))
      have F0n := hide (F0.out.kept k (by omega))
      have VAn := hide (VA.out.kept k (by omega))
      have W1n := hide (W1.out.kept k (by omega))
      have F1n := hide (F1.out.kept k (by omega))
      have M1n := hide (M1.out.kept k (by omega))
      have S2n := hide (S2.out.kept k (by omega))
      have W2n := hide (W2.out.kept k (by omega))
      have F2n := hide (F2.out.kept k (by omega))
      clear Bel WA S0 W0 F0 VA W1 F1 M1 S2 W2 F2
      have Bel := Beln
      have WA := WAn
      have S0 := S0n
      have W0 := W0n
      have F0 := F0n
      have VA := VAn
      have W1 := W1n
      have F1 := F1n
      have M1 := M1n
      have S2 := S2n
      have W2 := W2n
      have F2 := F2n
      clear Beln WAn S0n W0n F0n VAn W1n F1n M1n S2n W2n F2n
      have nw15f := k.size
      clear k
      have p0_0 := W1.out.cell (i := 0) rfl
      have p0_1 := W1.out.cell (i := 1) rfl
      have p0_2 := W1.out.cell (i := 2) rfl
      have p0_3 := W1.out.cell (i := 3) rfl
      have p0_4 := W1.out.cell (i := 4) rfl
      have p0_5 := W1.out.cell (i := 5) rfl
      have p0_6 := W1.out.cell (i := 6) rfl
      have p0_7 := W1.out.cell (i := 7) rfl
      have p0_8 := W1.out.cell (i := 8) rfl
      have p0_9 := W1.out.cell (i := 9) rfl
      have p0_10 := W1.out.cell (i := 10) rfl
      have p0_11 := W1.out.cell (i := 11) rfl
      go_wp2_with fail
      clear p0_0 p0_1 p0_2 p0_3 p0_4 p0_5 p0_6 p0_7 p0_8 p0_9 p0_10 p0_11
      refine (heldCpu _ D a1 b1 e1 q1 _ _ _ _ M1.out.d.row M1.out.a'.row M1.out.b'.row M1.out.l.row (by omega) (by omega) (by omega) (by omega)).mono ?_
      rintro e9 w16 ⟨rfl, k⟩
      have Beln := hide (below_kept Bel.out k (by omega))
      have WAn := hide (WA.out.kept k (by omega))
      have S0n := hide (S0.out.kept k (by omega))
      have W0n := hide (W0.out.kept k (by omega))
      have F0n := hide (F0.out.kept k (by omega))
      have VAn := hide (VA.out.kept k (by omega))
      have W1n := hide (W1.out.kept k (by omega))
      have F1n := hide (F1.out.kept k (by omega))
      have M1n := hide (M1.out.kept k (by omega))
      have S2n := hide (S2.out.kept k (by omega))
      have W2n := hide (W2.out.kept k (by omega))
      have F2n := hide (F2.out.kept k (by omega))
      clear Bel WA S0 W0 F0 VA W1 F1 M1 S2 W2 F2
      have Bel := Beln
      have WA := WAn
      have S0 := S0n
      have W0 := W0n
      have F0 := F0n
      have VA := VAn
      have W1 := W1n
      have F1 := F1n
      have M1 := M1n
      have S2 := S2n
      have W2 := W2n
      have F2 := F2n
      clear Beln WAn S0n W0n F0n VAn W1n F1n M1n S2n W2n F2n
      have nw16 := k.size
      clear k
      go_wp2_with fail
      go_ret
      exact ⟨rfl, Bel.out⟩
end Go.Proofs.YtblddehlkaolbaaGreatDoor

namespace Go.Proofs.YtblddehlkaolbaaGreatDoor
open Go.RowKit
set_option linter.unusedVariables false

theorem gSums : Tryz.prog.globalNamed "loop.example/g00389/impl.digitSums" = some 0 := by kernel_rfl
theorem gNines : Tryz.prog.globalNamed "loop.example/g00389/impl.ninesLess" = some 1 := by kernel_rfl
theorem tSums : (Tryz.prog.globals[0]?).map (·.type) = some 227 := by kernel_rfl
theorem tNines : (Tryz.prog.globals[1]?).map (·.type) = some 228 := by kernel_rfl
theorem cInt : Tryz.prog.cellsOf 3 = 1 := by kernel_rfl
theorem cSums : Tryz.prog.cellsOf 227 = 20 := by kernel_rfl
theorem cNines : Tryz.prog.cellsOf 228 = 10 := by kernel_rfl

def sumsZ : List Int := [0, 1, 2, 3, 4, 5, 6, 7, 8, 9, 16, 17, 18, 19, 20, 21, 22, 23, 24, 25]
def ninesZ : List Int := [9, 8, 7, 6, 5, 4, 3, 2, 1, 0]

theorem sumsZ_at : ∀ i : Nat, i < 20 → sumsZ.getD i 0 = (i : Int) / 10 * 16 + (i : Int) % 10 := by decide
theorem ninesZ_at : ∀ i : Nat, i < 10 → ninesZ.getD i 0 = 9 - (i : Int) := by decide

theorem tabS_of {W : World} {rest : List (String × DataW Unit)} (h : laidMet Tryz.prog (("loop.example/g00389/impl.digitSums", Rows.laid_loop_example_g00389_impl_digitSums) :: rest) W) : TabS W := by
  have hT : Lib.TabIs Tryz.prog W "loop.example/g00389/impl.digitSums" .i64 sumsZ := Lib.tabIs_of_head (rest := rest) gSums tSums Tryz.underlying227 Tryz.underlying3 cInt cSums h
  intro i hi
  rw [hT.cell gSums i (by simpa [sumsZ] using hi), sumsZ_at i hi]

theorem tabN_of {W : World} {rest : List (String × DataW Unit)} (h : laidMet Tryz.prog (("loop.example/g00389/impl.ninesLess", Rows.laid_loop_example_g00389_impl_ninesLess) :: rest) W) : TabN W := by
  have hT : Lib.TabIs Tryz.prog W "loop.example/g00389/impl.ninesLess" .i64 ninesZ := Lib.tabIs_of_head (rest := rest) gNines tNines Tryz.underlying228 Tryz.underlying3 cInt cNines h
  intro i hi
  rw [hT.cell gNines i (by simpa [ninesZ] using hi), ninesZ_at i hi]

/-- both tables -/
theorem tabs_of {W : World} (h : laidMetH Tryz.prog [("loop.example/g00389/impl.digitSums", Rows.laid_loop_example_g00389_impl_digitSums), ("loop.example/g00389/impl.ninesLess", Rows.laid_loop_example_g00389_impl_ninesLess)] W) : TabS W ∧ TabN W := by
  rw [MakeChecks.laidMetH_plain _ _ _ (by kernel_rfl)] at h
  exact ⟨tabS_of h, tabN_of h.tail⟩
end Go.Proofs.YtblddehlkaolbaaGreatDoor

namespace Go.Proofs.YtblddehlkaolbaaGreatDoor
open Go.RowKit Go.WideShapes Go.ChangeShapes Go.ChangeAt
set_option linter.unusedVariables false
set_option linter.unusedSimpArgs false

theorem Tryz.cellsInt : Tryz.prog.cellsOf 3 = 1 := by kernel_rfl
theorem Tryz.cellsAcc : Tryz.prog.cellsOf 127 = 5 := by kernel_rfl
theorem Tryz.cellsBus : Tryz.prog.cellsOf 27 = 2 := by kernel_rfl
theorem Tryz.cellsBool : Tryz.prog.cellsOf 4 = 1 := by kernel_rfl
theorem Tryz.cellsInts : Tryz.prog.cellsOf 22 = 1 := by kernel_rfl
theorem Tryz.cellsAccs : Tryz.prog.cellsOf 25 = 1 := by kernel_rfl
theorem Tryz.cellsRegs : Tryz.prog.cellsOf 24 = 8 := by kernel_rfl
theorem Tryz.cellsCpu : Tryz.prog.cellsOf 29 = 12 := by kernel_rfl


/-- from numbers at each place to the row of them -/
theorem Addr.add_add_own (a : Addr) (i j : Nat) : (a.add i).add j = a.add (i + j) := by
  unfold Addr.add
  by_cases hi : i = 0 <;> by_cases hj : j = 0 <;> simp [hi, hj, Nat.add_assoc]
set_option maxRecDepth 100000 in
theorem came_of {w : World} {x : Addr} {n : Nat} (h : ∀ i, i < n → ∃ z : Int, w.cell? (x.add i) = some (.int .i64 z) ∧ (Lit.int .i64 z).wf = true) : ∃ xs : List Int, xs.length = n ∧ Came w (some x) xs := by
  obtain ⟨f, hf⟩ := Go.Deep.choose_lt h
  refine ⟨(List.range n).map f, by simp, ?_, ?_⟩
  · intro i hi
    have hi' : i < n := by simpa using hi
    obtain ⟨g, off, spot⟩ := x
    have hspot : spot = none := by simpa [Addr.add] using World.cell?_spot (hf 0 (by omega)).1
    subst hspot
    refine ⟨g, off, rfl, ?_⟩
    have hc := (hf i hi').1
    by_cases h0 : i = 0
    · subst h0; simpa [Addr.add, hi'] using hc
    · simpa [Addr.add, h0, hi'] using hc
  · intro i hi
    have hi' : i < n := by simpa using hi
    have := bounds_i64 (hf i hi').2
    simpa [hi'] using this

section
variable {H : Type} {enc : TypeId × Value → H} {w : World} {base : Nat} {spare : Nat → Bool} {held : Bool}

set_option maxRecDepth 100000 in
theorem open_intRow {fuel : Nat} {v : Value} {y : DataW H × List MemPlace} (h : DataW.trod enc Tryz.prog w base spare held fuel 22 [v] = some y) :
    ∃ (a : Option Addr) (cap : Nat) (xs : List Int), v = .slice a xs.length cap ∧ Came w a xs ∧ xs.length ≤ maxLen := by
  rcases open_ints Tryz.underlying22 Tryz.underlying3 Tryz.cellsInt h with ⟨hc, _⟩ | ⟨x, len, cap, zs, hc, _, hl, hm, hz, _, hcell, hwz⟩
  · simp at hc
    exact ⟨none, 0, [], hc, ⟨fun i hi => absurd hi (Nat.not_lt_zero i), fun i hi => absurd hi (Nat.not_lt_zero i)⟩, Nat.zero_le _⟩
  · simp at hc
    have hlen : len ≤ zs.length := by rw [hz]; split <;> omega
    obtain ⟨xs, rfl, hx⟩ := came_of (w := w) (x := x) (n := len) (fun i hi => ⟨zs.getD i 0, hcell i (by omega), hwz _ (by
      have : i < zs.length := by omega
      simp [List.getD, this])⟩)
    exact ⟨some x, cap, xs, hc, hx, by omega⟩

set_option maxRecDepth 100000 in
theorem open_accRow {fuel : Nat} {v : Value} {y : DataW H × List MemPlace} (h : DataW.trod enc Tryz.prog w base spare held fuel 25 [v] = some y) :
    ∃ (a : Option Addr) (m cap : Nat) (ys : List Int), v = .slice a m cap ∧ Came w a ys ∧ ys.length = 5 * m ∧ m ≤ maxLen := by
  rcases Go.Deep.open_slice Tryz.underlying25 h with ⟨hc, _⟩ | ⟨x, len, cap, m, n, D, Pl, hc, _, hl, hm, hmm, _, hel⟩
  · simp at hc
    exact ⟨none, 0, 0, [], hc, ⟨fun i hi => absurd hi (Nat.not_lt_zero i), fun i hi => absurd hi (Nat.not_lt_zero i)⟩, rfl, Nat.zero_le _⟩
  · simp at hc
    have hlen : len ≤ m := by rw [hmm]; split <;> omega
    obtain ⟨ys, hy, hx⟩ := came_of (w := w) (x := x) (n := 5 * len) (by
      intro i hi
      obtain ⟨cs', h1, h2⟩ := hel (i / 5) (by omega)
      rw [Tryz.cellsAcc] at h1
      obtain ⟨_, hl5, hcs⟩ := World.cells?_some h1
      obtain ⟨zs, k, _, _, _, hzl, hf⟩ := DataW.trod_struct Tryz.underlying127 h2
      have hget := hcs (i % 5) (by omega)
      rw [Addr.add_add_own, show i / 5 * 5 + i % 5 = i from by omega] at hget
      rw [hget]
      obtain ⟨c0, c1, c2, c3, c4, rfl⟩ : ∃ c0 c1 c2 c3 c4, cs' = [c0, c1, c2, c3, c4] := by
        match cs', hl5 with
        | [c0, c1, c2, c3, c4], _ => exact ⟨c0, c1, c2, c3, c4, rfl⟩
      obtain ⟨z0, z1, z2, z3, z4, rfl⟩ : ∃ z0 z1 z2 z3 z4, zs = [z0, z1, z2, z3, z4] := by
        match zs, hzl with
        | [z0, z1, z2, z3, z4], _ => exact ⟨z0, z1, z2, z3, z4, rfl⟩
      have t0 := hf 0 _ rfl
      have t1 := hf 1 _ rfl
      have t2 := hf 2 _ rfl
      have t3 := hf 3 _ rfl
      have t4 := hf 4 _ rfl
      simp [Tryz.cellsInt] at t0 t1 t2 t3 t4
      obtain ⟨n0, e0, _, b0⟩ := DataW.trod_int Tryz.underlying3 t0
      obtain ⟨n1, e1, _, b1⟩ := DataW.trod_int Tryz.underlying3 t1
      obtain ⟨n2, e2, _, b2⟩ := DataW.trod_int Tryz.underlying3 t2
      obtain ⟨n3, e3, _, b3⟩ := DataW.trod_int Tryz.underlying3 t3
      obtain ⟨n4, e4, _, b4⟩ := DataW.trod_int Tryz.underlying3 t4
      simp at e0 e1 e2 e3 e4
      subst e0 e1 e2 e3 e4
      obtain h | h | h | h | h : i % 5 = 0 ∨ i % 5 = 1 ∨ i % 5 = 2 ∨ i % 5 = 3 ∨ i % 5 = 4 := by omega
      all_goals rw [h]
      · exact ⟨n0, rfl, b0⟩
      · exact ⟨n1, rfl, b1⟩
      · exact ⟨n2, rfl, b2⟩
      · exact ⟨n3, rfl, b3⟩
      · exact ⟨n4, rfl, b4⟩)
    exact ⟨some x, len, cap, ys, hc, hx, hy, by omega⟩

set_option maxRecDepth 100000 in
theorem open_Cpu {r : Reach} {b0 : Nat} {v : Value} {d : DataW H} {p : List MemPlace} (hv : Value.okWide Tryz.prog w r b0 29 v) (h : DataW.Trod enc Tryz.prog w base spare held 29 v d p) :
    ∃ (a0 : Option Addr) (c0 : Nat) (x0 : List Int) (a1 : Option Addr) (c1 : Nat) (x1 : List Int) (i2 i3 i4 i5 : Int) (i6 i7 : Bool) (a8 : Option Addr) (c8 : Nat) (x8 : List Int) (a9 : Option Addr) (m9 c9 : Nat) (x9 : List Int) (i10 i11 : Bool), v = .agg #[.slice a0 x0.length c0, .slice a1 x1.length c1, .int .i64 i2, .int .i64 i3, .int .i64 i4, .int .i64 i5, .bool i6, .bool i7, .slice a8 x8.length c8, .slice a9 m9 c9, .bool i10, .bool i11] ∧ (Came w a0 x0 ∧ x0.length ≤ maxLen) ∧ (Came w a1 x1 ∧ x1.length ≤ maxLen) ∧ (Lit.int .i64 i2).wf = true ∧ (Lit.int .i64 i3).wf = true ∧ (Lit.int .i64 i4).wf = true ∧ (Lit.int .i64 i5).wf = true ∧ (Came w a8 x8 ∧ x8.length ≤ maxLen) ∧ (Came w a9 x9 ∧ x9.length = 5 * m9 ∧ m9 ≤ maxLen) := by
  obtain ⟨cs, rfl, hsz⟩ := okWide_struct Tryz.underlying29 hv
  rw [Tryz.cellsCpu] at hsz
  obtain ⟨cl⟩ := cs
  obtain ⟨c_0, c_1, c_2, c_3, c_4, c_5, c_6, c_7, c_8, c_9, c_10, c_11, rfl⟩ : ∃ c_0 c_1 c_2 c_3 c_4 c_5 c_6 c_7 c_8 c_9 c_10 c_11, cl = [c_0, c_1, c_2, c_3, c_4, c_5, c_6, c_7, c_8, c_9, c_10, c_11] := by
    match cl, hsz with
    | [c_0, c_1, c_2, c_3, c_4, c_5, c_6, c_7, c_8, c_9, c_10, c_11], _ => exact ⟨c_0, c_1, c_2, c_3, c_4, c_5, c_6, c_7, c_8, c_9, c_10, c_11, rfl⟩
  obtain ⟨fuel, hf0⟩ := h
  obtain ⟨zs, k, _, _, _, hzl, hf⟩ := DataW.trod_struct Tryz.underlying29 hf0
  obtain ⟨y_0, y_1, y_2, y_3, rfl⟩ : ∃ y_0 y_1 y_2 y_3, zs = [y_0, y_1, y_2, y_3] := by
    match zs, hzl with
    | [y_0, y_1, y_2, y_3], _ => exact ⟨y_0, y_1, y_2, y_3, rfl⟩
  have s0 := hf 0 _ rfl
  have s1 := hf 1 _ rfl
  have s2 := hf 2 _ rfl
  have s3 := hf 3 _ rfl
  simp [Value.cells, Tryz.cellsRegs, Tryz.cellsBus, Tryz.cellsBool] at s0 s1 s2 s3
  obtain ⟨zs, k2, _, _, _, hzl, hr⟩ := DataW.trod_struct Tryz.underlying24 s0
  obtain ⟨z_0, z_1, z_2, z_3, z_4, z_5, z_6, z_7, rfl⟩ : ∃ z_0 z_1 z_2 z_3 z_4 z_5 z_6 z_7, zs = [z_0, z_1, z_2, z_3, z_4, z_5, z_6, z_7] := by
    match zs, hzl with
    | [z_0, z_1, z_2, z_3, z_4, z_5, z_6, z_7], _ => exact ⟨z_0, z_1, z_2, z_3, z_4, z_5, z_6, z_7, rfl⟩
  have t0 := hr 0 _ rfl
  have t1 := hr 1 _ rfl
  have t2 := hr 2 _ rfl
  have t3 := hr 3 _ rfl
  have t4 := hr 4 _ rfl
  have t5 := hr 5 _ rfl
  have t6 := hr 6 _ rfl
  have t7 := hr 7 _ rfl
  simp [Value.cells, Tryz.cellsInt, Tryz.cellsBool, Tryz.cellsInts] at t0 t1 t2 t3 t4 t5 t6 t7
  obtain ⟨zs, k3, _, _, _, hzl, hb⟩ := DataW.trod_struct Tryz.underlying27 s1
  obtain ⟨x_0, x_1, rfl⟩ : ∃ x_0 x_1, zs = [x_0, x_1] := by
    match zs, hzl with
    | [x_0, x_1], _ => exact ⟨x_0, x_1, rfl⟩
  have t8 := hb 0 _ rfl
  have t9 := hb 1 _ rfl
  simp [Value.cells, Tryz.cellsInts, Tryz.cellsAccs] at t8 t9
  obtain ⟨a0, c0, x0, q0, hx0, lx0⟩ := open_intRow t0
  obtain ⟨a1, c1, x1, q1, hx1, lx1⟩ := open_intRow t1
  obtain ⟨i2, q2, _, wf2⟩ := DataW.trod_int Tryz.underlying3 t2
  obtain ⟨i3, q3, _, wf3⟩ := DataW.trod_int Tryz.underlying3 t3
  obtain ⟨i4, q4, _, wf4⟩ := DataW.trod_int Tryz.underlying3 t4
  obtain ⟨i5, q5, _, wf5⟩ := DataW.trod_int Tryz.underlying3 t5
  obtain ⟨i6, q6, _⟩ := DataW.trod_bool Tryz.underlying4 t6
  obtain ⟨i7, q7, _⟩ := DataW.trod_bool Tryz.underlying4 t7
  obtain ⟨a8, c8, x8, q8, hx8, lx8⟩ := open_intRow t8
  obtain ⟨a9, m9, c9, x9, q9, hx9, ly9, lm9⟩ := open_accRow t9
  obtain ⟨i10, q10, _⟩ := DataW.trod_bool Tryz.underlying4 s2
  obtain ⟨i11, q11, _⟩ := DataW.trod_bool Tryz.underlying4 s3
  simp at q0 q1 q2 q3 q4 q5 q6 q7 q8 q9 q10 q11
  subst q0 q1 q2 q3 q4 q5 q6 q7 q8 q9 q10 q11
  exact ⟨a0, c0, x0, a1, c1, x1, i2, i3, i4, i5, i6, i7, a8, c8, x8, a9, m9, c9, x9, i10, i11, rfl, ⟨hx0, lx0⟩, ⟨hx1, lx1⟩, wf2, wf3, wf4, wf5, ⟨hx8, lx8⟩, ⟨hx9, ly9, lm9⟩⟩
end
end Go.Proofs.YtblddehlkaolbaaGreatDoor

