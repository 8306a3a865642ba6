/- The law on GoodRegs: of whatever registers, its Go function returns true, and no block that was there has turned. -/
import Derived.Test.YtikmelkobbbgnaaRegsFns
import Derived.Test.YtikmelkobbbgnaaSpecReg7
import Derived.Test.YtikmelkobbbgnaaImplRegB
import Derived.Test.YtikmelkobbbgnaaRegLen
import Derived.Deep.DeepCutAuto
namespace Go.Proofs.Ytikmelkobbbgnaa
open Go.RowKit
set_option linter.unusedVariables false

set_option maxRecDepth 100000 in
set_option maxHeartbeats 16000000 in
theorem lawGoodRegs (d : Pl.Rg) (a b : Option Addr) (ca cb : Nat) (w : World) (hx : Came w a d.xs) (hy : Came w b d.ys) (lx : d.xs.length ≤ 9223372036854775807) (ly : d.ys.length ≤ 9223372036854775807) (wfd : Pl.WfR d) :
    Calls Try.prog 4 #[.agg #[.slice a d.xs.length ca, .slice b d.ys.length cb, .int .i64 d.o, .int .i64 d.p, .int .i64 d.f, .int .i64 d.m, .bool d.s, .bool d.t]] w fun e w' => e = .returned (.bool true) ∧ Below w.heap.size w w' := by
  have HX := hide hx
  have HY := hide hy
  have HWF := hide wfd
  have Bel := hide (kept_alloc w (.cells #[.slice a d.xs.length ca, .slice b d.ys.length cb, .int .i64 d.o, .int .i64 d.p, .int .i64 d.f, .int .i64 d.m, .bool d.s, .bool d.t] 29)).below
  have WA := hide (Blk.new w #[.slice a d.xs.length ca, .slice b d.ys.length cb, .int .i64 d.o, .int .i64 d.p, .int .i64 d.f, .int .i64 d.m, .bool d.s, .bool d.t] 29)
  clear hx hy wfd
  by_cases hs : szB d.xs.length d.ys.length 1048576 < 0
  · go_enter Try.func4, Try.ntmps4
    go_wp2_with fail
    refine (szRegs _ d.o d.p d.f d.m d.s d.t a b ca cb d.xs.length d.ys.length 1048576 lx ly (by decide) (by decide)).mono ?_
    rintro e w1 ⟨rfl, k⟩
    have Bn := hide (below_kept Bel.out k (by omega))
    clear k
    go_wp2_with fail
    go_ret
    exact ⟨rfl, Bn.out⟩
  · have hb := szB_neg hs
    have bx : d.xs.length ≤ 2000000 := by omega
    have bm : d.ys.length ≤ 2000000 := by omega
    have ds : decide (szB d.xs.length d.ys.length 1048576 < 0) = false := by simpa using hs
    clear hs hb
    generalize hA0 : Pl.rgOk d = A0
    have HA0 := hide hA0
    clear hA0
    go_enter Try.func4, Try.ntmps4
    go_wp2_with fail
    refine (szRegs _ d.o d.p d.f d.m d.s d.t a b ca cb d.xs.length d.ys.length 1048576 lx ly (by decide) (by decide)).mono ?_
    rintro e w1 ⟨rfl, k⟩
    have Beln := hide (below_kept Bel.out k (by omega))
    have WAn := hide (WA.out.kept k (by omega))
    clear Bel WA
    have Bel := Beln
    have WA := WAn
    clear Beln WAn
    have n1 := k.size
    simp only [World.size_alloc] at n1
    clear k
    have p00 := WA.out.cell (i := 0) rfl
    have p01 := WA.out.cell (i := 1) rfl
    have p02 := WA.out.cell (i := 2) rfl
    have p03 := WA.out.cell (i := 3) rfl
    have p04 := WA.out.cell (i := 4) rfl
    have p05 := WA.out.cell (i := 5) rfl
    have p06 := WA.out.cell (i := 6) rfl
    have p07 := WA.out.cell (i := 7) rfl
    go_wp2_with fail
    clear p00 p01 p02 p03 p04 p05 p06 p07
    clear ds
    refine (toRegs _ d.o d.p d.f d.m d.s d.t a b ca cb d.xs d.ys (HX.out.below Bel.out).1 (HY.out.below Bel.out).1 bx bm).mono ?_
    rintro e w2 ⟨g1, g2, rfl, o, o2, l1, l2, l3, k⟩
    have Beln := hide (below_kept Bel.out k (by omega))
    have WAn := hide (WA.out.kept k (by omega))
    clear Bel WA
    have Bel := Beln
    have WA := WAn
    clear Beln WAn
    have O1 := hide o
    have O2 := hide o2
    clear o o2 k
    go_wp2_with fail
    refine (specGoodRegs _ d _ _ _ _ O1.out.row O2.out.row bx bm).mono ?_
    rw [HA0.out]
    rintro e w3 ⟨rfl, k⟩
    clear O1 O2
    have Beln := hide (below_kept Bel.out k (by omega))
    have WAn := hide (WA.out.kept k (by omega))
    clear Bel WA
    have Bel := Beln
    have WA := WAn
    clear Beln WAn
    have n3 := k.size
    clear k
    have p00 := WA.out.cell (i := 0) rfl
    have p01 := WA.out.cell (i := 1) rfl
    have p02 := WA.out.cell (i := 2) rfl
    have p03 := WA.out.cell (i := 3) rfl
    have p04 := WA.out.cell (i := 4) rfl
    have p05 := WA.out.cell (i := 5) rfl
    have p06 := WA.out.cell (i := 6) rfl
    have p07 := WA.out.cell (i := 7) rfl
    go_wp2_with fail
    clear p00 p01 p02 p03 p04 p05 p06 p07
    refine (toRegs _ d.o d.p d.f d.m d.s d.t a b ca cb d.xs d.ys (HX.out.below Bel.out).1 (HY.out.below Bel.out).1 bx bm).mono ?_
    rintro e w4 ⟨g3, g4, rfl, o, o2, l4, l5, l6, k⟩
    have Beln := hide (below_kept Bel.out k (by omega))
    have WAn := hide (WA.out.kept k (by omega))
    clear Bel WA
    have Bel := Beln
    have WA := WAn
    clear Beln WAn
    have O3 := hide o
    have O4 := hide o2
    clear o o2 k
    have ka := kept_alloc w4 (.cells #[.slice (some ⟨g3, 0, none⟩) d.xs.length d.xs.length, .slice (some ⟨g4, 0, none⟩) d.ys.length d.ys.length, .int .i64 d.o, .int .i64 d.p, .int .i64 d.f, .int .i64 d.m, .bool d.s, .bool d.t] 24)
    have Beln := hide (below_kept Bel.out ka (by omega))
    have WAn := hide (WA.out.kept ka (by omega))
    have O3n := hide (O3.out.keptS ka (by omega))
    have O4n := hide (O4.out.keptS ka (by omega))
    clear Bel WA O3 O4
    have Bel := Beln
    have WA := WAn
    have O3 := O3n
    have O4 := O4n
    clear Beln WAn O3n O4n
    have VA := hide (Blk.new w4 #[.slice (some ⟨g3, 0, none⟩) d.xs.length d.xs.length, .slice (some ⟨g4, 0, none⟩) d.ys.length d.ys.length, .int .i64 d.o, .int .i64 d.p, .int .i64 d.f, .int .i64 d.m, .bool d.s, .bool d.t] 24)
    obtain ⟨X4, hX4⟩ : ∃ X : World, X = w4.alloc (.cells #[.slice (some ⟨g3, 0, none⟩) d.xs.length d.xs.length, .slice (some ⟨g4, 0, none⟩) d.ys.length d.ys.length, .int .i64 d.o, .int .i64 d.p, .int .i64 d.f, .int .i64 d.m, .bool d.s, .bool d.t] 24) := ⟨_, rfl⟩
    have nX4 : w4.heap.size < X4.heap.size := by rw [hX4]; simp
    rw [← hX4] at Bel WA O3 O4 VA
    have r00 := VA.out.cell (i := 0) rfl
    rw [hX4] at r00
    have r01 := VA.out.cell (i := 1) rfl
    rw [hX4] at r01
    have r02 := VA.out.cell (i := 2) rfl
    rw [hX4] at r02
    have r03 := VA.out.cell (i := 3) rfl
    rw [hX4] at r03
    have r04 := VA.out.cell (i := 4) rfl
    rw [hX4] at r04
    have r05 := VA.out.cell (i := 5) rfl
    rw [hX4] at r05
    have r06 := VA.out.cell (i := 6) rfl
    rw [hX4] at r06
    have r07 := VA.out.cell (i := 7) rfl
    rw [hX4] at r07
    go_wp2_with fail
    rw [← hX4]
    clear ka hX4 r00 r01 r02 r03 r04 r05 r06 r07
    refine (implGoodRegs _ d _ _ _ _ (O3.out.came HX.out.2) (O4.out.came HY.out.2) bx bm HWF.out).mono ?_
    rw [HA0.out]
    rintro e w5 ⟨rfl, k⟩
    have Beln := hide (below_kept Bel.out k (by omega))
    have WAn := hide (WA.out.kept k (by omega))
    have O3n := hide (O3.out.keptS k (by omega))
    have O4n := hide (O4.out.keptS k (by omega))
    have VAn := hide (VA.out.kept k (by omega))
    clear Bel WA O3 O4 VA
    have Bel := Beln
    have WA := WAn
    have O3 := O3n
    have O4 := O4n
    have VA := VAn
    clear Beln WAn O3n O4n VAn
    have n5 := k.size
    clear k
    have p00 := WA.out.cell (i := 0) rfl
    have p01 := WA.out.cell (i := 1) rfl
    have p02 := WA.out.cell (i := 2) rfl
    have p03 := WA.out.cell (i := 3) rfl
    have p04 := WA.out.cell (i := 4) rfl
    have p05 := WA.out.cell (i := 5) rfl
    have p06 := WA.out.cell (i := 6) rfl
    have p07 := WA.out.cell (i := 7) rfl
    have p10 := VA.out.cell (i := 0) rfl
    have p11 := VA.out.cell (i := 1) rfl
    have p12 := VA.out.cell (i := 2) rfl
    have p13 := VA.out.cell (i := 3) rfl
    have p14 := VA.out.cell (i := 4) rfl
    have p15 := VA.out.cell (i := 5) rfl
    have p16 := VA.out.cell (i := 6) rfl
    have p17 := VA.out.cell (i := 7) rfl
    go_upto_region 10 with fail
    go_cut [22, 23, 24, 25, 26] (fun _ _ _ _ t wx => t = .bool false ∧ Kept 0 0 w5 wx)
    case first =>
      go_region_with (first | (go_at_call 18; refine (toRegs _ d.o d.p d.f d.m d.s d.t a b ca cb d.xs d.ys (HX.out.below Bel.out.drew).1 (HY.out.below Bel.out.drew).1 bx bm).mono ?_; rintro e w7 ⟨g5, g6, rfl, o5, o6, l7, l8, l9, kd⟩; have k := undrewK kd; have VN := hide (VA.out.kept0 k); have u0 := VN.out.cell (i := 0) rfl; have u1 := VN.out.cell (i := 1) rfl; have u2 := VN.out.cell (i := 2) rfl; have u3 := VN.out.cell (i := 3) rfl; have u4 := VN.out.cell (i := 4) rfl; have u5 := VN.out.cell (i := 5) rfl; have u6 := VN.out.cell (i := 6) rfl; have u7 := VN.out.cell (i := 7) rfl; have P3 := hide (O3.out.keptS k (by omega)); have P4 := hide (O4.out.keptS k (by omega)); have P5 := hide o5; have P6 := hide o6; have K7 := hide k; clear k kd o5 o6) | (go_at_call 13; refine (eqRegs _ d.o d.p d.f d.m d.s d.t _ _ _ _ _ _ _ _ d.xs d.ys P3.out.row P4.out.row P5.out.row P6.out.row bx bm).mono ?_; rintro e w8 ⟨rfl, k⟩; have K8 := hide (K7.out.trans k); clear k))
      all_goals
        go_wp2_with fail
        go_meet
        case rel => exact ⟨rfl, K8.out⟩
    case rest =>
      clear p00 p01 p02 p03 p04 p05 p06 p07 p10 p11 p12 p13 p14 p15 p16 p17
      rename_i wx
      obtain ⟨rfl, k⟩ := hcut
      have Beln := hide (below_kept Bel.out k (by omega))
      have WAn := hide (WA.out.kept k (by omega))
      have O3n := hide (O3.out.keptS k (by omega))
      have O4n := hide (O4.out.keptS k (by omega))
      have VAn := hide (VA.out.kept k (by omega))
      clear Bel WA O3 O4 VA
      have Bel := Beln
      have WA := WAn
      have O3 := O3n
      have O4 := O4n
      have VA := VAn
      clear Beln WAn O3n O4n VAn
      clear k
      go_wp2_with fail
      go_ret
      exact ⟨rfl, Bel.out⟩
end Go.Proofs.Ytikmelkobbbgnaa
