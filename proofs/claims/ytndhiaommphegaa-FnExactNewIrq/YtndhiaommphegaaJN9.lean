/- The law on NewIrq: of whatever arguments, its Go function returns true, and no block that was there has turned. -/
import Derived.Test.YtndhiaommphegaaJN7
import Derived.Test.YtndhiaommphegaaJN3
import Derived.Test.YtndhiaommphegaaJN8
import Derived.Deep.DeepCutAuto
namespace Go.Proofs.Ytndhiaommphegaa
open Go.RowKit
set_option linter.unusedVariables false
set_option maxRecDepth 100000 in
set_option maxHeartbeats 16000000 in
theorem lawNewIrq (d : Pl.Cp) (a b e q : Option Addr) (ca cb ce cq : Nat) (w : World) (hx : Came w a d.r.xs) (hy : Came w b d.r.ys) (hz : Came w e d.bx) (hq : Came w q d.bl) (lx : d.r.xs.length ≤ 9223372036854775807) (ly : d.r.ys.length ≤ 9223372036854775807) (lz : d.bx.length ≤ 9223372036854775807) (lm : d.bm ≤ 9223372036854775807) (ll : d.bl.length = 5 * d.bm) (wfd : Pl.WfR d.r) :
    Calls Try.prog 3 #[.agg (cpA d a b e q ca cb ce cq)] w fun e w' => e = .returned (.bool true) ∧ Below w.heap.size w w' := by
  have HX := hide hx
  have HY := hide hy
  have HZ := hide hz
  have HQ := hide hq
  have HWF := hide wfd
  have HLL := hide ll
  have Bel := hide (kept_alloc w (.cells (cpA d a b e q ca cb ce cq) 29)).below
  have WA := hide (Blk.new w (cpA d a b e q ca cb ce cq) 29)
  obtain ⟨X0, hX0⟩ : ∃ X : World, w.alloc (.cells (cpA d a b e q ca cb ce cq) 29) = X := ⟨_, rfl⟩
  have nX0 : X0.heap.size = w.heap.size + 1 := by simp [← hX0]
  rw [hX0] at Bel WA
  have hln := Pl.nq_len d ll
  clear hx hy hz hq wfd ll
  by_cases hs : szC d.r.xs.length d.r.ys.length d.bx.length d.bm 1048576 < 0
  · go_enter Try.func3, Try.ntmps3
    have p0 := WA.out.all
    go_wp2_with fail
    refine (szCpu _ d a b e q ca cb ce cq 1048576 lx ly lz lm (by decide) (by decide)).mono ?_
    rintro e9 w1 ⟨rfl, k⟩
    have Bn := hide (below_kept Bel.out k (by omega))
    clear k
    go_wp2_with fail
    go_ret
    exact ⟨rfl, Bn.out⟩
  · have hb := szC_neg hs
    have bx : d.r.xs.length ≤ 2000000 := by omega
    have by_ : d.r.ys.length ≤ 2000000 := by omega
    have bz : d.bx.length ≤ 2000000 := by omega
    have bm : d.bm ≤ 2000000 := by omega
    have ds : decide (szC d.r.xs.length d.r.ys.length d.bx.length d.bm 1048576 < 0) = false := by simpa using hs
    clear hs hb
    generalize hDD : Pl.nq d = D at hln
    generalize hKK : Pl.cpOk d = K
    obtain ⟨bD, bE, bF, bL, bM⟩ := hln
    have HDL := hide bL
    clear bL
    have HDD := hide hDD
    have HKK := hide hKK
    clear hDD hKK
    go_enter Try.func3, Try.ntmps3
    have p0 := WA.out.all
    go_wp2_with fail
    clear p0
    refine (szCpu _ d a b e q ca cb ce cq 1048576 lx ly lz lm (by decide) (by decide)).mono ?_
    rintro e9 w1 ⟨rfl, k⟩
    replace Bel := hide (below_kept Bel.out k (by omega))
    replace WA := hide (WA.out.kept k (by omega))
    have nw1 := k.size
    clear k
    clear hX0
    have p0 := WA.out.all
    go_wp2_with fail
    clear p0 ds
    refine (toCpu _ d a b e q ca cb ce cq (HX.out.below Bel.out).1 (HY.out.below Bel.out).1 (HZ.out.below Bel.out).1 (HQ.out.below Bel.out).1 bx by_ bz HLL.out bm).mono ?_
    rintro e9 w2 ⟨g1, g2, g3, g4, rfl, hs9, k⟩
    replace Bel := hide (below_kept Bel.out k (by omega))
    replace WA := hide (WA.out.kept k (by omega))
    have nw2 := k.size
    have O1 := hide hs9
    clear k hs9
    go_wp2_with fail
    refine (specNewIrq _ d _ _ _ _ _ _ _ _ O1.out.d.row O1.out.a'.row O1.out.b'.row O1.out.l.row bx by_ bz HLL.out bm).mono ?_
    rw [HDD.out, HKK.out]
    rintro e9 w3 ⟨a0, b0, e0, q0, ca0, cb0, ce0, cq0, rfl, hin, k⟩
    have hsl := hin.slx
    replace Bel := hide (below_kept Bel.out k (by omega))
    replace WA := hide (WA.out.kept k (by omega))
    replace O1 := hide (O1.out.kept k (by omega))
    have nw3 := k.size
    have S0 := hide hsl
    clear k hin hsl
    clear O1
    have k : Kept 0 0 w3 (w3.alloc (.cells (irA D a0 b0 e0 q0 ca0 cb0 ce0 cq0) 38)) := kept_alloc w3 _
    replace Bel := hide (below_kept Bel.out k (by omega))
    replace WA := hide (WA.out.kept k (by omega))
    replace S0 := hide (S0.out.kept k (by omega))
    have W0 := hide (Blk.new w3 (irA D a0 b0 e0 q0 ca0 cb0 ce0 cq0) 38)
    obtain ⟨X3, hX3⟩ : ∃ X : World, (w3.alloc (.cells (irA D a0 b0 e0 q0 ca0 cb0 ce0 cq0) 38)) = X := ⟨_, rfl⟩
    have nX3 : X3.heap.size = w3.heap.size + 1 := by simp [← hX3]
    rw [hX3] at Bel WA S0 W0
    clear k
    have p0 := WA.out.all
    go_wp2_with fail
    clear p0 hX3
    refine (toCpu _ d a b e q ca cb ce cq (HX.out.below Bel.out).1 (HY.out.below Bel.out).1 (HZ.out.below Bel.out).1 (HQ.out.below Bel.out).1 bx by_ bz HLL.out bm).mono ?_
    rintro e9 w4 ⟨g5, g6, g7, g8, rfl, hs9, k⟩
    replace Bel := hide (below_kept Bel.out k (by omega))
    replace WA := hide (WA.out.kept k (by omega))
    replace S0 := hide (S0.out.kept k (by omega))
    replace W0 := hide (W0.out.kept k (by omega))
    have nw4 := k.size
    have O3 := hide hs9
    clear k hs9
    have k : Kept 0 0 w4 (w4.alloc (.cells (cpA d (some ⟨g5, 0, none⟩) (some ⟨g6, 0, none⟩) (some ⟨g7, 0, none⟩) (some ⟨g8, 0, none⟩) d.r.xs.length d.r.ys.length d.bx.length d.bm) 36)) := kept_alloc w4 _
    replace Bel := hide (below_kept Bel.out k (by omega))
    replace WA := hide (WA.out.kept k (by omega))
    replace S0 := hide (S0.out.kept k (by omega))
    replace W0 := hide (W0.out.kept k (by omega))
    replace O3 := hide (O3.out.kept k (by omega))
    have VA := hide (Blk.new w4 (cpA d (some ⟨g5, 0, none⟩) (some ⟨g6, 0, none⟩) (some ⟨g7, 0, none⟩) (some ⟨g8, 0, none⟩) d.r.xs.length d.r.ys.length d.bx.length d.bm) 36)
    obtain ⟨X4, hX4⟩ : ∃ X : World, (w4.alloc (.cells (cpA d (some ⟨g5, 0, none⟩) (some ⟨g6, 0, none⟩) (some ⟨g7, 0, none⟩) (some ⟨g8, 0, none⟩) d.r.xs.length d.r.ys.length d.bx.length d.bm) 36)) = X := ⟨_, rfl⟩
    have nX4 : X4.heap.size = w4.heap.size + 1 := by simp [← hX4]
    rw [hX4] at Bel WA S0 W0 O3 VA
    clear k
    have p0 := VA.out.all
    go_wp2_with fail
    clear p0 hX4
    refine (implNewIrq _ d _ _ _ _ _ _ _ _ ⟨O3.out.d.row, HX.out.2⟩ ⟨O3.out.a'.row, HY.out.2⟩ ⟨O3.out.b'.row, HZ.out.2⟩ ⟨O3.out.l.row, HQ.out.2⟩ bx by_ bz HLL.out bm HWF.out).mono ?_
    rw [HDD.out, HKK.out]
    rintro e9 w5 ⟨a1, b1, e1, q1, ca1, cb1, ce1, cq1, rfl, hin, k⟩
    have hsl := hin.slx
    replace Bel := hide (below_kept Bel.out k (by omega))
    replace WA := hide (WA.out.kept k (by omega))
    replace S0 := hide (S0.out.kept k (by omega))
    replace W0 := hide (W0.out.kept k (by omega))
    replace O3 := hide (O3.out.kept k (by omega))
    replace VA := hide (VA.out.kept k (by omega))
    have nw5 := k.size
    have S1 := hide hsl
    clear k hin hsl
    have k : Kept 0 0 w5 (w5.alloc (.cells (irA D a1 b1 e1 q1 ca1 cb1 ce1 cq1) 38)) := kept_alloc w5 _
    replace Bel := hide (below_kept Bel.out k (by omega))
    replace WA := hide (WA.out.kept k (by omega))
    replace S0 := hide (S0.out.kept k (by omega))
    replace W0 := hide (W0.out.kept k (by omega))
    replace O3 := hide (O3.out.kept k (by omega))
    replace VA := hide (VA.out.kept k (by omega))
    replace S1 := hide (S1.out.kept k (by omega))
    have W1 := hide (Blk.new w5 (irA D a1 b1 e1 q1 ca1 cb1 ce1 cq1) 38)
    obtain ⟨X5, hX5⟩ : ∃ X : World, (w5.alloc (.cells (irA D a1 b1 e1 q1 ca1 cb1 ce1 cq1) 38)) = X := ⟨_, rfl⟩
    have nX5 : X5.heap.size = w5.heap.size + 1 := by simp [← hX5]
    rw [hX5] at Bel WA S0 W0 O3 VA S1 W1
    clear k
    have p0 := W1.out.all
    have p1 := W0.out.all
    go_wp2_with fail
    clear p0 p1 hX5
    refine (eqIrq _ D a1 b1 e1 q1 _ _ _ _ a0 b0 e0 q0 _ _ _ _ S1.out.d.row S1.out.a'.row S1.out.b'.row S1.out.l.row S0.out.d.row S0.out.a'.row S0.out.b'.row S0.out.l.row (by omega) (by omega) (by omega) HDL.out (by omega)).mono ?_
    rintro e9 w6 ⟨rfl, k⟩
    replace Bel := hide (below_kept Bel.out k (by omega))
    replace WA := hide (WA.out.kept k (by omega))
    replace S0 := hide (S0.out.kept k (by omega))
    replace W0 := hide (W0.out.kept k (by omega))
    replace O3 := hide (O3.out.kept k (by omega))
    replace VA := hide (VA.out.kept k (by omega))
    replace S1 := hide (S1.out.kept k (by omega))
    replace W1 := hide (W1.out.kept k (by omega))
    have nw6 := k.size
    clear k
    have p0 := WA.out.all
    have p1 := VA.out.all
    go_upto_region 10 with fail
    go_cut [41, 42, 43, 44, 45] (fun _ _ _ _ t wx => t = .bool false ∧ Kept 0 0 w6 wx)
    case first =>
      go_region_with (first | (go_at_call 9; refine (toCpu _ d a b e q ca cb ce cq (HX.out.below Bel.out.drew).1 (HY.out.below Bel.out.drew).1 (HZ.out.below Bel.out.drew).1 (HQ.out.below Bel.out.drew).1 bx by_ bz HLL.out bm).mono ?_; rintro e9 w7 ⟨g9, g10, g11, g12, rfl, hs9, kd⟩; have k := undrewK kd; have u := (VA.out.kept0 k).all; have P3 := hide (O3.out.kept k (by omega)); have P5 := hide hs9; have K7 := hide k; clear k kd hs9) | (go_at_call 12; refine (eqCpu _ d _ _ _ _ _ _ _ _ _ _ _ _ _ _ _ _ P3.out.d.row P3.out.a'.row P3.out.b'.row P3.out.l.row P5.out.d.row P5.out.a'.row P5.out.b'.row P5.out.l.row bx by_ bz HLL.out bm).mono ?_; rintro e9 w8 ⟨rfl, k⟩; have K8 := hide (K7.out.trans k); clear k))
      all_goals
        go_wp2_with fail
        go_meet
        case rel => exact ⟨rfl, K8.out⟩
    case rest =>
      clear p0 p1
      rename_i wx
      obtain ⟨rfl, k⟩ := hcut
      replace Bel := hide (below_kept Bel.out k (by omega))
      replace WA := hide (WA.out.kept k (by omega))
      replace S0 := hide (S0.out.kept k (by omega))
      replace W0 := hide (W0.out.kept k (by omega))
      replace O3 := hide (O3.out.kept k (by omega))
      replace VA := hide (VA.out.kept k (by omega))
      replace S1 := hide (S1.out.kept k (by omega))
      replace W1 := hide (W1.out.kept k (by omega))
      have nwx := k.size
      clear k
      have p0 := VA.out.all
      go_wp2_with fail
      clear p0
      refine (markCpuB _ X3.heap.size w4.heap.size d _ _ _ _ _ _ _ _ O3.out (by omega) bx by_ bz HLL.out bm).mono ?_
      rintro e9 w9 ⟨rfl, _, k, _⟩
      clear O3
      replace Bel := hide (below_kept Bel.out k (by omega))
      replace WA := hide (WA.out.kept k (by omega))
      replace S0 := hide (S0.out.kept k (by omega))
      replace W0 := hide (W0.out.kept k (by omega))
      replace VA := hide (VA.out.kept k (by omega))
      replace S1 := hide (S1.out.kept k (by omega))
      replace W1 := hide (W1.out.kept k (by omega))
      have nw9 := k.size
      clear k
      have hmk : ¬ (Pl.mkN d 1 < 0) := by unfold Pl.mkN; omega
      have p0 := W1.out.all
      have p1 := W0.out.all
      go_wp2_with fail
      clear p0 p1
      refine (eqIrq _ D a1 b1 e1 q1 _ _ _ _ a0 b0 e0 q0 _ _ _ _ S1.out.d.row S1.out.a'.row S1.out.b'.row S1.out.l.row S0.out.d.row S0.out.a'.row S0.out.b'.row S0.out.l.row (by omega) (by omega) (by omega) HDL.out (by omega)).mono ?_
      rintro e9 w10 ⟨rfl, k⟩
      replace Bel := hide (below_kept Bel.out k (by omega))
      replace WA := hide (WA.out.kept k (by omega))
      replace S0 := hide (S0.out.kept k (by omega))
      replace W0 := hide (W0.out.kept k (by omega))
      replace VA := hide (VA.out.kept k (by omega))
      replace S1 := hide (S1.out.kept k (by omega))
      replace W1 := hide (W1.out.kept k (by omega))
      have nw10 := k.size
      clear k
      have p0 := W1.out.all
      go_wp2_with fail
      clear p0
      refine (markIrq _ D a1 b1 e1 q1 _ _ _ _ X4.heap.size w5.heap.size S1.out (by omega) (by omega) (by omega) (by omega) HDL.out (by omega)).mono ?_
      rintro e9 w11 ⟨rfl, hm9, k, kb⟩
      clear S1
      replace Bel := hide (below_kept Bel.out k (by omega))
      replace WA := hide (WA.out.kept k (by omega))
      replace S0 := hide (S0.out.kept k (by omega))
      replace W0 := hide (W0.out.kept k (by omega))
      replace VA := hide (VA.out.kept k (by omega))
      replace W1 := hide (W1.out.kept k (by omega))
      have M1 := hide hm9
      have nw11 := k.size
      clear k hm9 kb
      have hmD : 0 ≤ Pl.mkN D.c 1 ∧ Pl.mkN D.c 1 ≤ 100000 := by unfold Pl.mkN; omega
      obtain ⟨Q, hQ⟩ : ∃ Q, Q = Pl.mkN D.c 1 := ⟨_, rfl⟩
      rw [← hQ] at hmD ⊢
      have HQQ := hide hQ
      clear hQ
      have hmE : ¬ (Q < 0) := by omega
      have p0 := W1.out.all
      go_wp2_with fail
      clear p0
      refine (heldIrq _ D a1 b1 e1 q1 _ _ _ _ M1.out.d.row M1.out.a'.row M1.out.b'.row M1.out.l.row (by omega) (by omega) (by omega) (by omega)).mono ?_
      rw [← HQQ.out]
      rintro e9 w12 ⟨rfl, k⟩
      replace Bel := hide (below_kept Bel.out k (by omega))
      replace WA := hide (WA.out.kept k (by omega))
      replace S0 := hide (S0.out.kept k (by omega))
      replace W0 := hide (W0.out.kept k (by omega))
      replace VA := hide (VA.out.kept k (by omega))
      replace W1 := hide (W1.out.kept k (by omega))
      replace M1 := hide (M1.out.kept k (by omega))
      have nw12 := k.size
      clear k
      have p0 := WA.out.all
      go_wp2_with fail
      clear p0
      refine (toCpu _ d a b e q ca cb ce cq (HX.out.below Bel.out).1 (HY.out.below Bel.out).1 (HZ.out.below Bel.out).1 (HQ.out.below Bel.out).1 bx by_ bz HLL.out bm).mono ?_
      rintro e9 w13 ⟨h1, h2, h3, h4, rfl, hs9, k⟩
      replace Bel := hide (below_kept Bel.out k (by omega))
      replace WA := hide (WA.out.kept k (by omega))
      replace S0 := hide (S0.out.kept k (by omega))
      replace W0 := hide (W0.out.kept k (by omega))
      replace VA := hide (VA.out.kept k (by omega))
      replace W1 := hide (W1.out.kept k (by omega))
      replace M1 := hide (M1.out.kept k (by omega))
      have nw13 := k.size
      have O5 := hide hs9
      clear k hs9
      go_wp2_with fail
      refine (implNewIrq _ d _ _ _ _ _ _ _ _ ⟨O5.out.d.row, HX.out.2⟩ ⟨O5.out.a'.row, HY.out.2⟩ ⟨O5.out.b'.row, HZ.out.2⟩ ⟨O5.out.l.row, HQ.out.2⟩ bx by_ bz HLL.out bm HWF.out).mono ?_
      rw [HDD.out, HKK.out]
      rintro e9 w14 ⟨a2, b2, e2, q2, ca2, cb2, ce2, cq2, rfl, hin, k⟩
      have hsl := hin.slx
      replace Bel := hide (below_kept Bel.out k (by omega))
      replace WA := hide (WA.out.kept k (by omega))
      replace S0 := hide (S0.out.kept k (by omega))
      replace W0 := hide (W0.out.kept k (by omega))
      replace VA := hide (VA.out.kept k (by omega))
      replace W1 := hide (W1.out.kept k (by omega))
      replace M1 := hide (M1.out.kept k (by omega))
      replace O5 := hide (O5.out.kept k (by omega))
      have nw14 := k.size
      have S2 := hide hsl
      clear k hin hsl
      clear O5
      have k : Kept 0 0 w14 (w14.alloc (.cells (irA D a2 b2 e2 q2 ca2 cb2 ce2 cq2) 38)) := kept_alloc w14 _
      replace Bel := hide (below_kept Bel.out k (by omega))
      replace WA := hide (WA.out.kept k (by omega))
      replace S0 := hide (S0.out.kept k (by omega))
      replace W0 := hide (W0.out.kept k (by omega))
      replace VA := hide (VA.out.kept k (by omega))
      replace W1 := hide (W1.out.kept k (by omega))
      replace M1 := hide (M1.out.kept k (by omega))
      replace S2 := hide (S2.out.kept k (by omega))
      have W2 := hide (Blk.new w14 (irA D a2 b2 e2 q2 ca2 cb2 ce2 cq2) 38)
      obtain ⟨X14, hX14⟩ : ∃ X : World, (w14.alloc (.cells (irA D a2 b2 e2 q2 ca2 cb2 ce2 cq2) 38)) = X := ⟨_, rfl⟩
      have nX14 : X14.heap.size = w14.heap.size + 1 := by simp [← hX14]
      rw [hX14] at Bel WA S0 W0 VA W1 M1 S2 W2
      clear k
      have p0 := W2.out.all
      have p1 := W0.out.all
      go_wp2_with fail
      clear p0 p1 hX14
      refine (eqIrq _ D a2 b2 e2 q2 _ _ _ _ a0 b0 e0 q0 _ _ _ _ S2.out.d.row S2.out.a'.row S2.out.b'.row S2.out.l.row S0.out.d.row S0.out.a'.row S0.out.b'.row S0.out.l.row (by omega) (by omega) (by omega) HDL.out (by omega)).mono ?_
      rintro e9 w15 ⟨rfl, k⟩
      replace Bel := hide (below_kept Bel.out k (by omega))
      replace WA := hide (WA.out.kept k (by omega))
      replace S0 := hide (S0.out.kept k (by omega))
      replace W0 := hide (W0.out.kept k (by omega))
      replace VA := hide (VA.out.kept k (by omega))
      replace W1 := hide (W1.out.kept k (by omega))
      replace M1 := hide (M1.out.kept k (by omega))
      replace S2 := hide (S2.out.kept k (by omega))
      replace W2 := hide (W2.out.kept k (by omega))
      have nw15 := k.size
      clear k
      have p0 := W1.out.all
      go_wp2_with fail
      clear p0
      refine (heldIrq _ D a1 b1 e1 q1 _ _ _ _ M1.out.d.row M1.out.a'.row M1.out.b'.row M1.out.l.row (by omega) (by omega) (by omega) (by omega)).mono ?_
      rw [← HQQ.out]
      rintro e9 w16 ⟨rfl, k⟩
      replace Bel := hide (below_kept Bel.out k (by omega))
      replace WA := hide (WA.out.kept k (by omega))
      replace S0 := hide (S0.out.kept k (by omega))
      replace W0 := hide (W0.out.kept k (by omega))
      replace VA := hide (VA.out.kept k (by omega))
      replace W1 := hide (W1.out.kept k (by omega))
      replace M1 := hide (M1.out.kept k (by omega))
      replace S2 := hide (S2.out.kept k (by omega))
      replace W2 := hide (W2.out.kept k (by omega))
      have nw16 := k.size
      clear k
      go_wp2_with fail
      go_ret
      exact ⟨rfl, Bel.out⟩
end Go.Proofs.Ytndhiaommphegaa

