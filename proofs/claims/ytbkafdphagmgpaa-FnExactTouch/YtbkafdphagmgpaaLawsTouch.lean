/- The law on Touch: of whatever bus and access, its Go function returns true, and no block that was there has turned. -/
import Derived.Test.YtbkafdphagmgpaaLawsBus
import Derived.Test.YtbkafdphagmgpaaSpecTchEnd
import Derived.Test.YtbkafdphagmgpaaImplTouch
import Derived.Deep.DeepCutAuto
namespace Go.Proofs.Ytbkafdphagmgpaa
open Go.RowKit
set_option linter.unusedVariables false

set_option maxRecDepth 100000 in
set_option maxHeartbeats 16000000 in
theorem lawTouch (a b : Option Addr) (ca m cb : Nat) (xs ys : List Int) (i1 i2 i3 i4 : Int) (w : World) (hx : Came w a xs) (hy : Came w b ys) (ly : ys.length = 5 * m) (lx : xs.length ≤ 9223372036854775807) (lm : m ≤ 9223372036854775807) (wf1 : (Lit.int .i64 i1).wf = true) (wf2 : (Lit.int .i64 i2).wf = true) (wf3 : (Lit.int .i64 i3).wf = true) (wf4 : (Lit.int .i64 i4).wf = true) :
    Calls Try.prog 5 #[.agg #[.slice a xs.length ca, .slice b m cb], .int .i64 i1, .int .i64 i2, .int .i64 i3, .int .i64 i4] w fun e w' => e = .returned (.bool true) ∧ Below w.heap.size w w' := by
  have HX := hide hx
  have HY := hide hy
  have HL := hide ly
  have Bel := hide (kept_alloc w (.cells #[.slice a xs.length ca, .slice b m cb] 35)).below
  have WA := hide (Blk.new w #[.slice a xs.length ca, .slice b m cb] 35)
  have HN := hide (Pl.tL_len (xs := xs) i1 i2 i3 i4 ly)
  have hn := Pl.tN_le xs ys m i1 i2 i3 i4
  have hB := Pl.tB_len xs ys m i1 i2 i3 i4
  clear hx hy ly wf1 wf2 wf3
  by_cases hs : szB xs.length m 1048576 < 0
  · go_enter Try.func5, Try.ntmps5
    go_wp2_with fail
    refine (szBus _ a b ca cb xs.length m 1048576 lx lm (by decide) (by decide)).mono ?_
    rintro e w1 ⟨rfl, k⟩
    have Bn := hide (below_kept Bel.out k (by omega))
    clear k
    go_wp2_with fail
    go_ret
    exact ⟨rfl, Bn.out⟩
  · have hb := szB_neg hs
    have bx : xs.length ≤ 2000000 := by omega
    have bm : m ≤ 2000000 := by omega
    have ds : decide (szB xs.length m 1048576 < 0) = false := by simpa using hs
    clear hs hb
    generalize hNn : Pl.tN xs ys m i1 i2 i3 i4 = N at hn HN
    generalize hLl : Pl.tL xs ys m i1 i2 i3 i4 = L at HN
    generalize hBb : Pl.tB xs ys m i1 i2 i3 i4 = B at hB
    generalize hVv : Pl.tV xs ys m i1 i2 i3 i4 = TV
    generalize hCc : Pl.tC xs ys m i1 i2 i3 i4 = TC
    generalize hKk : Pl.tOk xs ys m i1 i2 i3 i4 = OK
    have bn : N ≤ 2000000 := by omega
    have bB : B.length ≤ 2000000 := by omega
    have HNN := hide hNn
    have HLL := hide hLl
    have HBB := hide hBb
    have HVV := hide hVv
    have HCC := hide hCc
    have HKK := hide hKk
    clear hNn hLl hBb hVv hCc hKk
    go_enter Try.func5, Try.ntmps5
    go_wp2_with fail
    refine (szBus _ a b ca cb xs.length m 1048576 lx lm (by decide) (by decide)).mono ?_
    rintro e w1 ⟨rfl, k⟩
    have Beln := hide (below_kept Bel.out k (by omega))
    have WAn := hide (WA.out.kept k (by omega))
    clear Bel WA
    have Bel := Beln
    have WA := WAn
    clear Beln WAn
    have n1 := k.size
    simp only [World.size_alloc] at n1
    clear k
    have p00 := WA.out.cell (i := 0) rfl
    have p01 := WA.out.cell (i := 1) rfl
    go_wp2_with fail
    clear p00 p01
    clear ds
    refine (toBus _ a b ca cb m xs ys (HX.out.below Bel.out).1 (HY.out.below Bel.out).1 bx HL.out bm).mono ?_
    rintro e w2 ⟨g1, g2, rfl, o, o2, l1, l2, l3, k⟩
    have Beln := hide (below_kept Bel.out k (by omega))
    have WAn := hide (WA.out.kept k (by omega))
    clear Bel WA
    have Bel := Beln
    have WA := WAn
    clear Beln WAn
    have O1 := hide o
    have O2 := hide o2
    clear o o2 k
    go_wp2_with fail
    refine (specTouch _ _ _ _ _ m xs ys i1 i2 i3 i4 O1.out.row O2.out.row bx HL.out bm).mono ?_
    rw [HNN.out, HLL.out, HBB.out, HVV.out, HCC.out, HKK.out]
    rintro e w3 ⟨d0, f0, e0, h0, rfl, s, t, hd0, k⟩
    clear O1 O2
    have Beln := hide (below_kept Bel.out k (by omega))
    have WAn := hide (WA.out.kept k (by omega))
    clear Bel WA
    have Bel := Beln
    have WA := WAn
    clear Beln WAn
    have n3 := k.size
    have S0 := hide s
    have T0 := hide t
    clear k s t hd0
    have ka := kept_alloc w3 (.cells #[.slice d0 B.length e0, .slice f0 N h0] 25)
    have Beln := hide (below_kept Bel.out ka (by omega))
    have WAn := hide (WA.out.kept ka (by omega))
    have S0n := hide (S0.out.kept ka (by omega))
    have T0n := hide (T0.out.kept ka (by omega))
    clear Bel WA S0 T0
    have Bel := Beln
    have WA := WAn
    have S0 := S0n
    have T0 := T0n
    clear Beln WAn S0n T0n
    have W0 := hide (Blk.new w3 #[.slice d0 B.length e0, .slice f0 N h0] 25)
    obtain ⟨X3, hX3⟩ : ∃ X : World, X = w3.alloc (.cells #[.slice d0 B.length e0, .slice f0 N h0] 25) := ⟨_, rfl⟩
    have nX3 : w3.heap.size < X3.heap.size := by rw [hX3]; simp
    rw [← hX3] at Bel WA S0 T0 W0
    have r00 := WA.out.cell (i := 0) rfl
    rw [hX3] at r00
    have s00 := (World.cell?_alloc_lt w3 (.cells #[.slice d0 B.length e0, .slice f0 N h0] 25) ⟨w.heap.size, 0, none⟩ (by show w.heap.size < _; omega)).symm.trans r00
    have r01 := WA.out.cell (i := 1) rfl
    rw [hX3] at r01
    have s01 := (World.cell?_alloc_lt w3 (.cells #[.slice d0 B.length e0, .slice f0 N h0] 25) ⟨w.heap.size, 1, none⟩ (by show w.heap.size < _; omega)).symm.trans r01
    go_wp2_with fail
    rw [← hX3]
    clear ka hX3 r00 s00 r01 s01
    refine (toBus _ a b ca cb m xs ys (HX.out.below Bel.out).1 (HY.out.below Bel.out).1 bx HL.out bm).mono ?_
    rintro e w4 ⟨g3, g4, rfl, o, o2, l4, l5, l6, k⟩
    have Beln := hide (below_kept Bel.out k (by omega))
    have WAn := hide (WA.out.kept k (by omega))
    have S0n := hide (S0.out.kept k (by omega))
    have T0n := hide (T0.out.kept k (by omega))
    have W0n := hide (W0.out.kept k (by omega))
    clear Bel WA S0 T0 W0
    have Bel := Beln
    have WA := WAn
    have S0 := S0n
    have T0 := T0n
    have W0 := W0n
    clear Beln WAn S0n T0n W0n
    have O3 := hide o
    have O4 := hide o2
    clear o o2 k
    have ka := kept_alloc w4 (.cells #[.slice (some ⟨g3, 0, none⟩) xs.length xs.length, .slice (some ⟨g4, 0, none⟩) m m] 25)
    have Beln := hide (below_kept Bel.out ka (by omega))
    have WAn := hide (WA.out.kept ka (by omega))
    have S0n := hide (S0.out.kept ka (by omega))
    have T0n := hide (T0.out.kept ka (by omega))
    have W0n := hide (W0.out.kept ka (by omega))
    have O3n := hide (O3.out.keptS ka (by omega))
    have O4n := hide (O4.out.keptS ka (by omega))
    clear Bel WA S0 T0 W0 O3 O4
    have Bel := Beln
    have WA := WAn
    have S0 := S0n
    have T0 := T0n
    have W0 := W0n
    have O3 := O3n
    have O4 := O4n
    clear Beln WAn S0n T0n W0n O3n O4n
    have VA := hide (Blk.new w4 #[.slice (some ⟨g3, 0, none⟩) xs.length xs.length, .slice (some ⟨g4, 0, none⟩) m m] 25)
    obtain ⟨X4, hX4⟩ : ∃ X : World, X = w4.alloc (.cells #[.slice (some ⟨g3, 0, none⟩) xs.length xs.length, .slice (some ⟨g4, 0, none⟩) m m] 25) := ⟨_, rfl⟩
    have nX4 : w4.heap.size < X4.heap.size := by rw [hX4]; simp
    rw [← hX4] at Bel WA S0 T0 W0 O3 O4 VA
    have r00 := VA.out.cell (i := 0) rfl
    rw [hX4] at r00
    have r01 := VA.out.cell (i := 1) rfl
    rw [hX4] at r01
    go_wp2_with fail
    rw [← hX4]
    clear ka hX4 r00 r01
    refine (implTouch _ _ _ _ _ m xs ys i1 i2 i3 i4 (O3.out.came HX.out.2) (O4.out.came HY.out.2) bx HL.out bm wf4).mono ?_
    rw [HNN.out, HLL.out, HBB.out, HVV.out, HCC.out, HKK.out]
    rintro e w5 ⟨d1, f1, e1, h1, rfl, s, t, hd1, k⟩
    have Beln := hide (below_kept Bel.out k (by omega))
    have WAn := hide (WA.out.kept k (by omega))
    have S0n := hide (S0.out.kept k (by omega))
    have T0n := hide (T0.out.kept k (by omega))
    have W0n := hide (W0.out.kept k (by omega))
    have O3n := hide (O3.out.keptS k (by omega))
    have O4n := hide (O4.out.keptS k (by omega))
    have VAn := hide (VA.out.kept k (by omega))
    clear Bel WA S0 T0 W0 O3 O4 VA
    have Bel := Beln
    have WA := WAn
    have S0 := S0n
    have T0 := T0n
    have W0 := W0n
    have O3 := O3n
    have O4 := O4n
    have VA := VAn
    clear Beln WAn S0n T0n W0n O3n O4n VAn
    have nw5 := k.size
    have S1 := hide s
    have T1 := hide t
    clear k s t
    have HD1 := hide hd1
    clear hd1
    have ka := kept_alloc w5 (.cells #[.slice d1 B.length e1, .slice f1 N h1] 25)
    have Beln := hide (below_kept Bel.out ka (by omega))
    have WAn := hide (WA.out.kept ka (by omega))
    have S0n := hide (S0.out.kept ka (by omega))
    have T0n := hide (T0.out.kept ka (by omega))
    have W0n := hide (W0.out.kept ka (by omega))
    have O3n := hide (O3.out.keptS ka (by omega))
    have O4n := hide (O4.out.keptS ka (by omega))
    have VAn := hide (VA.out.kept ka (by omega))
    have S1n := hide (S1.out.kept ka (by omega))
    have T1n := hide (T1.out.kept ka (by omega))
    clear Bel WA S0 T0 W0 O3 O4 VA S1 T1
    have Bel := Beln
    have WA := WAn
    have S0 := S0n
    have T0 := T0n
    have W0 := W0n
    have O3 := O3n
    have O4 := O4n
    have VA := VAn
    have S1 := S1n
    have T1 := T1n
    clear Beln WAn S0n T0n W0n O3n O4n VAn S1n T1n
    have W1 := hide (Blk.new w5 #[.slice d1 B.length e1, .slice f1 N h1] 25)
    obtain ⟨X5, hX5⟩ : ∃ X : World, X = w5.alloc (.cells #[.slice d1 B.length e1, .slice f1 N h1] 25) := ⟨_, rfl⟩
    have nX5 : w5.heap.size < X5.heap.size := by rw [hX5]; simp
    rw [← hX5] at Bel WA S0 T0 W0 O3 O4 VA S1 T1 W1
    have r00 := W1.out.cell (i := 0) rfl
    rw [hX5] at r00
    have r01 := W1.out.cell (i := 1) rfl
    rw [hX5] at r01
    have r10 := W0.out.cell (i := 0) rfl
    rw [hX5] at r10
    have s10 := (World.cell?_alloc_lt w5 (.cells #[.slice d1 B.length e1, .slice f1 N h1] 25) ⟨w3.heap.size, 0, none⟩ (by show w3.heap.size < _; omega)).symm.trans r10
    have r11 := W0.out.cell (i := 1) rfl
    rw [hX5] at r11
    have s11 := (World.cell?_alloc_lt w5 (.cells #[.slice d1 B.length e1, .slice f1 N h1] 25) ⟨w3.heap.size, 1, none⟩ (by show w3.heap.size < _; omega)).symm.trans r11
    go_wp2_with fail
    rw [← hX5]
    clear ka hX5 r00 r01 r10 s10 r11 s11
    refine (eqBus _ d1 f1 d0 f0 _ _ _ _ N N B L B L S1.out.row T1.out.row S0.out.row T0.out.row bB bB HN.out HN.out bn bn).mono ?_
    rintro e w6 ⟨rfl, k⟩
    have Beln := hide (below_kept Bel.out k (by omega))
    have WAn := hide (WA.out.kept k (by omega))
    have S0n := hide (S0.out.kept k (by omega))
    have T0n := hide (T0.out.kept k (by omega))
    have W0n := hide (W0.out.kept k (by omega))
    have O3n := hide (O3.out.keptS k (by omega))
    have O4n := hide (O4.out.keptS k (by omega))
    have VAn := hide (VA.out.kept k (by omega))
    have S1n := hide (S1.out.kept k (by omega))
    have T1n := hide (T1.out.kept k (by omega))
    have W1n := hide (W1.out.kept k (by omega))
    clear Bel WA S0 T0 W0 O3 O4 VA S1 T1 W1
    have Bel := Beln
    have WA := WAn
    have S0 := S0n
    have T0 := T0n
    have W0 := W0n
    have O3 := O3n
    have O4 := O4n
    have VA := VAn
    have S1 := S1n
    have T1 := T1n
    have W1 := W1n
    clear Beln WAn S0n T0n W0n O3n O4n VAn S1n T1n W1n
    have nw6 := k.size
    clear k
    have p00 := WA.out.cell (i := 0) rfl
    have p01 := WA.out.cell (i := 1) rfl
    have p10 := VA.out.cell (i := 0) rfl
    have p11 := VA.out.cell (i := 1) rfl
    go_upto_region 10 with fail
    go_cut [77, 78, 79, 80, 81] (fun _ _ _ _ t wx => t = .bool false ∧ Kept 0 0 w6 wx)
    case first =>
      go_region_with (first | (go_at_call 20; refine (toBus _ a b ca cb m xs ys (HX.out.below Bel.out.drew).1 (HY.out.below Bel.out.drew).1 bx HL.out bm).mono ?_; rintro e w7 ⟨g5, g6, rfl, o5, o6, l7, l8, l9, kd⟩; have k := undrewK kd; have VN := hide (VA.out.kept0 k); have u0 := VN.out.cell (i := 0) rfl; have u1 := VN.out.cell (i := 1) rfl; have P3 := hide (O3.out.keptS k (by omega)); have P4 := hide (O4.out.keptS k (by omega)); have P5 := hide o5; have P6 := hide o6; have K7 := hide k; clear k kd o5 o6) | (go_at_call 13; refine (eqBus _ _ _ _ _ _ _ _ _ m m xs ys xs ys P3.out.row P4.out.row P5.out.row P6.out.row bx bx HL.out HL.out bm bm).mono ?_; rintro e w8 ⟨rfl, k⟩; have K8 := hide (K7.out.trans k); clear k))
      all_goals
        go_wp2_with fail
        go_meet
        case rel => exact ⟨rfl, K8.out⟩
    case rest =>
      clear p00 p01 p10 p11
      rename_i wx
      obtain ⟨rfl, k⟩ := hcut
      have Beln := hide (below_kept Bel.out k (by omega))
      have WAn := hide (WA.out.kept k (by omega))
      have S0n := hide (S0.out.kept k (by omega))
      have T0n := hide (T0.out.kept k (by omega))
      have W0n := hide (W0.out.kept k (by omega))
      have O3n := hide (O3.out.keptS k (by omega))
      have O4n := hide (O4.out.keptS k (by omega))
      have VAn := hide (VA.out.kept k (by omega))
      have S1n := hide (S1.out.kept k (by omega))
      have T1n := hide (T1.out.kept k (by omega))
      have W1n := hide (W1.out.kept k (by omega))
      clear Bel WA S0 T0 W0 O3 O4 VA S1 T1 W1
      have Bel := Beln
      have WA := WAn
      have S0 := S0n
      have T0 := T0n
      have W0 := W0n
      have O3 := O3n
      have O4 := O4n
      have VA := VAn
      have S1 := S1n
      have T1 := T1n
      have W1 := W1n
      clear Beln WAn S0n T0n W0n O3n O4n VAn S1n T1n W1n
      have nwx := k.size
      clear k
      have p00 := VA.out.cell (i := 0) rfl
      have p01 := VA.out.cell (i := 1) rfl
      go_wp2_with fail
      clear p00 p01
      refine (markBus _ X3.heap.size w4.heap.size _ _ _ _ m xs ys 1 (.inr ⟨g3, rfl, l4, by omega, O3.out⟩) (.inr ⟨g4, rfl, by omega, l6, O4.out⟩) (fun g h => by simp [blk] at h ⊢; omega) (by omega) bx HL.out bm (by decide) (by decide)).mono ?_
      rintro e w9 ⟨rfl, _, _, k⟩
      clear O3 O4
      have Beln := hide (below_kept Bel.out k (by omega))
      have WAn := hide (WA.out.kept k (by omega))
      have S0n := hide (S0.out.kept k (by omega))
      have T0n := hide (T0.out.kept k (by omega))
      have W0n := hide (W0.out.kept k (by omega))
      have VAn := hide (VA.out.kept k (by omega))
      have S1n := hide (S1.out.kept k (by omega))
      have T1n := hide (T1.out.kept k (by omega))
      have W1n := hide (W1.out.kept k (by omega))
      clear Bel WA S0 T0 W0 VA S1 T1 W1
      have Bel := Beln
      have WA := WAn
      have S0 := S0n
      have T0 := T0n
      have W0 := W0n
      have VA := VAn
      have S1 := S1n
      have T1 := T1n
      have W1 := W1n
      clear Beln WAn S0n T0n W0n VAn S1n T1n W1n
      have n9 := k.size
      clear k
      have p00 := W1.out.cell (i := 0) rfl
      have p01 := W1.out.cell (i := 1) rfl
      have p10 := W0.out.cell (i := 0) rfl
      have p11 := W0.out.cell (i := 1) rfl
      go_wp2_with fail
      clear p00 p01 p10 p11
      refine (eqBus _ d1 f1 d0 f0 _ _ _ _ N N B L B L S1.out.row T1.out.row S0.out.row T0.out.row bB bB HN.out HN.out bn bn).mono ?_
      rintro e w10 ⟨rfl, k⟩
      have Beln := hide (below_kept Bel.out k (by omega))
      have WAn := hide (WA.out.kept k (by omega))
      have S0n := hide (S0.out.kept k (by omega))
      have T0n := hide (T0.out.kept k (by omega))
      have W0n := hide (W0.out.kept k (by omega))
      have VAn := hide (VA.out.kept k (by omega))
      have S1n := hide (S1.out.kept k (by omega))
      have T1n := hide (T1.out.kept k (by omega))
      have W1n := hide (W1.out.kept k (by omega))
      clear Bel WA S0 T0 W0 VA S1 T1 W1
      have Bel := Beln
      have WA := WAn
      have S0 := S0n
      have T0 := T0n
      have W0 := W0n
      have VA := VAn
      have S1 := S1n
      have T1 := T1n
      have W1 := W1n
      clear Beln WAn S0n T0n W0n VAn S1n T1n W1n
      have nw10 := k.size
      clear k
      have p00 := W1.out.cell (i := 0) rfl
      have p01 := W1.out.cell (i := 1) rfl
      go_wp2_with fail
      clear p00 p01
      refine (markBus _ X4.heap.size w5.heap.size d1 f1 _ _ N B L 1 S1.out T1.out HD1.out (by omega) bB HN.out bn (by decide) (by decide)).mono ?_
      rintro e w11 ⟨rfl, s, t, k⟩
      clear S1 T1
      have Beln := hide (below_kept Bel.out k (by omega))
      have WAn := hide (WA.out.kept k (by omega))
      have S0n := hide (S0.out.kept k (by omega))
      have T0n := hide (T0.out.kept k (by omega))
      have W0n := hide (W0.out.kept k (by omega))
      have VAn := hide (VA.out.kept k (by omega))
      have W1n := hide (W1.out.kept k (by omega))
      clear Bel WA S0 T0 W0 VA W1
      have Bel := Beln
      have WA := WAn
      have S0 := S0n
      have T0 := T0n
      have W0 := W0n
      have VA := VAn
      have W1 := W1n
      clear Beln WAn S0n T0n W0n VAn W1n
      have M1 := hide s
      have M2 := hide t
      have n11 := k.size
      clear k s t
      have p00 := W1.out.cell (i := 0) rfl
      have p01 := W1.out.cell (i := 1) rfl
      go_wp2_with fail
      clear p00 p01
      refine (heldBus _ d1 f1 _ _ B.length N 1 M1.out.row M2.out.row bB bn (by decide) (by decide)).mono ?_
      rintro e w12 ⟨rfl, k⟩
      have Beln := hide (below_kept Bel.out k (by omega))
      have WAn := hide (WA.out.kept k (by omega))
      have S0n := hide (S0.out.kept k (by omega))
      have T0n := hide (T0.out.kept k (by omega))
      have W0n := hide (W0.out.kept k (by omega))
      have VAn := hide (VA.out.kept k (by omega))
      have W1n := hide (W1.out.kept k (by omega))
      have M1n := hide (M1.out.kept k (by omega))
      have M2n := hide (M2.out.kept k (by omega))
      clear Bel WA S0 T0 W0 VA W1 M1 M2
      have Bel := Beln
      have WA := WAn
      have S0 := S0n
      have T0 := T0n
      have W0 := W0n
      have VA := VAn
      have W1 := W1n
      have M1 := M1n
      have M2 := M2n
      clear Beln WAn S0n T0n W0n VAn W1n M1n M2n
      have nw12 := k.size
      clear k
      have p00 := WA.out.cell (i := 0) rfl
      have p01 := WA.out.cell (i := 1) rfl
      go_wp2_with fail
      clear p00 p01
      refine (toBus _ a b ca cb m xs ys (HX.out.below Bel.out).1 (HY.out.below Bel.out).1 bx HL.out bm).mono ?_
      rintro e w13 ⟨g7, g8, rfl, o, o2, l10, l11, l12, k⟩
      have Beln := hide (below_kept Bel.out k (by omega))
      have WAn := hide (WA.out.kept k (by omega))
      have S0n := hide (S0.out.kept k (by omega))
      have T0n := hide (T0.out.kept k (by omega))
      have W0n := hide (W0.out.kept k (by omega))
      have VAn := hide (VA.out.kept k (by omega))
      have W1n := hide (W1.out.kept k (by omega))
      have M1n := hide (M1.out.kept k (by omega))
      have M2n := hide (M2.out.kept k (by omega))
      clear Bel WA S0 T0 W0 VA W1 M1 M2
      have Bel := Beln
      have WA := WAn
      have S0 := S0n
      have T0 := T0n
      have W0 := W0n
      have VA := VAn
      have W1 := W1n
      have M1 := M1n
      have M2 := M2n
      clear Beln WAn S0n T0n W0n VAn W1n M1n M2n
      have O5 := hide o
      have O6 := hide o2
      clear o o2 k
      go_wp2_with fail
      refine (implTouch _ _ _ _ _ m xs ys i1 i2 i3 i4 (O5.out.came HX.out.2) (O6.out.came HY.out.2) bx HL.out bm wf4).mono ?_
      rw [HNN.out, HLL.out, HBB.out, HVV.out, HCC.out, HKK.out]
      rintro e w14 ⟨d2, f2, e2, h2, rfl, s, t, hd2, k⟩
      have Beln := hide (below_kept Bel.out k (by omega))
      have WAn := hide (WA.out.kept k (by omega))
      have S0n := hide (S0.out.kept k (by omega))
      have T0n := hide (T0.out.kept k (by omega))
      have W0n := hide (W0.out.kept k (by omega))
      have VAn := hide (VA.out.kept k (by omega))
      have W1n := hide (W1.out.kept k (by omega))
      have M1n := hide (M1.out.kept k (by omega))
      have M2n := hide (M2.out.kept k (by omega))
      have O5n := hide (O5.out.keptS k (by omega))
      have O6n := hide (O6.out.keptS k (by omega))
      clear Bel WA S0 T0 W0 VA W1 M1 M2 O5 O6
      have Bel := Beln
      have WA := WAn
      have S0 := S0n
      have T0 := T0n
      have W0 := W0n
      have VA := VAn
      have W1 := W1n
      have M1 := M1n
      have M2 := M2n
      have O5 := O5n
      have O6 := O6n
      clear Beln WAn S0n T0n W0n VAn W1n M1n M2n O5n O6n
      have nw14 := k.size
      have S2 := hide s
      have T2 := hide t
      clear k s t
      clear hd2
      clear O5 O6
      have ka := kept_alloc w14 (.cells #[.slice d2 B.length e2, .slice f2 N h2] 25)
      have Beln := hide (below_kept Bel.out ka (by omega))
      have WAn := hide (WA.out.kept ka (by omega))
      have S0n := hide (S0.out.kept ka (by omega))
      have T0n := hide (T0.out.kept ka (by omega))
      have W0n := hide (W0.out.kept ka (by omega))
      have VAn := hide (VA.out.kept ka (by omega))
      have W1n := hide (W1.out.kept ka (by omega))
      have M1n := hide (M1.out.kept ka (by omega))
      have M2n := hide (M2.out.kept ka (by omega))
      have S2n := hide (S2.out.kept ka (by omega))
      have T2n := hide (T2.out.kept ka (by omega))
      clear Bel WA S0 T0 W0 VA W1 M1 M2 S2 T2
      have Bel := Beln
      have WA := WAn
      have S0 := S0n
      have T0 := T0n
      have W0 := W0n
      have VA := VAn
      have W1 := W1n
      have M1 := M1n
      have M2 := M2n
      have S2 := S2n
      have T2 := T2n
      clear Beln WAn S0n T0n W0n VAn W1n M1n M2n S2n T2n
      have W2 := hide (Blk.new w14 #[.slice d2 B.length e2, .slice f2 N h2] 25)
      obtain ⟨X14, hX14⟩ : ∃ X : World, X = w14.alloc (.cells #[.slice d2 B.length e2, .slice f2 N h2] 25) := ⟨_, rfl⟩
      have nX14 : w14.heap.size < X14.heap.size := by rw [hX14]; simp
      rw [← hX14] at Bel WA S0 T0 W0 VA W1 M1 M2 S2 T2 W2
      have r00 := W2.out.cell (i := 0) rfl
      rw [hX14] at r00
      have r01 := W2.out.cell (i := 1) rfl
      rw [hX14] at r01
      have r10 := W0.out.cell (i := 0) rfl
      rw [hX14] at r10
      have s10 := (World.cell?_alloc_lt w14 (.cells #[.slice d2 B.length e2, .slice f2 N h2] 25) ⟨w3.heap.size, 0, none⟩ (by show w3.heap.size < _; omega)).symm.trans r10
      have r11 := W0.out.cell (i := 1) rfl
      rw [hX14] at r11
      have s11 := (World.cell?_alloc_lt w14 (.cells #[.slice d2 B.length e2, .slice f2 N h2] 25) ⟨w3.heap.size, 1, none⟩ (by show w3.heap.size < _; omega)).symm.trans r11
      go_wp2_with fail
      rw [← hX14]
      clear ka hX14 r00 r01 r10 s10 r11 s11
      refine (eqBus _ d2 f2 d0 f0 _ _ _ _ N N B L B L S2.out.row T2.out.row S0.out.row T0.out.row bB bB HN.out HN.out bn bn).mono ?_
      rintro e w15 ⟨rfl, k⟩
      have Beln := hide (below_kept Bel.out k (by omega))
      have WAn := hide (WA.out.kept k (by omega))
      have S0n := hide (S0.out.kept k (by omega))
      have T0n := hide (T0.out.kept k (by omega))
      have W0n := hide (W0.out.kept k (by omega))
      have VAn := hide (VA.out.kept k (by omega))
      have W1n := hide (W1.out.kept k (by omega))
      have M1n := hide (M1.out.kept k (by omega))
      have M2n := hide (M2.out.kept k (by omega))
      have S2n := hide (S2.out.kept k (by omega))
      have T2n := hide (T2.out.kept k (by omega))
      have W2n := hide (W2.out.kept k (by omega))
      clear Bel WA S0 T0 W0 VA W1 M1 M2 S2 T2 W2
      have Bel := Beln
      have WA := WAn
      have S0 := S0n
      have T0 := T0n
      have W0 := W0n
      have VA := VAn
      have W1 := W1n
      have M1 := M1n
      have M2 := M2n
      have S2 := S2n
      have T2 := T2n
      have W2 := W2n
      clear Beln WAn S0n T0n W0n VAn W1n M1n M2n S2n T2n W2n
      have nw15 := k.size
      clear k
      have p00 := W1.out.cell (i := 0) rfl
      have p01 := W1.out.cell (i := 1) rfl
      go_wp2_with fail
      clear p00 p01
      refine (heldBus _ d1 f1 _ _ B.length N 1 M1.out.row M2.out.row bB bn (by decide) (by decide)).mono ?_
      rintro e w16 ⟨rfl, k⟩
      have Beln := hide (below_kept Bel.out k (by omega))
      have WAn := hide (WA.out.kept k (by omega))
      have S0n := hide (S0.out.kept k (by omega))
      have T0n := hide (T0.out.kept k (by omega))
      have W0n := hide (W0.out.kept k (by omega))
      have VAn := hide (VA.out.kept k (by omega))
      have W1n := hide (W1.out.kept k (by omega))
      have M1n := hide (M1.out.kept k (by omega))
      have M2n := hide (M2.out.kept k (by omega))
      have S2n := hide (S2.out.kept k (by omega))
      have T2n := hide (T2.out.kept k (by omega))
      have W2n := hide (W2.out.kept k (by omega))
      clear Bel WA S0 T0 W0 VA W1 M1 M2 S2 T2 W2
      have Bel := Beln
      have WA := WAn
      have S0 := S0n
      have T0 := T0n
      have W0 := W0n
      have VA := VAn
      have W1 := W1n
      have M1 := M1n
      have M2 := M2n
      have S2 := S2n
      have T2 := T2n
      have W2 := W2n
      clear Beln WAn S0n T0n W0n VAn W1n M1n M2n S2n T2n W2n
      have nw16 := k.size
      clear k
      go_wp2_with fail
      go_ret
      exact ⟨rfl, Bel.out⟩
end Go.Proofs.Ytbkafdphagmgpaa
