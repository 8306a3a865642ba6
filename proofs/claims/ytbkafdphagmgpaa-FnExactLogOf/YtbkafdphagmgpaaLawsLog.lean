/- The law on LogOf: of whatever bus and kind, its Go function returns true, and no block that was there has turned. -/
import Derived.Test.YtbkafdphagmgpaaLawsBus
import Derived.Test.YtbkafdphagmgpaaSpecLog
import Derived.Test.YtbkafdphagmgpaaImplLog
import Derived.Deep.DeepCutAuto
namespace Go.Proofs.Ytbkafdphagmgpaa
open Go.RowKit
set_option linter.unusedVariables false

set_option maxRecDepth 100000 in
set_option maxHeartbeats 8000000 in
theorem lawLogOf (a b : Option Addr) (ca m cb : Nat) (xs ys : List Int) (q : Int) (w : World) (hx : Came w a xs) (hy : Came w b ys) (ly : ys.length = 5 * m) (lx : xs.length ≤ 9223372036854775807) (lm : m ≤ 9223372036854775807) (wf : (Lit.int .i64 q).wf = true) :
    Calls Try.prog 8 #[.agg #[.slice a xs.length ca, .slice b m cb], .int .i64 q] w fun e w' => e = .returned (.bool true) ∧ Below w.heap.size w w' := by
  have HX := hide hx
  have HY := hide hy
  have HL := hide ly
  have Bel := hide (kept_alloc w (.cells #[.slice a xs.length ca, .slice b m cb] 35)).below
  have WA := hide (Blk.new w #[.slice a xs.length ca, .slice b m cb] 35)
  have HN := hide (logL_len xs ys m q)
  have hn := logN_le xs ys m q
  clear hx hy ly
  by_cases hs : szB xs.length m 1048576 < 0
  · go_enter Try.func8, Try.ntmps8
    go_wp2_with fail
    refine (szBus _ a b ca cb xs.length m 1048576 lx lm (by decide) (by decide)).mono ?_
    rintro e w1 ⟨rfl, k⟩
    have Bn := hide (below_kept Bel.out k (by omega))
    clear k
    go_wp2_with fail
    go_ret
    exact ⟨rfl, Bn.out⟩
  · have hb := szB_neg hs
    have bx : xs.length ≤ 2000000 := by omega
    have bm : m ≤ 2000000 := by omega
    have bn : Pl.logN xs ys m q ≤ 2000000 := by omega
    have ds : decide (szB xs.length m 1048576 < 0) = false := by simpa using hs
    clear hs hb
    generalize hNn : Pl.logN xs ys m q = N at hn bn HN
    generalize hLl : Pl.logL xs ys m q = L at HN
    generalize hKk : Pl.logOk xs ys m q = OK
    have HNN := hide hNn
    have HLL := hide hLl
    have HKK := hide hKk
    clear hNn hLl hKk
    go_enter Try.func8, Try.ntmps8
    go_wp2_with fail
    refine (szBus _ a b ca cb xs.length m 1048576 lx lm (by decide) (by decide)).mono ?_
    rintro e w1 ⟨rfl, k⟩
    have Beln := hide (below_kept Bel.out k (by omega))
    have WAn := hide (WA.out.kept k (by omega))
    clear Bel WA
    have Bel := Beln
    have WA := WAn
    clear Beln WAn
    have n1 := k.size
    simp only [World.size_alloc] at n1
    clear k
    have p00 := WA.out.cell (i := 0) rfl
    have p01 := WA.out.cell (i := 1) rfl
    go_wp2_with fail
    clear p00 p01
    clear ds
    refine (toBus _ a b ca cb m xs ys (HX.out.below Bel.out).1 (HY.out.below Bel.out).1 bx HL.out bm).mono ?_
    rintro e w2 ⟨g1, g2, rfl, o, o2, l1, l2, l3, k⟩
    have Beln := hide (below_kept Bel.out k (by omega))
    have WAn := hide (WA.out.kept k (by omega))
    clear Bel WA
    have Bel := Beln
    have WA := WAn
    clear Beln WAn
    have O1 := hide o
    have O2 := hide o2
    clear o o2 k
    go_wp2_with fail
    refine (specLogOf _ _ _ _ _ m xs ys q O1.out.row O2.out.row bx HL.out bm).mono ?_
    rw [HNN.out, HLL.out, HKK.out]
    rintro e w3 ⟨d0, e0, rfl, s, k⟩
    clear O1 O2
    have Beln := hide (below_kept Bel.out k (by omega))
    have WAn := hide (WA.out.kept k (by omega))
    clear Bel WA
    have Bel := Beln
    have WA := WAn
    clear Beln WAn
    have n3 := k.size
    have S0 := hide s
    clear k s
    have p00 := WA.out.cell (i := 0) rfl
    have p01 := WA.out.cell (i := 1) rfl
    go_wp2_with fail
    clear p00 p01
    refine (toBus _ a b ca cb m xs ys (HX.out.below Bel.out).1 (HY.out.below Bel.out).1 bx HL.out bm).mono ?_
    rintro e w4 ⟨g3, g4, rfl, o, o2, l4, l5, l6, k⟩
    have Beln := hide (below_kept Bel.out k (by omega))
    have WAn := hide (WA.out.kept k (by omega))
    have S0n := hide (S0.out.kept k (by omega))
    clear Bel WA S0
    have Bel := Beln
    have WA := WAn
    have S0 := S0n
    clear Beln WAn S0n
    have O3 := hide o
    have O4 := hide o2
    clear o o2 k
    have ka := kept_alloc w4 (.cells #[.slice (some ⟨g3, 0, none⟩) xs.length xs.length, .slice (some ⟨g4, 0, none⟩) m m] 25)
    have Beln := hide (below_kept Bel.out ka (by omega))
    have WAn := hide (WA.out.kept ka (by omega))
    have S0n := hide (S0.out.kept ka (by omega))
    have O3n := hide (O3.out.keptS ka (by omega))
    have O4n := hide (O4.out.keptS ka (by omega))
    clear Bel WA S0 O3 O4
    have Bel := Beln
    have WA := WAn
    have S0 := S0n
    have O3 := O3n
    have O4 := O4n
    clear Beln WAn S0n O3n O4n
    have VA := hide (Blk.new w4 #[.slice (some ⟨g3, 0, none⟩) xs.length xs.length, .slice (some ⟨g4, 0, none⟩) m m] 25)
    obtain ⟨X4, hX4⟩ : ∃ X : World, X = w4.alloc (.cells #[.slice (some ⟨g3, 0, none⟩) xs.length xs.length, .slice (some ⟨g4, 0, none⟩) m m] 25) := ⟨_, rfl⟩
    have nX4 : w4.heap.size < X4.heap.size := by rw [hX4]; simp
    rw [← hX4] at Bel WA S0 O3 O4 VA
    have r00 := VA.out.cell (i := 0) rfl
    rw [hX4] at r00
    have r01 := VA.out.cell (i := 1) rfl
    rw [hX4] at r01
    go_wp2_with fail
    rw [← hX4]
    clear ka hX4 r00 r01
    refine (logOf _ _ _ _ _ m xs ys q (O3.out.came HX.out.2) (O4.out.came HY.out.2) bx HL.out bm wf).mono ?_
    rw [HNN.out, HLL.out, HKK.out]
    rintro e w5 ⟨d1, e1, rfl, s, k⟩
    have Beln := hide (below_kept Bel.out k (by omega))
    have WAn := hide (WA.out.kept k (by omega))
    have S0n := hide (S0.out.kept k (by omega))
    have O3n := hide (O3.out.keptS k (by omega))
    have O4n := hide (O4.out.keptS k (by omega))
    have VAn := hide (VA.out.kept k (by omega))
    clear Bel WA S0 O3 O4 VA
    have Bel := Beln
    have WA := WAn
    have S0 := S0n
    have O3 := O3n
    have O4 := O4n
    have VA := VAn
    clear Beln WAn S0n O3n O4n VAn
    have nw5 := k.size
    have S1 := hide s
    clear k s
    go_wp2_with fail
    refine (eqAccessS _ d1 d0 _ _ N N L L S1.out.row S0.out.row HN.out HN.out bn bn).mono ?_
    rintro e w6 ⟨rfl, gr⟩
    have k := kept_grown gr
    have Beln := hide (below_kept Bel.out k (by omega))
    have WAn := hide (WA.out.kept k (by omega))
    have S0n := hide (S0.out.kept k (by omega))
    have O3n := hide (O3.out.keptS k (by omega))
    have O4n := hide (O4.out.keptS k (by omega))
    have VAn := hide (VA.out.kept k (by omega))
    have S1n := hide (S1.out.kept k (by omega))
    clear Bel WA S0 O3 O4 VA S1
    have Bel := Beln
    have WA := WAn
    have S0 := S0n
    have O3 := O3n
    have O4 := O4n
    have VA := VAn
    have S1 := S1n
    clear Beln WAn S0n O3n O4n VAn S1n
    have nw6 := k.size
    clear k gr
    have p00 := WA.out.cell (i := 0) rfl
    have p01 := WA.out.cell (i := 1) rfl
    have p10 := VA.out.cell (i := 0) rfl
    have p11 := VA.out.cell (i := 1) rfl
    go_upto_region 10 with fail
    go_cut [45, 46, 47, 48, 49] (fun _ _ _ _ t wx => t = .bool false ∧ Kept 0 0 w6 wx)
    case first =>
      go_region_with (first | (go_at_call 20; refine (toBus _ a b ca cb m xs ys (HX.out.below Bel.out.drew).1 (HY.out.below Bel.out.drew).1 bx HL.out bm).mono ?_; rintro e w7 ⟨g5, g6, rfl, o5, o6, l7, l8, l9, kd⟩; have k := undrewK kd; have VN := hide (VA.out.kept0 k); have u0 := VN.out.cell (i := 0) rfl; have u1 := VN.out.cell (i := 1) rfl; have P3 := hide (O3.out.keptS k (by omega)); have P4 := hide (O4.out.keptS k (by omega)); have P5 := hide o5; have P6 := hide o6; have K7 := hide k; clear k kd o5 o6) | (go_at_call 13; refine (eqBus _ _ _ _ _ _ _ _ _ m m xs ys xs ys P3.out.row P4.out.row P5.out.row P6.out.row bx bx HL.out HL.out bm bm).mono ?_; rintro e w8 ⟨rfl, k⟩; have K8 := hide (K7.out.trans k); clear k))
      all_goals
        go_wp2_with fail
        go_meet
        case rel => exact ⟨rfl, K8.out⟩
    case rest =>
      clear p00 p01 p10 p11
      rename_i wx
      obtain ⟨rfl, k⟩ := hcut
      have Beln := hide (below_kept Bel.out k (by omega))
      have WAn := hide (WA.out.kept k (by omega))
      have S0n := hide (S0.out.kept k (by omega))
      have O3n := hide (O3.out.keptS k (by omega))
      have O4n := hide (O4.out.keptS k (by omega))
      have VAn := hide (VA.out.kept k (by omega))
      have S1n := hide (S1.out.kept k (by omega))
      clear Bel WA S0 O3 O4 VA S1
      have Bel := Beln
      have WA := WAn
      have S0 := S0n
      have O3 := O3n
      have O4 := O4n
      have VA := VAn
      have S1 := S1n
      clear Beln WAn S0n O3n O4n VAn S1n
      have nwx := k.size
      clear k
      have p00 := VA.out.cell (i := 0) rfl
      have p01 := VA.out.cell (i := 1) rfl
      go_wp2_with fail
      clear p00 p01
      refine (markBus _ w3.heap.size w4.heap.size _ _ _ _ m xs ys 1 (.inr ⟨g3, rfl, l4, by omega, O3.out⟩) (.inr ⟨g4, rfl, by omega, l6, O4.out⟩) (fun g h => by simp [blk] at h ⊢; omega) (by omega) bx HL.out bm (by decide) (by decide)).mono ?_
      rintro e w9 ⟨rfl, _, _, k⟩
      clear O3 O4
      have Beln := hide (below_kept Bel.out k (by omega))
      have WAn := hide (WA.out.kept k (by omega))
      have S0n := hide (S0.out.kept k (by omega))
      have VAn := hide (VA.out.kept k (by omega))
      have S1n := hide (S1.out.kept k (by omega))
      clear Bel WA S0 VA S1
      have Bel := Beln
      have WA := WAn
      have S0 := S0n
      have VA := VAn
      have S1 := S1n
      clear Beln WAn S0n VAn S1n
      have n9 := k.size
      clear k
      go_wp2_with fail
      refine (eqAccessS _ d1 d0 _ _ N N L L S1.out.row S0.out.row HN.out HN.out bn bn).mono ?_
      rintro e w10 ⟨rfl, gr⟩
      have k := kept_grown gr
      have Beln := hide (below_kept Bel.out k (by omega))
      have WAn := hide (WA.out.kept k (by omega))
      have S0n := hide (S0.out.kept k (by omega))
      have VAn := hide (VA.out.kept k (by omega))
      have S1n := hide (S1.out.kept k (by omega))
      clear Bel WA S0 VA S1
      have Bel := Beln
      have WA := WAn
      have S0 := S0n
      have VA := VAn
      have S1 := S1n
      clear Beln WAn S0n VAn S1n
      have nw10 := k.size
      clear k gr
      go_wp2_with fail
      refine (markSlotA _ X4.heap.size _ N d1 L 1 (S1.out.slot (by omega)) HN.out bn (by decide) (by decide)).mono ?_
      rintro e w11 ⟨rfl, sl, gr⟩
      have k : Kept X4.heap.size w5.heap.size _ w11 := kept_row gr S1.out.blk_in
      have M := hide (S1.out.again sl)
      clear S1
      have Beln := hide (below_kept Bel.out k (by omega))
      have WAn := hide (WA.out.kept k (by omega))
      have S0n := hide (S0.out.kept k (by omega))
      have VAn := hide (VA.out.kept k (by omega))
      clear Bel WA S0 VA
      have Bel := Beln
      have WA := WAn
      have S0 := S0n
      have VA := VAn
      clear Beln WAn S0n VAn
      have n11 := k.size
      clear k sl gr
      go_wp2_with fail
      refine (heldAccessS _ d1 _ N 1 M.out.row bn (by decide) (by decide)).mono ?_
      rintro e w12 ⟨rfl, gr⟩
      have k := kept_grown gr
      have Beln := hide (below_kept Bel.out k (by omega))
      have WAn := hide (WA.out.kept k (by omega))
      have S0n := hide (S0.out.kept k (by omega))
      have VAn := hide (VA.out.kept k (by omega))
      have Mn := hide (M.out.kept k (by omega))
      clear Bel WA S0 VA M
      have Bel := Beln
      have WA := WAn
      have S0 := S0n
      have VA := VAn
      have M := Mn
      clear Beln WAn S0n VAn Mn
      have nw12 := k.size
      clear k gr
      have p00 := WA.out.cell (i := 0) rfl
      have p01 := WA.out.cell (i := 1) rfl
      go_wp2_with fail
      clear p00 p01
      refine (toBus _ a b ca cb m xs ys (HX.out.below Bel.out).1 (HY.out.below Bel.out).1 bx HL.out bm).mono ?_
      rintro e w13 ⟨g7, g8, rfl, o, o2, l10, l11, l12, k⟩
      have Beln := hide (below_kept Bel.out k (by omega))
      have WAn := hide (WA.out.kept k (by omega))
      have S0n := hide (S0.out.kept k (by omega))
      have VAn := hide (VA.out.kept k (by omega))
      have Mn := hide (M.out.kept k (by omega))
      clear Bel WA S0 VA M
      have Bel := Beln
      have WA := WAn
      have S0 := S0n
      have VA := VAn
      have M := Mn
      clear Beln WAn S0n VAn Mn
      have O5 := hide o
      have O6 := hide o2
      clear o o2 k
      go_wp2_with fail
      refine (logOf _ _ _ _ _ m xs ys q (O5.out.came HX.out.2) (O6.out.came HY.out.2) bx HL.out bm wf).mono ?_
      rw [HNN.out, HLL.out, HKK.out]
      rintro e w14 ⟨d2, e2, rfl, s, k⟩
      have Beln := hide (below_kept Bel.out k (by omega))
      have WAn := hide (WA.out.kept k (by omega))
      have S0n := hide (S0.out.kept k (by omega))
      have VAn := hide (VA.out.kept k (by omega))
      have Mn := hide (M.out.kept k (by omega))
      have O5n := hide (O5.out.keptS k (by omega))
      have O6n := hide (O6.out.keptS k (by omega))
      clear Bel WA S0 VA M O5 O6
      have Bel := Beln
      have WA := WAn
      have S0 := S0n
      have VA := VAn
      have M := Mn
      have O5 := O5n
      have O6 := O6n
      clear Beln WAn S0n VAn Mn O5n O6n
      have nw14 := k.size
      have S2 := hide s
      clear k s
      go_wp2_with fail
      refine (eqAccessS _ d2 d0 _ _ N N L L S2.out.row S0.out.row HN.out HN.out bn bn).mono ?_
      rintro e w15 ⟨rfl, gr⟩
      have k := kept_grown gr
      have Beln := hide (below_kept Bel.out k (by omega))
      have WAn := hide (WA.out.kept k (by omega))
      have S0n := hide (S0.out.kept k (by omega))
      have VAn := hide (VA.out.kept k (by omega))
      have Mn := hide (M.out.kept k (by omega))
      have O5n := hide (O5.out.keptS k (by omega))
      have O6n := hide (O6.out.keptS k (by omega))
      have S2n := hide (S2.out.kept k (by omega))
      clear Bel WA S0 VA M O5 O6 S2
      have Bel := Beln
      have WA := WAn
      have S0 := S0n
      have VA := VAn
      have M := Mn
      have O5 := O5n
      have O6 := O6n
      have S2 := S2n
      clear Beln WAn S0n VAn Mn O5n O6n S2n
      have nw15 := k.size
      clear k gr
      go_wp2_with fail
      refine (heldAccessS _ d1 _ N 1 M.out.row bn (by decide) (by decide)).mono ?_
      rintro e w16 ⟨rfl, gr⟩
      have k := kept_grown gr
      have Beln := hide (below_kept Bel.out k (by omega))
      have WAn := hide (WA.out.kept k (by omega))
      have S0n := hide (S0.out.kept k (by omega))
      have VAn := hide (VA.out.kept k (by omega))
      have Mn := hide (M.out.kept k (by omega))
      have O5n := hide (O5.out.keptS k (by omega))
      have O6n := hide (O6.out.keptS k (by omega))
      have S2n := hide (S2.out.kept k (by omega))
      clear Bel WA S0 VA M O5 O6 S2
      have Bel := Beln
      have WA := WAn
      have S0 := S0n
      have VA := VAn
      have M := Mn
      have O5 := O5n
      have O6 := O6n
      have S2 := S2n
      clear Beln WAn S0n VAn Mn O5n O6n S2n
      have nw16 := k.size
      clear k gr
      go_wp2_with fail
      go_ret
      exact ⟨rfl, Bel.out⟩
end Go.Proofs.Ytbkafdphagmgpaa
