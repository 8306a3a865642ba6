/- The law on PlayDevice: of whatever steps, its Go function returns true, and no block that was there has turned. -/
import Derived.Test.YtlocilcnmbmikaaDevMark
import Derived.Test.YtlocilcnmbmikaaImplPlay
namespace Go.Proofs.Ytlocilcnmbmikaa
open Go.RowKit
set_option linter.unusedVariables false

set_option maxRecDepth 100000 in
set_option maxHeartbeats 16000000 in
theorem lawPlayDevice (a : Option Addr) (ca n : Nat) (zs : List Int) (w : World) (hx : Came w a zs) (lz : zs.length = 3 * n) (lx : n ≤ 9223372036854775807) :
    Calls Try.prog 6 #[.slice a n ca] w fun e w' => e = .returned (.bool true) ∧ Below w.heap.size w w' := by
  have HX := hide hx
  have HL := hide lz
  have Bel := hide (Below.refl w.heap.size w)
  have hn := Pl.pl_len zs n
  clear hx lz
  by_cases hs : (1048576 : Int) - (n : Int) < 0
  · go_enter Try.func6, Try.ntmps6
    go_wp2_with fail
    refine (szDevStepS _ a ca n 1048576 lx (by decide) (by decide)).mono ?_
    rintro e w1 ⟨rfl, hw⟩
    have hw2 := hw.symm
    clear hw
    subst hw2
    rw [if_pos hs]
    go_wp2_with fail
    go_ret
    exact ⟨rfl, Bel.out⟩
  · have bn : n ≤ 2000000 := by omega
    have ds : decide ((1048576 : Int) - (n : Int) < 0) = false := by simpa using hs
    generalize hDD : Pl.plD zs n = D at hn
    generalize hVV : Pl.plV zs n = V at hn
    generalize hKK : Pl.playOk zs n = K
    obtain ⟨bD, bE, bV⟩ : D.xs.length ≤ 2000000 ∧ D.ys.length ≤ 2000000 ∧ V.length ≤ 2000000 := ⟨by omega, by omega, by omega⟩
    have HDD := hide hDD
    have HVV := hide hVV
    have HKK := hide hKK
    clear hDD hVV hKK
    go_enter Try.func6, Try.ntmps6
    go_wp2_with fail
    refine (szDevStepS _ a ca n 1048576 lx (by decide) (by decide)).mono ?_
    rintro e w1 ⟨rfl, hw⟩
    have hw2 := hw.symm
    clear hw
    subst hw2
    rw [if_neg (by omega)]
    clear hs
    go_wp2_with fail
    clear ds
    refine (toDevStepS _ a ca n zs (HX.out.below Bel.out).1 HL.out bn).mono ?_
    rintro e w2 ⟨rfl, o, l1, gk⟩
    have k := kept_grown gk
    have Beln := hide (below_kept Bel.out k (by omega))
    clear Bel
    have Bel := Beln
    clear Beln
    have O1 := hide o
    clear o k gk
    go_wp2_with fail
    refine (specPlayDevice _ _ _ n zs O1.out.row HL.out bn).mono ?_
    unfold PlayRet
    rw [HDD.out, HVV.out, HKK.out]
    rintro e w3 ⟨a0, b0, c0, ca0, cb0, cc0, rfl, ⟨s, t, hd0, _⟩, u, hu0, k⟩
    have Beln := hide (below_kept Bel.out k (by omega))
    have O1n := hide (O1.out.keptS k (by omega))
    clear Bel O1
    have Bel := Beln
    have O1 := O1n
    clear Beln O1n
    have nw3 := k.size
    have S0 := hide s
    have T0 := hide t
    have U0 := hide u
    clear k s t u
    clear O1
    clear hd0 hu0
    have ka := kept_alloc w3 (.cells #[.int .i64 D.e, .int .i64 D.l, .bool D.r, .slice a0 D.xs.length ca0, .slice b0 D.ys.length cb0, .int .i64 D.t] 24)
    have Beln := hide (below_kept Bel.out ka (by omega))
    have S0n := hide (S0.out.kept ka (by omega))
    have T0n := hide (T0.out.kept ka (by omega))
    have U0n := hide (U0.out.kept ka (by omega))
    clear Bel S0 T0 U0
    have Bel := Beln
    have S0 := S0n
    have T0 := T0n
    have U0 := U0n
    clear Beln S0n T0n U0n
    have W0 := hide (Blk.new w3 #[.int .i64 D.e, .int .i64 D.l, .bool D.r, .slice a0 D.xs.length ca0, .slice b0 D.ys.length cb0, .int .i64 D.t] 24)
    obtain ⟨X3, hX3⟩ : ∃ X : World, X = w3.alloc (.cells #[.int .i64 D.e, .int .i64 D.l, .bool D.r, .slice a0 D.xs.length ca0, .slice b0 D.ys.length cb0, .int .i64 D.t] 24) := ⟨_, rfl⟩
    have nX3 : w3.heap.size < X3.heap.size := by rw [hX3]; simp
    rw [← hX3] at Bel S0 T0 U0 W0
    go_wp2_with fail
    rw [← hX3]
    clear ka hX3 
    refine (toDevStepS _ a ca n zs (HX.out.below Bel.out).1 HL.out bn).mono ?_
    rintro e w4 ⟨rfl, o, l4, gk⟩
    have k := kept_grown gk
    have Beln := hide (below_kept Bel.out k (by omega))
    have S0n := hide (S0.out.kept k (by omega))
    have T0n := hide (T0.out.kept k (by omega))
    have U0n := hide (U0.out.kept k (by omega))
    have W0n := hide (W0.out.kept k (by omega))
    clear Bel S0 T0 U0 W0
    have Bel := Beln
    have S0 := S0n
    have T0 := T0n
    have U0 := U0n
    have W0 := W0n
    clear Beln S0n T0n U0n W0n
    have O3 := hide o
    clear o k gk
    go_wp2_with fail
    refine (implPlayDevice _ _ _ n zs (O3.out.came HX.out.2) HL.out bn).mono ?_
    unfold PlayRet
    rw [HDD.out, HVV.out, HKK.out]
    rintro e w5 ⟨a1, b1, c1, ca1, cb1, cc1, rfl, ⟨s, t, hd1, _⟩, u, hu1, k⟩
    have Beln := hide (below_kept Bel.out k (by omega))
    have S0n := hide (S0.out.kept k (by omega))
    have T0n := hide (T0.out.kept k (by omega))
    have U0n := hide (U0.out.kept k (by omega))
    have W0n := hide (W0.out.kept k (by omega))
    have O3n := hide (O3.out.keptS k (by omega))
    clear Bel S0 T0 U0 W0 O3
    have Bel := Beln
    have S0 := S0n
    have T0 := T0n
    have U0 := U0n
    have W0 := W0n
    have O3 := O3n
    clear Beln S0n T0n U0n W0n O3n
    have nw5 := k.size
    have S1 := hide s
    have T1 := hide t
    have U1 := hide u
    clear k s t u
    have HD1 := hide hd1
    have HU1 := hide hu1
    clear hd1 hu1
    have ka := kept_alloc w5 (.cells #[.int .i64 D.e, .int .i64 D.l, .bool D.r, .slice a1 D.xs.length ca1, .slice b1 D.ys.length cb1, .int .i64 D.t] 24)
    have Beln := hide (below_kept Bel.out ka (by omega))
    have S0n := hide (S0.out.kept ka (by omega))
    have T0n := hide (T0.out.kept ka (by omega))
    have U0n := hide (U0.out.kept ka (by omega))
    have W0n := hide (W0.out.kept ka (by omega))
    have O3n := hide (O3.out.keptS ka (by omega))
    have S1n := hide (S1.out.kept ka (by omega))
    have T1n := hide (T1.out.kept ka (by omega))
    have U1n := hide (U1.out.kept ka (by omega))
    clear Bel S0 T0 U0 W0 O3 S1 T1 U1
    have Bel := Beln
    have S0 := S0n
    have T0 := T0n
    have U0 := U0n
    have W0 := W0n
    have O3 := O3n
    have S1 := S1n
    have T1 := T1n
    have U1 := U1n
    clear Beln S0n T0n U0n W0n O3n S1n T1n U1n
    have W1 := hide (Blk.new w5 #[.int .i64 D.e, .int .i64 D.l, .bool D.r, .slice a1 D.xs.length ca1, .slice b1 D.ys.length cb1, .int .i64 D.t] 24)
    obtain ⟨X5, hX5⟩ : ∃ X : World, X = w5.alloc (.cells #[.int .i64 D.e, .int .i64 D.l, .bool D.r, .slice a1 D.xs.length ca1, .slice b1 D.ys.length cb1, .int .i64 D.t] 24) := ⟨_, rfl⟩
    have nX5 : w5.heap.size < X5.heap.size := by rw [hX5]; simp
    rw [← hX5] at Bel S0 T0 U0 W0 O3 S1 T1 U1 W1
    have r00 := W1.out.cell (i := 0) rfl
    rw [hX5] at r00
    have r01 := W1.out.cell (i := 1) rfl
    rw [hX5] at r01
    have r02 := W1.out.cell (i := 2) rfl
    rw [hX5] at r02
    have r03 := W1.out.cell (i := 3) rfl
    rw [hX5] at r03
    have r04 := W1.out.cell (i := 4) rfl
    rw [hX5] at r04
    have r05 := W1.out.cell (i := 5) rfl
    rw [hX5] at r05
    have r10 := W0.out.cell (i := 0) rfl
    rw [hX5] at r10
    have s10 := (World.cell?_alloc_lt w5 (.cells #[.int .i64 D.e, .int .i64 D.l, .bool D.r, .slice a1 D.xs.length ca1, .slice b1 D.ys.length cb1, .int .i64 D.t] 24) ⟨w3.heap.size, 0, none⟩ (by show w3.heap.size < _; omega)).symm.trans r10
    have r11 := W0.out.cell (i := 1) rfl
    rw [hX5] at r11
    have s11 := (World.cell?_alloc_lt w5 (.cells #[.int .i64 D.e, .int .i64 D.l, .bool D.r, .slice a1 D.xs.length ca1, .slice b1 D.ys.length cb1, .int .i64 D.t] 24) ⟨w3.heap.size, 1, none⟩ (by show w3.heap.size < _; omega)).symm.trans r11
    have r12 := W0.out.cell (i := 2) rfl
    rw [hX5] at r12
    have s12 := (World.cell?_alloc_lt w5 (.cells #[.int .i64 D.e, .int .i64 D.l, .bool D.r, .slice a1 D.xs.length ca1, .slice b1 D.ys.length cb1, .int .i64 D.t] 24) ⟨w3.heap.size, 2, none⟩ (by show w3.heap.size < _; omega)).symm.trans r12
    have r13 := W0.out.cell (i := 3) rfl
    rw [hX5] at r13
    have s13 := (World.cell?_alloc_lt w5 (.cells #[.int .i64 D.e, .int .i64 D.l, .bool D.r, .slice a1 D.xs.length ca1, .slice b1 D.ys.length cb1, .int .i64 D.t] 24) ⟨w3.heap.size, 3, none⟩ (by show w3.heap.size < _; omega)).symm.trans r13
    have r14 := W0.out.cell (i := 4) rfl
    rw [hX5] at r14
    have s14 := (World.cell?_alloc_lt w5 (.cells #[.int .i64 D.e, .int .i64 D.l, .bool D.r, .slice a1 D.xs.length ca1, .slice b1 D.ys.length cb1, .int .i64 D.t] 24) ⟨w3.heap.size, 4, none⟩ (by show w3.heap.size < _; omega)).symm.trans r14
    have r15 := W0.out.cell (i := 5) rfl
    rw [hX5] at r15
    have s15 := (World.cell?_alloc_lt w5 (.cells #[.int .i64 D.e, .int .i64 D.l, .bool D.r, .slice a1 D.xs.length ca1, .slice b1 D.ys.length cb1, .int .i64 D.t] 24) ⟨w3.heap.size, 5, none⟩ (by show w3.heap.size < _; omega)).symm.trans r15
    go_wp2_with fail
    rw [← hX5]
    clear ka hX5 r00 r01 r02 r03 r04 r05 r10 s10 r11 s11 r12 s12 r13 s13 r14 s14 r15 s15
    refine (eqDevice _ D.e D.l D.t D.r a1 b1 a0 b0 _ _ _ _ D.xs D.ys S1.out.row T1.out.row S0.out.row T0.out.row bD bE).mono ?_
    rintro e w6 ⟨rfl, k⟩
    have Beln := hide (below_kept Bel.out k (by omega))
    have S0n := hide (S0.out.kept k (by omega))
    have T0n := hide (T0.out.kept k (by omega))
    have U0n := hide (U0.out.kept k (by omega))
    have W0n := hide (W0.out.kept k (by omega))
    have O3n := hide (O3.out.keptS k (by omega))
    have S1n := hide (S1.out.kept k (by omega))
    have T1n := hide (T1.out.kept k (by omega))
    have U1n := hide (U1.out.kept k (by omega))
    have W1n := hide (W1.out.kept k (by omega))
    clear Bel S0 T0 U0 W0 O3 S1 T1 U1 W1
    have Bel := Beln
    have S0 := S0n
    have T0 := T0n
    have U0 := U0n
    have W0 := W0n
    have O3 := O3n
    have S1 := S1n
    have T1 := T1n
    have U1 := U1n
    have W1 := W1n
    clear Beln S0n T0n U0n W0n O3n S1n T1n U1n W1n
    have nw6 := k.size
    clear k
    go_wp2_with fail
    refine (eqIntS _ c1 c0 _ _ V V U1.out.row U0.out.row bV bV).mono ?_
    rintro e w7 ⟨rfl, gk⟩
    rw [decide_eq_true (rfl : V = V)]
    have k := kept_grown gk
    have Beln := hide (below_kept Bel.out k (by omega))
    have S0n := hide (S0.out.kept k (by omega))
    have T0n := hide (T0.out.kept k (by omega))
    have U0n := hide (U0.out.kept k (by omega))
    have W0n := hide (W0.out.kept k (by omega))
    have O3n := hide (O3.out.keptS k (by omega))
    have S1n := hide (S1.out.kept k (by omega))
    have T1n := hide (T1.out.kept k (by omega))
    have U1n := hide (U1.out.kept k (by omega))
    have W1n := hide (W1.out.kept k (by omega))
    clear Bel S0 T0 U0 W0 O3 S1 T1 U1 W1
    have Bel := Beln
    have S0 := S0n
    have T0 := T0n
    have U0 := U0n
    have W0 := W0n
    have O3 := O3n
    have S1 := S1n
    have T1 := T1n
    have U1 := U1n
    have W1 := W1n
    clear Beln S0n T0n U0n W0n O3n S1n T1n U1n W1n
    have nw7 := k.size
    clear k gk
    go_wp2_with fail
    refine (toDevStepS _ a ca n zs (HX.out.below Bel.out).1 HL.out bn).mono ?_
    rintro e w8 ⟨rfl, o, l8, gk⟩
    have k := kept_grown gk
    have Beln := hide (below_kept Bel.out k (by omega))
    have S0n := hide (S0.out.kept k (by omega))
    have T0n := hide (T0.out.kept k (by omega))
    have U0n := hide (U0.out.kept k (by omega))
    have W0n := hide (W0.out.kept k (by omega))
    have O3n := hide (O3.out.keptS k (by omega))
    have S1n := hide (S1.out.kept k (by omega))
    have T1n := hide (T1.out.kept k (by omega))
    have U1n := hide (U1.out.kept k (by omega))
    have W1n := hide (W1.out.kept k (by omega))
    clear Bel S0 T0 U0 W0 O3 S1 T1 U1 W1
    have Bel := Beln
    have S0 := S0n
    have T0 := T0n
    have U0 := U0n
    have W0 := W0n
    have O3 := O3n
    have S1 := S1n
    have T1 := T1n
    have U1 := U1n
    have W1 := W1n
    clear Beln S0n T0n U0n W0n O3n S1n T1n U1n W1n
    have O5 := hide o
    clear o k gk
    go_wp2_with fail
    refine (eqDevStepS _ _ _ _ _ n zs O3.out.row O5.out.row HL.out bn).mono ?_
    rintro e w9 ⟨rfl, gk⟩
    have k := kept_grown gk
    clear O5
    have Beln := hide (below_kept Bel.out k (by omega))
    have S0n := hide (S0.out.kept k (by omega))
    have T0n := hide (T0.out.kept k (by omega))
    have U0n := hide (U0.out.kept k (by omega))
    have W0n := hide (W0.out.kept k (by omega))
    have O3n := hide (O3.out.keptS k (by omega))
    have S1n := hide (S1.out.kept k (by omega))
    have T1n := hide (T1.out.kept k (by omega))
    have U1n := hide (U1.out.kept k (by omega))
    have W1n := hide (W1.out.kept k (by omega))
    clear Bel S0 T0 U0 W0 O3 S1 T1 U1 W1
    have Bel := Beln
    have S0 := S0n
    have T0 := T0n
    have U0 := U0n
    have W0 := W0n
    have O3 := O3n
    have S1 := S1n
    have T1 := T1n
    have U1 := U1n
    have W1 := W1n
    clear Beln S0n T0n U0n W0n O3n S1n T1n U1n W1n
    have n9 := k.size
    clear k gk
    go_wp2_with fail
    refine (markDevStepS _ X3.heap.size _ n zs 1 O3.out HL.out bn (by decide) (by decide)).mono ?_
    rintro e w10 ⟨rfl, _, gk⟩
    have k : Kept X3.heap.size (X3.heap.size + 1) w9 w10 := kept_row gk (fun g h => by cases h; exact ⟨Nat.le_refl _, Nat.lt_succ_self _⟩)
    clear O3
    have Beln := hide (below_kept Bel.out k (by omega))
    have S0n := hide (S0.out.kept k (by omega))
    have T0n := hide (T0.out.kept k (by omega))
    have U0n := hide (U0.out.kept k (by omega))
    have W0n := hide (W0.out.kept k (by omega))
    have S1n := hide (S1.out.kept k (by omega))
    have T1n := hide (T1.out.kept k (by omega))
    have U1n := hide (U1.out.kept k (by omega))
    have W1n := hide (W1.out.kept k (by omega))
    clear Bel S0 T0 U0 W0 S1 T1 U1 W1
    have Bel := Beln
    have S0 := S0n
    have T0 := T0n
    have U0 := U0n
    have W0 := W0n
    have S1 := S1n
    have T1 := T1n
    have U1 := U1n
    have W1 := W1n
    clear Beln S0n T0n U0n W0n S1n T1n U1n W1n
    have n10 := k.size
    clear k gk
    have p00 := W1.out.cell (i := 0) rfl
    have p01 := W1.out.cell (i := 1) rfl
    have p02 := W1.out.cell (i := 2) rfl
    have p03 := W1.out.cell (i := 3) rfl
    have p04 := W1.out.cell (i := 4) rfl
    have p05 := W1.out.cell (i := 5) rfl
    have p10 := W0.out.cell (i := 0) rfl
    have p11 := W0.out.cell (i := 1) rfl
    have p12 := W0.out.cell (i := 2) rfl
    have p13 := W0.out.cell (i := 3) rfl
    have p14 := W0.out.cell (i := 4) rfl
    have p15 := W0.out.cell (i := 5) rfl
    go_wp2_with fail
    clear p00 p01 p02 p03 p04 p05 p10 p11 p12 p13 p14 p15
    refine (eqDevice _ D.e D.l D.t D.r a1 b1 a0 b0 _ _ _ _ D.xs D.ys S1.out.row T1.out.row S0.out.row T0.out.row bD bE).mono ?_
    rintro e w11 ⟨rfl, k⟩
    have Beln := hide (below_kept Bel.out k (by omega))
    have S0n := hide (S0.out.kept k (by omega))
    have T0n := hide (T0.out.kept k (by omega))
    have U0n := hide (U0.out.kept k (by omega))
    have W0n := hide (W0.out.kept k (by omega))
    have S1n := hide (S1.out.kept k (by omega))
    have T1n := hide (T1.out.kept k (by omega))
    have U1n := hide (U1.out.kept k (by omega))
    have W1n := hide (W1.out.kept k (by omega))
    clear Bel S0 T0 U0 W0 S1 T1 U1 W1
    have Bel := Beln
    have S0 := S0n
    have T0 := T0n
    have U0 := U0n
    have W0 := W0n
    have S1 := S1n
    have T1 := T1n
    have U1 := U1n
    have W1 := W1n
    clear Beln S0n T0n U0n W0n S1n T1n U1n W1n
    have nw11 := k.size
    clear k
    go_wp2_with fail
    refine (eqIntS _ c1 c0 _ _ V V U1.out.row U0.out.row bV bV).mono ?_
    rintro e w12 ⟨rfl, gk⟩
    rw [decide_eq_true (rfl : V = V)]
    have k := kept_grown gk
    have Beln := hide (below_kept Bel.out k (by omega))
    have S0n := hide (S0.out.kept k (by omega))
    have T0n := hide (T0.out.kept k (by omega))
    have U0n := hide (U0.out.kept k (by omega))
    have W0n := hide (W0.out.kept k (by omega))
    have S1n := hide (S1.out.kept k (by omega))
    have T1n := hide (T1.out.kept k (by omega))
    have U1n := hide (U1.out.kept k (by omega))
    have W1n := hide (W1.out.kept k (by omega))
    clear Bel S0 T0 U0 W0 S1 T1 U1 W1
    have Bel := Beln
    have S0 := S0n
    have T0 := T0n
    have U0 := U0n
    have W0 := W0n
    have S1 := S1n
    have T1 := T1n
    have U1 := U1n
    have W1 := W1n
    clear Beln S0n T0n U0n W0n S1n T1n U1n W1n
    have nw12 := k.size
    clear k gk
    have p00 := W1.out.cell (i := 0) rfl
    have p01 := W1.out.cell (i := 1) rfl
    have p02 := W1.out.cell (i := 2) rfl
    have p03 := W1.out.cell (i := 3) rfl
    have p04 := W1.out.cell (i := 4) rfl
    have p05 := W1.out.cell (i := 5) rfl
    go_wp2_with fail
    clear p00 p01 p02 p03 p04 p05
    refine (markDeviceC _ w4.heap.size w5.heap.size D.e D.l D.t D.r a1 b1 _ _ D.xs D.ys 1 S1.out T1.out HD1.out c1 V U1.out HU1.out (by omega) bD bE (by decide) (by decide)).mono ?_
    rintro e w13 ⟨rfl, s, t, u, k⟩
    clear S1 T1 U1
    have Beln := hide (below_kept Bel.out k (by omega))
    have S0n := hide (S0.out.kept k (by omega))
    have T0n := hide (T0.out.kept k (by omega))
    have U0n := hide (U0.out.kept k (by omega))
    have W0n := hide (W0.out.kept k (by omega))
    have W1n := hide (W1.out.kept k (by omega))
    clear Bel S0 T0 U0 W0 W1
    have Bel := Beln
    have S0 := S0n
    have T0 := T0n
    have U0 := U0n
    have W0 := W0n
    have W1 := W1n
    clear Beln S0n T0n U0n W0n W1n
    have M1 := hide s
    have M2 := hide t
    have U1 := hide u
    have n13 := k.size
    clear k s t u
    go_wp2_with fail
    refine (markSlot _ w4.heap.size _ c1 V (1 + (D.xs.length : Int) + (D.ys.length : Int)) (U1.out.slot (by omega)) bV (by omega) (by omega)).mono ?_
    rintro e w14 ⟨rfl, s, gk⟩
    have k := kept_row gk U1.out.blk_in
    have M1n := hide (M1.out.by gk (fun g h e => (HU1.out g e).1 h))
    have M2n := hide (M2.out.by gk (fun g h e => (HU1.out g e).2 h))
    have U1n := hide (U1.out.again s)
    clear M1 M2 U1
    have Beln := hide (below_kept Bel.out k (by omega))
    have S0n := hide (S0.out.kept k (by omega))
    have T0n := hide (T0.out.kept k (by omega))
    have U0n := hide (U0.out.kept k (by omega))
    have W0n := hide (W0.out.kept k (by omega))
    have W1n := hide (W1.out.kept k (by omega))
    clear Bel S0 T0 U0 W0 W1
    have Bel := Beln
    have S0 := S0n
    have T0 := T0n
    have U0 := U0n
    have W0 := W0n
    have W1 := W1n
    clear Beln S0n T0n U0n W0n W1n
    have n14 := k.size
    clear k gk s
    have M1 := M1n
    have M2 := M2n
    have M3 := U1n
    clear M1n M2n U1n
    have p00 := W1.out.cell (i := 0) rfl
    have p01 := W1.out.cell (i := 1) rfl
    have p02 := W1.out.cell (i := 2) rfl
    have p03 := W1.out.cell (i := 3) rfl
    have p04 := W1.out.cell (i := 4) rfl
    have p05 := W1.out.cell (i := 5) rfl
    go_wp2_with fail
    clear p00 p01 p02 p03 p04 p05
    refine (heldDevice _ D.e D.l D.t D.r a1 b1 _ _ D.xs.length D.ys.length 1 M1.out.row M2.out.row bD bE (by decide) (by decide)).mono ?_
    rintro e w15 ⟨rfl, k⟩
    have Beln := hide (below_kept Bel.out k (by omega))
    have S0n := hide (S0.out.kept k (by omega))
    have T0n := hide (T0.out.kept k (by omega))
    have U0n := hide (U0.out.kept k (by omega))
    have W0n := hide (W0.out.kept k (by omega))
    have W1n := hide (W1.out.kept k (by omega))
    have M1n := hide (M1.out.kept k (by omega))
    have M2n := hide (M2.out.kept k (by omega))
    have M3n := hide (M3.out.kept k (by omega))
    clear Bel S0 T0 U0 W0 W1 M1 M2 M3
    have Bel := Beln
    have S0 := S0n
    have T0 := T0n
    have U0 := U0n
    have W0 := W0n
    have W1 := W1n
    have M1 := M1n
    have M2 := M2n
    have M3 := M3n
    clear Beln S0n T0n U0n W0n W1n M1n M2n M3n
    have nw15 := k.size
    clear k
    go_wp2_with fail
    refine (heldIntS _ c1 _ V.length (1 + (D.xs.length : Int) + (D.ys.length : Int)) M3.out.row bV (by omega) (by omega)).mono ?_
    rintro e w16 ⟨rfl, gk⟩
    have k := kept_grown gk
    have Beln := hide (below_kept Bel.out k (by omega))
    have S0n := hide (S0.out.kept k (by omega))
    have T0n := hide (T0.out.kept k (by omega))
    have U0n := hide (U0.out.kept k (by omega))
    have W0n := hide (W0.out.kept k (by omega))
    have W1n := hide (W1.out.kept k (by omega))
    have M1n := hide (M1.out.kept k (by omega))
    have M2n := hide (M2.out.kept k (by omega))
    have M3n := hide (M3.out.kept k (by omega))
    clear Bel S0 T0 U0 W0 W1 M1 M2 M3
    have Bel := Beln
    have S0 := S0n
    have T0 := T0n
    have U0 := U0n
    have W0 := W0n
    have W1 := W1n
    have M1 := M1n
    have M2 := M2n
    have M3 := M3n
    clear Beln S0n T0n U0n W0n W1n M1n M2n M3n
    have nw16 := k.size
    clear k gk
    go_wp2_with fail
    refine (toDevStepS _ a ca n zs (HX.out.below Bel.out).1 HL.out bn).mono ?_
    rintro e w17 ⟨rfl, o, l17, gk⟩
    have k := kept_grown gk
    have Beln := hide (below_kept Bel.out k (by omega))
    have S0n := hide (S0.out.kept k (by omega))
    have T0n := hide (T0.out.kept k (by omega))
    have U0n := hide (U0.out.kept k (by omega))
    have W0n := hide (W0.out.kept k (by omega))
    have W1n := hide (W1.out.kept k (by omega))
    have M1n := hide (M1.out.kept k (by omega))
    have M2n := hide (M2.out.kept k (by omega))
    have M3n := hide (M3.out.kept k (by omega))
    clear Bel S0 T0 U0 W0 W1 M1 M2 M3
    have Bel := Beln
    have S0 := S0n
    have T0 := T0n
    have U0 := U0n
    have W0 := W0n
    have W1 := W1n
    have M1 := M1n
    have M2 := M2n
    have M3 := M3n
    clear Beln S0n T0n U0n W0n W1n M1n M2n M3n
    have O7 := hide o
    clear o k gk
    go_wp2_with fail
    refine (implPlayDevice _ _ _ n zs (O7.out.came HX.out.2) HL.out bn).mono ?_
    unfold PlayRet
    rw [HDD.out, HVV.out, HKK.out]
    rintro e w18 ⟨a2, b2, c2, ca2, cb2, cc2, rfl, ⟨s, t, hd2, _⟩, u, hu2, k⟩
    have Beln := hide (below_kept Bel.out k (by omega))
    have S0n := hide (S0.out.kept k (by omega))
    have T0n := hide (T0.out.kept k (by omega))
    have U0n := hide (U0.out.kept k (by omega))
    have W0n := hide (W0.out.kept k (by omega))
    have W1n := hide (W1.out.kept k (by omega))
    have M1n := hide (M1.out.kept k (by omega))
    have M2n := hide (M2.out.kept k (by omega))
    have M3n := hide (M3.out.kept k (by omega))
    have O7n := hide (O7.out.keptS k (by omega))
    clear Bel S0 T0 U0 W0 W1 M1 M2 M3 O7
    have Bel := Beln
    have S0 := S0n
    have T0 := T0n
    have U0 := U0n
    have W0 := W0n
    have W1 := W1n
    have M1 := M1n
    have M2 := M2n
    have M3 := M3n
    have O7 := O7n
    clear Beln S0n T0n U0n W0n W1n M1n M2n M3n O7n
    have nw18 := k.size
    have S2 := hide s
    have T2 := hide t
    have U2 := hide u
    clear k s t u
    clear hd2 hu2
    clear O7
    have ka := kept_alloc w18 (.cells #[.int .i64 D.e, .int .i64 D.l, .bool D.r, .slice a2 D.xs.length ca2, .slice b2 D.ys.length cb2, .int .i64 D.t] 24)
    have Beln := hide (below_kept Bel.out ka (by omega))
    have S0n := hide (S0.out.kept ka (by omega))
    have T0n := hide (T0.out.kept ka (by omega))
    have U0n := hide (U0.out.kept ka (by omega))
    have W0n := hide (W0.out.kept ka (by omega))
    have W1n := hide (W1.out.kept ka (by omega))
    have M1n := hide (M1.out.kept ka (by omega))
    have M2n := hide (M2.out.kept ka (by omega))
    have M3n := hide (M3.out.kept ka (by omega))
    have S2n := hide (S2.out.kept ka (by omega))
    have T2n := hide (T2.out.kept ka (by omega))
    have U2n := hide (U2.out.kept ka (by omega))
    clear Bel S0 T0 U0 W0 W1 M1 M2 M3 S2 T2 U2
    have Bel := Beln
    have S0 := S0n
    have T0 := T0n
    have U0 := U0n
    have W0 := W0n
    have W1 := W1n
    have M1 := M1n
    have M2 := M2n
    have M3 := M3n
    have S2 := S2n
    have T2 := T2n
    have U2 := U2n
    clear Beln S0n T0n U0n W0n W1n M1n M2n M3n S2n T2n U2n
    have W2 := hide (Blk.new w18 #[.int .i64 D.e, .int .i64 D.l, .bool D.r, .slice a2 D.xs.length ca2, .slice b2 D.ys.length cb2, .int .i64 D.t] 24)
    obtain ⟨X18, hX18⟩ : ∃ X : World, X = w18.alloc (.cells #[.int .i64 D.e, .int .i64 D.l, .bool D.r, .slice a2 D.xs.length ca2, .slice b2 D.ys.length cb2, .int .i64 D.t] 24) := ⟨_, rfl⟩
    have nX18 : w18.heap.size < X18.heap.size := by rw [hX18]; simp
    rw [← hX18] at Bel S0 T0 U0 W0 W1 M1 M2 M3 S2 T2 U2 W2
    have r00 := W2.out.cell (i := 0) rfl
    rw [hX18] at r00
    have r01 := W2.out.cell (i := 1) rfl
    rw [hX18] at r01
    have r02 := W2.out.cell (i := 2) rfl
    rw [hX18] at r02
    have r03 := W2.out.cell (i := 3) rfl
    rw [hX18] at r03
    have r04 := W2.out.cell (i := 4) rfl
    rw [hX18] at r04
    have r05 := W2.out.cell (i := 5) rfl
    rw [hX18] at r05
    have r10 := W0.out.cell (i := 0) rfl
    rw [hX18] at r10
    have s10 := (World.cell?_alloc_lt w18 (.cells #[.int .i64 D.e, .int .i64 D.l, .bool D.r, .slice a2 D.xs.length ca2, .slice b2 D.ys.length cb2, .int .i64 D.t] 24) ⟨w3.heap.size, 0, none⟩ (by show w3.heap.size < _; omega)).symm.trans r10
    have r11 := W0.out.cell (i := 1) rfl
    rw [hX18] at r11
    have s11 := (World.cell?_alloc_lt w18 (.cells #[.int .i64 D.e, .int .i64 D.l, .bool D.r, .slice a2 D.xs.length ca2, .slice b2 D.ys.length cb2, .int .i64 D.t] 24) ⟨w3.heap.size, 1, none⟩ (by show w3.heap.size < _; omega)).symm.trans r11
    have r12 := W0.out.cell (i := 2) rfl
    rw [hX18] at r12
    have s12 := (World.cell?_alloc_lt w18 (.cells #[.int .i64 D.e, .int .i64 D.l, .bool D.r, .slice a2 D.xs.length ca2, .slice b2 D.ys.length cb2, .int .i64 D.t] 24) ⟨w3.heap.size, 2, none⟩ (by show w3.heap.size < _; omega)).symm.trans r12
    have r13 := W0.out.cell (i := 3) rfl
    rw [hX18] at r13
    have s13 := (World.cell?_alloc_lt w18 (.cells #[.int .i64 D.e, .int .i64 D.l, .bool D.r, .slice a2 D.xs.length ca2, .slice b2 D.ys.length cb2, .int .i64 D.t] 24) ⟨w3.heap.size, 3, none⟩ (by show w3.heap.size < _; omega)).symm.trans r13
    have r14 := W0.out.cell (i := 4) rfl
    rw [hX18] at r14
    have s14 := (World.cell?_alloc_lt w18 (.cells #[.int .i64 D.e, .int .i64 D.l, .bool D.r, .slice a2 D.xs.length ca2, .slice b2 D.ys.length cb2, .int .i64 D.t] 24) ⟨w3.heap.size, 4, none⟩ (by show w3.heap.size < _; omega)).symm.trans r14
    have r15 := W0.out.cell (i := 5) rfl
    rw [hX18] at r15
    have s15 := (World.cell?_alloc_lt w18 (.cells #[.int .i64 D.e, .int .i64 D.l, .bool D.r, .slice a2 D.xs.length ca2, .slice b2 D.ys.length cb2, .int .i64 D.t] 24) ⟨w3.heap.size, 5, none⟩ (by show w3.heap.size < _; omega)).symm.trans r15
    go_wp2_with fail
    rw [← hX18]
    clear ka hX18 r00 r01 r02 r03 r04 r05 r10 s10 r11 s11 r12 s12 r13 s13 r14 s14 r15 s15
    refine (eqDevice _ D.e D.l D.t D.r a2 b2 a0 b0 _ _ _ _ D.xs D.ys S2.out.row T2.out.row S0.out.row T0.out.row bD bE).mono ?_
    rintro e w19 ⟨rfl, k⟩
    have Beln := hide (below_kept Bel.out k (by omega))
    have S0n := hide (S0.out.kept k (by omega))
    have T0n := hide (T0.out.kept k (by omega))
    have U0n := hide (U0.out.kept k (by omega))
    have W0n := hide (W0.out.kept k (by omega))
    have W1n := hide (W1.out.kept k (by omega))
    have M1n := hide (M1.out.kept k (by omega))
    have M2n := hide (M2.out.kept k (by omega))
    have M3n := hide (M3.out.kept k (by omega))
    have S2n := hide (S2.out.kept k (by omega))
    have T2n := hide (T2.out.kept k (by omega))
    have U2n := hide (U2.out.kept k (by omega))
    have W2n := hide (W2.out.kept k (by omega))
    clear Bel S0 T0 U0 W0 W1 M1 M2 M3 S2 T2 U2 W2
    have Bel := Beln
    have S0 := S0n
    have T0 := T0n
    have U0 := U0n
    have W0 := W0n
    have W1 := W1n
    have M1 := M1n
    have M2 := M2n
    have M3 := M3n
    have S2 := S2n
    have T2 := T2n
    have U2 := U2n
    have W2 := W2n
    clear Beln S0n T0n U0n W0n W1n M1n M2n M3n S2n T2n U2n W2n
    have nw19 := k.size
    clear k
    go_wp2_with fail
    refine (eqIntS _ c2 c0 _ _ V V U2.out.row U0.out.row bV bV).mono ?_
    rintro e w20 ⟨rfl, gk⟩
    rw [decide_eq_true (rfl : V = V)]
    have k := kept_grown gk
    have Beln := hide (below_kept Bel.out k (by omega))
    have S0n := hide (S0.out.kept k (by omega))
    have T0n := hide (T0.out.kept k (by omega))
    have U0n := hide (U0.out.kept k (by omega))
    have W0n := hide (W0.out.kept k (by omega))
    have W1n := hide (W1.out.kept k (by omega))
    have M1n := hide (M1.out.kept k (by omega))
    have M2n := hide (M2.out.kept k (by omega))
    have M3n := hide (M3.out.kept k (by omega))
    have S2n := hide (S2.out.kept k (by omega))
    have T2n := hide (T2.out.kept k (by omega))
    have U2n := hide (U2.out.kept k (by omega))
    have W2n := hide (W2.out.kept k (by omega))
    clear Bel S0 T0 U0 W0 W1 M1 M2 M3 S2 T2 U2 W2
    have Bel := Beln
    have S0 := S0n
    have T0 := T0n
    have U0 := U0n
    have W0 := W0n
    have W1 := W1n
    have M1 := M1n
    have M2 := M2n
    have M3 := M3n
    have S2 := S2n
    have T2 := T2n
    have U2 := U2n
    have W2 := W2n
    clear Beln S0n T0n U0n W0n W1n M1n M2n M3n S2n T2n U2n W2n
    have nw20 := k.size
    clear k gk
    have p00 := W1.out.cell (i := 0) rfl
    have p01 := W1.out.cell (i := 1) rfl
    have p02 := W1.out.cell (i := 2) rfl
    have p03 := W1.out.cell (i := 3) rfl
    have p04 := W1.out.cell (i := 4) rfl
    have p05 := W1.out.cell (i := 5) rfl
    go_wp2_with fail
    clear p00 p01 p02 p03 p04 p05
    refine (heldDevice _ D.e D.l D.t D.r a1 b1 _ _ D.xs.length D.ys.length 1 M1.out.row M2.out.row bD bE (by decide) (by decide)).mono ?_
    rintro e w21 ⟨rfl, k⟩
    have Beln := hide (below_kept Bel.out k (by omega))
    have S0n := hide (S0.out.kept k (by omega))
    have T0n := hide (T0.out.kept k (by omega))
    have U0n := hide (U0.out.kept k (by omega))
    have W0n := hide (W0.out.kept k (by omega))
    have W1n := hide (W1.out.kept k (by omega))
    have M1n := hide (M1.out.kept k (by omega))
    have M2n := hide (M2.out.kept k (by omega))
    have M3n := hide (M3.out.kept k (by omega))
    have S2n := hide (S2.out.kept k (by omega))
    have T2n := hide (T2.out.kept k (by omega))
    have U2n := hide (U2.out.kept k (by omega))
    have W2n := hide (W2.out.kept k (by omega))
    clear Bel S0 T0 U0 W0 W1 M1 M2 M3 S2 T2 U2 W2
    have Bel := Beln
    have S0 := S0n
    have T0 := T0n
    have U0 := U0n
    have W0 := W0n
    have W1 := W1n
    have M1 := M1n
    have M2 := M2n
    have M3 := M3n
    have S2 := S2n
    have T2 := T2n
    have U2 := U2n
    have W2 := W2n
    clear Beln S0n T0n U0n W0n W1n M1n M2n M3n S2n T2n U2n W2n
    have nw21 := k.size
    clear k
    go_wp2_with fail
    refine (heldIntS _ c1 _ V.length (1 + (D.xs.length : Int) + (D.ys.length : Int)) M3.out.row bV (by omega) (by omega)).mono ?_
    rintro e w22 ⟨rfl, gk⟩
    have k := kept_grown gk
    have Beln := hide (below_kept Bel.out k (by omega))
    have S0n := hide (S0.out.kept k (by omega))
    have T0n := hide (T0.out.kept k (by omega))
    have U0n := hide (U0.out.kept k (by omega))
    have W0n := hide (W0.out.kept k (by omega))
    have W1n := hide (W1.out.kept k (by omega))
    have M1n := hide (M1.out.kept k (by omega))
    have M2n := hide (M2.out.kept k (by omega))
    have M3n := hide (M3.out.kept k (by omega))
    have S2n := hide (S2.out.kept k (by omega))
    have T2n := hide (T2.out.kept k (by omega))
    have U2n := hide (U2.out.kept k (by omega))
    have W2n := hide (W2.out.kept k (by omega))
    clear Bel S0 T0 U0 W0 W1 M1 M2 M3 S2 T2 U2 W2
    have Bel := Beln
    have S0 := S0n
    have T0 := T0n
    have U0 := U0n
    have W0 := W0n
    have W1 := W1n
    have M1 := M1n
    have M2 := M2n
    have M3 := M3n
    have S2 := S2n
    have T2 := T2n
    have U2 := U2n
    have W2 := W2n
    clear Beln S0n T0n U0n W0n W1n M1n M2n M3n S2n T2n U2n W2n
    have nw22 := k.size
    clear k gk
    go_wp2_with fail
    go_ret
    exact ⟨rfl, Bel.out⟩
end Go.Proofs.Ytlocilcnmbmikaa
