/- Four laws of chapter 4 whose calls only look: each call of the program and of its model answers the same, so each law's Go function returns true. -/
import Derived.Test.YtbkafdphagmgpaaImplGood
import Derived.Test.YtbkafdphagmgpaaSpecPeek
namespace Go.Proofs.Ytbkafdphagmgpaa
open Go.RowKit
set_option linter.unusedVariables false

theorem lawKindOf (a0 : Int) (w0 : (Lit.int .i64 a0).wf = true) (w : World) :
    Calls Try.prog 7 #[.int .i64 a0] w fun e w' => e = .returned (.bool true) ∧ Below w.heap.size w w' := by
  go_enter Try.func7, Try.ntmps7
  go_wp2_with fail
  refine (specKindOf a0 _).mono ?_
  rintro e w' ⟨rfl, rfl⟩
  go_wp2_with fail
  refine (kindOf a0 _ w0).mono ?_
  rintro e w' ⟨rfl, hk⟩
  go_wp2_with fail
  go_ret
  exact ⟨rfl, hk.below⟩

set_option maxHeartbeats 4000000 in
theorem lawGoodBus (a b : Option Addr) (ca m cb : Nat) (xs ys : List Int) (w : World) (hx : Came w a xs) (hy : Came w b ys) (ly : ys.length = 5 * m) (lx : xs.length ≤ 9223372036854775807) (lm : m ≤ 9223372036854775807) :
    Calls Try.prog 4 #[.agg #[.slice a xs.length ca, .slice b m cb]] w fun e w' => e = .returned (.bool true) ∧ Below w.heap.size w w' := by
  have HX := hide hx
  have HY := hide hy
  have HL := hide ly
  have HW0 := hide (Blk.new w #[.slice a xs.length ca, .slice b m cb] 35)
  have HK0 := hide (kept_alloc w (.cells #[.slice a xs.length ca, .slice b m cb] 35))
  clear hx hy ly
  by_cases hs : szB xs.length m 1048576 < 0
  · go_enter Try.func4, Try.ntmps4
    go_wp2_with fail
    refine (szBus _ a b ca cb xs.length m 1048576 lx lm (by decide) (by decide)).mono ?_
    rintro e w1 ⟨rfl, k1⟩
    have HK1 := hide (HK0.out.trans k1)
    clear k1
    go_wp2_with fail
    go_ret
    exact ⟨rfl, HK1.out.below⟩
  · have hb := szB_neg hs
    have bx : xs.length ≤ 2000000 := by omega
    have bm : m ≤ 2000000 := by omega
    have ds : decide (szB xs.length m 1048576 < 0) = false := by simpa using hs
    clear hs hb
    go_enter Try.func4, Try.ntmps4
    go_wp2_with fail
    refine (szBus _ a b ca cb xs.length m 1048576 lx lm (by decide) (by decide)).mono ?_
    rintro e w1 ⟨rfl, k1⟩
    have B1 := HW0.out.kept0 k1
    have HK1 := hide (HK0.out.trans k1)
    have HW1 := hide B1
    have c0 := B1.cell (i := 0) rfl
    have c1 := B1.cell (i := 1) rfl
    clear k1 B1
    go_wp2_with fail
    refine (toBus _ a b ca cb m xs ys (HX.out.keptS HK1.out).1 (HY.out.keptS HK1.out).1 bx HL.out bm).mono ?_
    rintro e w2 ⟨g1, g2, rfl, o1, o2, l1, l2, l3, k2⟩
    have B2 := HW1.out.kept0 k2
    have HK2 := hide (HK1.out.trans k2)
    have HW2 := hide B2
    clear k2 c0 c1 B2 ds
    go_wp2_with fail
    refine (specGoodBus _ _ _ _ _ m xs ys o1.row o2.row bx HL.out bm).mono ?_
    rintro e w3 ⟨rfl, k3⟩
    have B3 := HW2.out.kept0 k3
    have HK3 := hide (HK2.out.trans k3)
    have HW3 := hide B3
    have c0 := B3.cell (i := 0) rfl
    have c1 := B3.cell (i := 1) rfl
    clear k3 B3 o1 o2 l1 l2 l3
    go_wp2_with fail
    refine (toBus _ a b ca cb m xs ys (HX.out.keptS HK3.out).1 (HY.out.keptS HK3.out).1 bx HL.out bm).mono ?_
    rintro e w4 ⟨g3, g4, rfl, o3, o4, l3, l4, l5, k4⟩
    have ka := kept_alloc w4 (.cells #[.slice (some ⟨g3, 0, none⟩) xs.length xs.length, .slice (some ⟨g4, 0, none⟩) m m] 25)
    have HK4 := hide ((HK3.out.trans k4).trans ka)
    have HW4 := hide ((HW3.out.kept0 k4).kept0 ka)
    have HX0 := hide (Blk.new w4 #[.slice (some ⟨g3, 0, none⟩) xs.length xs.length, .slice (some ⟨g4, 0, none⟩) m m] 25)
    have HO3 := hide (o3.keptS ka (by omega))
    have HO4 := hide (o4.keptS ka (by omega))
    clear k4 c0 c1 o3 o4 ka
    go_wp2_with fail
    refine (goodBus _ _ _ _ _ m xs ys (HO3.out.came HX.out.2) (HO4.out.came HY.out.2) bx HL.out bm).mono ?_
    rintro e w5 ⟨rfl, k5⟩
    have B5 := HW4.out.kept0 k5
    have HK5 := hide (HK4.out.trans k5)
    have HW5 := hide B5
    have HP3 := hide (HO3.out.keptS k5 (by omega))
    have HP4 := hide (HO4.out.keptS k5 (by omega))
    have c0 := B5.cell (i := 0) rfl
    have c1 := B5.cell (i := 1) rfl
    have X5 := HX0.out.kept0 k5
    have HX5 := hide X5
    have d0 := X5.cell (i := 0) rfl
    have d1 := X5.cell (i := 1) rfl
    clear k5 B5 HO3 HO4 X5
    go_wp2_with fail
    go_region_with (first | (go_at_call 20; refine (toBus _ a b ca cb m xs ys (HX.out.keptS (kept_drew HK5.out)).1 (HY.out.keptS (kept_drew HK5.out)).1 bx HL.out bm).mono ?_; rintro e w6 ⟨g5, g6, rfl, o5, o6, l6, l7, l8, kd⟩; have k6 := undrewK kd; have X6 := HX5.out.kept0 k6; have e0 := X6.cell (i := 0) rfl; have e1 := X6.cell (i := 1) rfl; have HK6 := hide (HK5.out.trans k6); have HQ3 := hide (HP3.out.keptS k6 (by omega)); have HQ4 := hide (HP4.out.keptS k6 (by omega)); have HO5 := hide o5; have HO6 := hide o6; clear k6 kd o5 o6 X6) | (go_at_call 13; refine (eqBus _ _ _ _ _ _ _ _ _ m m xs ys xs ys HQ3.out.row HQ4.out.row HO5.out.row HO6.out.row bx bx HL.out HL.out bm bm).mono ?_; rintro e w7 ⟨rfl, k7⟩; have HK7 := hide (HK6.out.trans k7); clear k7))
    all_goals
      go_wp2_with fail
      go_ret
      exact ⟨rfl, HK7.out.below⟩
end Go.Proofs.Ytbkafdphagmgpaa
