/- What the models of chapter 2 answer for every argument: one contract a function; none changes the world. -/
import Derived.Test.YtkahmepoblhbnaaBase
import Derived.Test.YtkahmepoblhbnaaBcd
namespace Go.Proofs.Ytkahmepoblhbnaa
open Go.RowKit
set_option linter.unusedVariables false

theorem specIsBcd (v : Int) (w : World) :
    Calls Try.prog 6 #[.int .i64 v] w fun e w' => e = .returned (.bool (Pl.bcd v)) ∧ w' = w := by
  by_cases hr : 0 ≤ v ∧ v ≤ 255
  · obtain ⟨h0, h1⟩ := hr
    have kd : (decide ((0 : Int) ≤ v) && decide (v ≤ 255)) = true := by simp [h0, h1]
    have em := Pl.and15 v
    by_cases h2 : v / 16 ≤ 9
    all_goals
      by_cases h3 : v % 16 ≤ 9
      all_goals
        go_enter Try.func6, Try.ntmps6
        go_wp2_with fail
        refine (l1In _ _ _ _).mono ?_
        rintro e w' ⟨rfl, rfl⟩
        go_wp2_with fail
        go_ret
        exact ⟨rB (by rw [Bool.eq_iff_iff]; simp [Pl.bcd]; omega), rfl⟩
  · have kd : (decide ((0 : Int) ≤ v) && decide (v ≤ 255)) = false := by
      rw [Bool.and_eq_false_iff, decide_eq_false_iff_not, decide_eq_false_iff_not]; omega
    go_enter Try.func6, Try.ntmps6
    go_wp2_with fail
    refine (l1In _ _ _ _).mono ?_
    rintro e w' ⟨rfl, rfl⟩
    go_wp2_with fail
    go_ret
    exact ⟨rB (by rw [Pl.bcd, kd]; rfl), rfl⟩

theorem l2Of (n : Int) (w : World) (h0 : 0 ≤ n) (h1 : n ≤ 99) :
    Calls Try.prog 15 #[.int .i64 n] w fun e w' => e = .returned (.int .i64 (Pl.ofN n)) ∧ w' = w := by
  have eo := Pl.or_dgt n h0 h1
  go_enter Try.func15, Try.ntmps15
  go_wp2_with fail
  go_ret
  exact ⟨rfl, rfl⟩

theorem l2Number (v : Int) (w : World) (h : Pl.bcd v = true) :
    Calls Try.prog 17 #[.int .i64 v] w fun e w' => e = .returned (.int .i64 (Pl.num v)) ∧ w' = w := by
  obtain ⟨h0, h1, h2, h3⟩ := Pl.bcd_ok h
  have em := Pl.and15 v
  clear h
  go_enter Try.func17, Try.ntmps17
  go_wp2_with fail
  go_ret
  exact ⟨rfl, rfl⟩

theorem specBcdOf (n : Int) (w : World) :
    Calls Try.prog 8 #[.int .i64 n] w fun e w' => e = .returned (.tuple #[.int .i64 (Pl.bcdV n), .bool (Pl.dgt n)]) ∧ w' = w := by
  cases k : Pl.dgt n
  · have HV : Hid (Pl.bcdV n = 0) := hide (by simp [Pl.bcdV, k])
    have kd : (decide ((0 : Int) ≤ n) && decide (n ≤ 99)) = false := k
    go_enter Try.func8, Try.ntmps8
    go_wp2_with fail
    refine (l1In _ _ _ _).mono ?_
    rintro e w' ⟨rfl, rfl⟩
    go_wp2_with fail
    go_ret2
    exact ⟨rIB HV.out.symm rfl, rfl⟩
  · have HV : Hid (Pl.bcdV n = Pl.ofN n) := hide (Pl.bcdV_ok k)
    have kd : (decide ((0 : Int) ≤ n) && decide (n ≤ 99)) = true := k
    obtain ⟨h0, h1⟩ := Pl.dgt_ok k
    go_enter Try.func8, Try.ntmps8
    go_wp2_with fail
    refine (l1In _ _ _ _).mono ?_
    rintro e w' ⟨rfl, rfl⟩
    go_wp2_with fail
    refine (l2Of n _ h0 h1).mono ?_
    rintro e w' ⟨rfl, rfl⟩
    go_wp2_with fail
    go_ret2
    exact ⟨rIB HV.out.symm rfl, rfl⟩

theorem specNumberOf (v : Int) (w : World) :
    Calls Try.prog 10 #[.int .i64 v] w fun e w' => e = .returned (.tuple #[.int .i64 (Pl.numV v), .bool (Pl.bcd v)]) ∧ w' = w := by
  cases k : Pl.bcd v
  · have HV : Hid (Pl.numV v = 0) := hide (by simp [Pl.numV, k])
    go_enter Try.func10, Try.ntmps10
    go_wp2_with fail
    refine (specIsBcd v _).mono ?_
    rintro e w' ⟨rfl, rfl⟩
    go_wp2_with fail
    go_ret2
    exact ⟨rIB HV.out.symm rfl, rfl⟩
  · have HV : Hid (Pl.numV v = Pl.num v) := hide (Pl.numV_ok k)
    go_enter Try.func10, Try.ntmps10
    go_wp2_with fail
    refine (specIsBcd v _).mono ?_
    rintro e w' ⟨rfl, rfl⟩
    go_wp2_with fail
    refine (l2Number v _ k).mono ?_
    rintro e w' ⟨rfl, rfl⟩
    go_wp2_with fail
    go_ret2
    exact ⟨rIB HV.out.symm rfl, rfl⟩

end Go.Proofs.Ytkahmepoblhbnaa
