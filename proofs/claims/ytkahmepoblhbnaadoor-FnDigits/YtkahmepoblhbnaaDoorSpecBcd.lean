/- What the models of chapter 2's sums and differences answer for every argument: one contract a function; none changes the world. -/
import Derived.Test.YtkahmepoblhbnaaDoorSpecNum
namespace Go.Proofs.YtkahmepoblhbnaaDoor
open Go.RowKit
set_option linter.unusedVariables false

theorem l2Two (x a b : Int) (w : World) :
    Calls Tryd.prog 40 #[.int .i64 x, .int .i64 a, .int .i64 b] w fun e w' => e = .returned (.bool (Pl.two2 x a b)) ∧ w' = w := by
  unfold Pl.two2 Pl.bit
  cases kx : (decide ((0 : Int) ≤ x) && decide (x ≤ 1))
  · go_enter Tryd.func40, Tryd.ntmps40
    go_wp2_with fail
    refine (l1In _ _ _ _).mono ?_
    rintro e w' ⟨rfl, rfl⟩
    go_wp2_with fail
    go_ret
    exact ⟨rfl, rfl⟩
  · cases ka : Pl.bcd a
    · go_enter Tryd.func40, Tryd.ntmps40
      go_wp2_with fail
      refine (l1In _ _ _ _).mono ?_
      rintro e w' ⟨rfl, rfl⟩
      go_wp2_with fail
      refine (specIsBcd a _).mono ?_
      rintro e w' ⟨rfl, rfl⟩
      go_wp2_with fail
      go_ret
      exact ⟨rfl, rfl⟩
    · go_enter Tryd.func40, Tryd.ntmps40
      go_wp2_with fail
      refine (l1In _ _ _ _).mono ?_
      rintro e w' ⟨rfl, rfl⟩
      go_wp2_with fail
      refine (specIsBcd a _).mono ?_
      rintro e w' ⟨rfl, rfl⟩
      go_wp2_with fail
      refine (specIsBcd b _).mono ?_
      rintro e w' ⟨rfl, rfl⟩
      go_wp2_with fail
      go_ret
      exact ⟨rfl, rfl⟩

theorem l2Add (x a b : Int) (w : World) (h : Pl.two2 x a b = true) :
    Calls Tryd.prog 41 #[.int .i64 x, .int .i64 a, .int .i64 b] w fun e w' => e = .returned (.tuple #[.int .i64 (Pl.aV x a b), .int .i64 (Pl.aC x a b)]) ∧ w' = w := by
  obtain ⟨x0, x1, ha, hb⟩ := Pl.two2_ok h
  obtain ⟨a0, a1⟩ := Pl.num_bd ha
  obtain ⟨b0, b1⟩ := Pl.num_bd hb
  rw [Pl.aV_is h, Pl.aC_is h]
  go_enter Tryd.func41, Tryd.ntmps41
  go_wp2_with fail
  refine (l2Number a _ ha).mono ?_
  rintro e w' ⟨rfl, rfl⟩
  go_wp2_with fail
  refine (l2Number b _ hb).mono ?_
  rintro e w' ⟨rfl, rfl⟩
  go_wp2_with fail
  refine (l2Of _ _ (by omega) (by omega)).mono ?_
  rintro e w' ⟨rfl, rfl⟩
  go_wp2_with fail
  go_ret2
  exact ⟨rfl, rfl⟩

theorem l2Sub (x a b : Int) (w : World) (h : Pl.two2 x a b = true) :
    Calls Tryd.prog 43 #[.int .i64 x, .int .i64 a, .int .i64 b] w fun e w' => e = .returned (.tuple #[.int .i64 (Pl.sV x a b), .int .i64 (Pl.sC x a b)]) ∧ w' = w := by
  obtain ⟨x0, x1, ha, hb⟩ := Pl.two2_ok h
  obtain ⟨a0, a1⟩ := Pl.num_bd ha
  obtain ⟨b0, b1⟩ := Pl.num_bd hb
  rw [Pl.sV_is h, Pl.sC_is h]
  unfold Pl.difN Pl.difB
  by_cases hn : Pl.num a - Pl.num b - x < 0
  · rw [if_pos hn, if_pos hn]
    go_enter Tryd.func43, Tryd.ntmps43
    go_wp2_with fail
    refine (l2Number a _ ha).mono ?_
    rintro e w' ⟨rfl, rfl⟩
    go_wp2_with fail
    refine (l2Number b _ hb).mono ?_
    rintro e w' ⟨rfl, rfl⟩
    go_wp2_with fail
    refine (l2Of _ _ (by omega) (by omega)).mono ?_
    rintro e w' ⟨rfl, rfl⟩
    go_wp2_with fail
    go_ret2
    exact ⟨rfl, rfl⟩
  · rw [if_neg hn, if_neg hn]
    go_enter Tryd.func43, Tryd.ntmps43
    go_wp2_with fail
    refine (l2Number a _ ha).mono ?_
    rintro e w' ⟨rfl, rfl⟩
    go_wp2_with fail
    refine (l2Number b _ hb).mono ?_
    rintro e w' ⟨rfl, rfl⟩
    go_wp2_with fail
    refine (l2Of _ _ (by omega) (by omega)).mono ?_
    rintro e w' ⟨rfl, rfl⟩
    go_wp2_with fail
    go_ret2
    exact ⟨rfl, rfl⟩

theorem specAddBcd (x a b : Int) (w : World) :
    Calls Tryd.prog 12 #[.int .i64 x, .int .i64 a, .int .i64 b] w fun e w' => e = .returned (.tuple #[.int .i64 (Pl.aV x a b), .int .i64 (Pl.aC x a b), .bool (Pl.two2 x a b)]) ∧ w' = w := by
  cases k : Pl.two2 x a b
  · have HV : Hid (Pl.aV x a b = 0) := hide (by simp [Pl.aV, k])
    have HF : Hid (Pl.aC x a b = 0) := hide (by simp [Pl.aC, k])
    go_enter Tryd.func12, Tryd.ntmps12
    go_wp2_with fail
    refine (l2Two x a b _).mono ?_
    rintro e w' ⟨rfl, rfl⟩
    go_wp2_with fail
    go_ret3
    exact ⟨rIIB HV.out.symm HF.out.symm rfl, rfl⟩
  · go_enter Tryd.func12, Tryd.ntmps12
    go_wp2_with fail
    refine (l2Two x a b _).mono ?_
    rintro e w' ⟨rfl, rfl⟩
    go_wp2_with fail
    refine (l2Add x a b _ k).mono ?_
    rintro e w' ⟨rfl, rfl⟩
    go_wp2_with fail
    go_ret3
    exact ⟨rfl, rfl⟩

theorem specSubBcd (x a b : Int) (w : World) :
    Calls Tryd.prog 14 #[.int .i64 x, .int .i64 a, .int .i64 b] w fun e w' => e = .returned (.tuple #[.int .i64 (Pl.sV x a b), .int .i64 (Pl.sC x a b), .bool (Pl.two2 x a b)]) ∧ w' = w := by
  cases k : Pl.two2 x a b
  · have HV : Hid (Pl.sV x a b = 0) := hide (by simp [Pl.sV, k])
    have HF : Hid (Pl.sC x a b = 0) := hide (by simp [Pl.sC, k])
    go_enter Tryd.func14, Tryd.ntmps14
    go_wp2_with fail
    refine (l2Two x a b _).mono ?_
    rintro e w' ⟨rfl, rfl⟩
    go_wp2_with fail
    go_ret3
    exact ⟨rIIB HV.out.symm HF.out.symm rfl, rfl⟩
  · go_enter Tryd.func14, Tryd.ntmps14
    go_wp2_with fail
    refine (l2Two x a b _).mono ?_
    rintro e w' ⟨rfl, rfl⟩
    go_wp2_with fail
    refine (l2Sub x a b _ k).mono ?_
    rintro e w' ⟨rfl, rfl⟩
    go_wp2_with fail
    go_ret3
    exact ⟨rfl, rfl⟩

theorem specNegBcd (x a : Int) (w : World) :
    Calls Tryd.prog 28 #[.int .i64 x, .int .i64 a] w fun e w' => e = .returned (.tuple #[.int .i64 (Pl.sV x 0 a), .int .i64 (Pl.sC x 0 a), .bool (Pl.two2 x 0 a)]) ∧ w' = w := by
  go_enter Tryd.func28, Tryd.ntmps28
  go_wp2_with fail
  refine (specSubBcd x 0 a _).mono ?_
  rintro e w' ⟨rfl, rfl⟩
  go_wp2_with fail
  go_ret3
  exact ⟨rfl, rfl⟩

theorem specComplementBcd (v : Int) (w : World) :
    Calls Tryd.prog 31 #[.int .i64 v] w fun e w' => e = .returned (.tuple #[.int .i64 (Pl.cplV v), .bool (Pl.bcd v)]) ∧ w' = w := by
  cases k : Pl.bcd v
  · have HV : Hid (Pl.cplV v = 0) := hide (by simp [Pl.cplV, k])
    go_enter Tryd.func31, Tryd.ntmps31
    go_wp2_with fail
    refine (specIsBcd v _).mono ?_
    rintro e w' ⟨rfl, rfl⟩
    go_wp2_with fail
    go_ret2
    exact ⟨rIB HV.out.symm rfl, rfl⟩
  · have HV : Hid (Pl.cplV v = Pl.ofN (99 - Pl.num v)) := hide (by simp [Pl.cplV, k])
    obtain ⟨a0, a1⟩ := Pl.num_bd k
    go_enter Tryd.func31, Tryd.ntmps31
    go_wp2_with fail
    refine (specIsBcd v _).mono ?_
    rintro e w' ⟨rfl, rfl⟩
    go_wp2_with fail
    refine (l2Number v _ k).mono ?_
    rintro e w' ⟨rfl, rfl⟩
    go_wp2_with fail
    refine (l2Of _ _ (by omega) (by omega)).mono ?_
    rintro e w' ⟨rfl, rfl⟩
    go_wp2_with fail
    go_ret2
    exact ⟨rIB HV.out.symm rfl, rfl⟩

end Go.Proofs.YtkahmepoblhbnaaDoor
