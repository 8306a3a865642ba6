/- What the program's functions of chapter 2 on bytes and the numbers that they tell answer for every argument: one contract a function; none changes the world. -/
import Derived.Test.YtkahmepoblhbnaaDoorSpecNum
import Derived.Test.YtkahmepoblhbnaaDoorSgn
namespace Go.Proofs.YtkahmepoblhbnaaDoor
open Go.RowKit
set_option linter.unusedVariables false

theorem Pl.halves_join (u l : Int) (u0 : 0 ≤ u) (u1 : u ≤ 15) (l0 : 0 ≤ l) (l1 : l ≤ 15) : bits .or .i64 (u * 16) l = u * 16 + l :=
  bits_join .i64 62 (by decide) wraps_i64 4 (u * 16) l (by omega) (by omega) (by omega) (by omega) (by omega) (by omega)

theorem halvesOf (v : Int) (w : World) (lv : -9223372036854775808 ≤ v) (hv : v ≤ 9223372036854775807) :
    Calls Tryd.prog 44 #[.int .i64 v] w fun e w' => e = .returned (.tuple #[.int .i64 (v / 16), .int .i64 (v % 16)]) ∧ w' = w := by
  have k := Pl.and15 v
  go_enter Tryd.func44, Tryd.ntmps44
  go_wp2
  go_ret2
  exact ⟨rII (by omega) (by omega), rfl⟩

theorem byteOf (u l : Int) (w : World) (u0 : 0 ≤ u) (u1 : u ≤ 15) (l0 : 0 ≤ l) (l1 : l ≤ 15) :
    Calls Tryd.prog 46 #[.int .i64 u, .int .i64 l] w fun e w' => e = .returned (.int .i64 (u * 16 + l)) ∧ w' = w := by
  have k := Pl.halves_join u l u0 u1 l0 l1
  go_enter Tryd.func46, Tryd.ntmps46
  go_wp2
  go_ret
  exact ⟨rI (by omega), rfl⟩

theorem isBcd (v : Int) (w : World) (lv : -9223372036854775808 ≤ v) (hv : v ≤ 9223372036854775807) :
    Calls Tryd.prog 19 #[.int .i64 v] w fun e w' => e = .returned (.bool (Pl.bcd v)) ∧ w' = w := by
  cases ko : Pl.okv 1 v
  · have kn : Pl.bcd v = false := by
      cases c : Pl.bcd v
      · rfl
      · have := Pl.bcd_ok c
        rw [Pl.okv_mk1 (by omega) (by omega)] at ko
        cases ko
    go_enter Tryd.func19, Tryd.ntmps19
    go_wp2_with fail
    refine (signedOf 1 v _ lv hv).mono ?_
    rintro e w' ⟨rfl, rfl⟩
    go_wp2_with fail
    go_ret
    exact ⟨rB kn.symm, rfl⟩
  · have kr := Pl.top_ok ko
    have k0 : 0 ≤ v ∧ v < 256 := by omega
    obtain ⟨k0, k1⟩ := k0
    clear kr
    by_cases h9 : v / 16 ≤ 9
    all_goals
      by_cases h8 : v % 16 ≤ 9
      all_goals
        go_enter Tryd.func19, Tryd.ntmps19
        go_wp2_with fail
        refine (signedOf 1 v _ lv hv).mono ?_
        rintro e w' ⟨rfl, rfl⟩
        go_wp2_with fail
        refine (halvesOf v _ lv hv).mono ?_
        rintro e w' ⟨rfl, rfl⟩
        go_wp2_with fail
        go_ret
        exact ⟨rB (by simp [Pl.bcd, h9, h8] <;> omega), rfl⟩

theorem bcdOf (v : Int) (w : World) (lv : -9223372036854775808 ≤ v) (hv : v ≤ 9223372036854775807) :
    Calls Tryd.prog 17 #[.int .i64 v] w fun e w' => e = .returned (.tuple #[.int .i64 (Pl.bcdV v), .bool (Pl.dgt v)]) ∧ w' = w := by
  by_cases h0 : v < 0
  · have K : Hid (Pl.dgt v = false) := hide (by simp [Pl.dgt]; omega)
    go_enter Tryd.func17, Tryd.ntmps17
    go_wp2_with fail
    go_ret2
    exact ⟨rIB (by simp [Pl.bcdV, K.out]) K.out.symm, rfl⟩
  · by_cases h1 : 99 < v
    · have K : Hid (Pl.dgt v = false) := hide (by simp [Pl.dgt]; omega)
      go_enter Tryd.func17, Tryd.ntmps17
      go_wp2_with fail
      go_ret2
      exact ⟨rIB (by simp [Pl.bcdV, K.out]) K.out.symm, rfl⟩
    · have k : Pl.dgt v = true := Pl.dgt_mk (by omega) (by omega)
      have K := hide k
      clear k
      go_enter Tryd.func17, Tryd.ntmps17
      go_wp2_with fail
      refine (byteOf (v / 10) (v % 10) _ (by omega) (by omega) (by omega) (by omega)).mono ?_
      rintro e w' ⟨rfl, rfl⟩
      go_wp2_with fail
      go_ret2
      exact ⟨rIB (by rw [Pl.bcdV_ok K.out]; unfold Pl.ofN; omega) K.out.symm, rfl⟩

theorem numberOf (v : Int) (w : World) (lv : -9223372036854775808 ≤ v) (hv : v ≤ 9223372036854775807) :
    Calls Tryd.prog 15 #[.int .i64 v] w fun e w' => e = .returned (.tuple #[.int .i64 (Pl.numV v), .bool (Pl.bcd v)]) ∧ w' = w := by
  cases k : Pl.bcd v
  · go_enter Tryd.func15, Tryd.ntmps15
    go_wp2_with fail
    refine (isBcd v _ lv hv).mono ?_
    rintro e w' ⟨rfl, rfl⟩
    go_wp2_with fail
    go_ret2
    exact ⟨rIB (by simp [Pl.numV, k]) rfl, rfl⟩
  · obtain ⟨h0, h1, h2, h3⟩ := Pl.bcd_ok k
    have kk : Pl.numV v = 10 * (v / 16) + v % 16 := by rw [Pl.numV_ok k, Pl.num]; omega
    have KK := hide kk
    clear kk
    go_enter Tryd.func15, Tryd.ntmps15
    go_wp2_with fail
    refine (isBcd v _ lv hv).mono ?_
    rintro e w' ⟨rfl, rfl⟩
    go_wp2_with fail
    refine (halvesOf v _ lv hv).mono ?_
    rintro e w' ⟨rfl, rfl⟩
    go_wp2_with fail
    go_ret2
    exact ⟨rIB (by rw [KK.out]) rfl, rfl⟩

end Go.Proofs.YtkahmepoblhbnaaDoor
