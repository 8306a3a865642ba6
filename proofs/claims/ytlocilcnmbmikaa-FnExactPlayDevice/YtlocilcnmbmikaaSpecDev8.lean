/- What the models of LevelOf and NewDevice answer. -/
import Derived.Test.YtlocilcnmbmikaaSpecDev6
namespace Go.Proofs.Ytlocilcnmbmikaa
open Go.RowKit
set_option linter.unusedVariables false

theorem l5Level (w : World) (d : Pl.Dev) (a b : Option Addr) (ca cb : Nat) (lx : d.xs.length ≤ 2000000) :
    Calls Try.prog 52 #[.agg #[.int .i64 d.e, .int .i64 d.l, .bool d.r, .slice a d.xs.length ca, .slice b d.ys.length cb, .int .i64 d.t]] w fun e w' => e = .returned (.int .i64 (Pl.level d)) ∧ Kept 0 0 w w' := by
  have HK := hide (kept_alloc w (.cells #[.int .i64 d.e, .int .i64 d.l, .bool d.r, .slice a d.xs.length ca, .slice b d.ys.length cb, .int .i64 d.t] 24))
  cases hr : d.r
  · by_cases h : 0 < d.xs.length
    · have EV : Hid (Pl.level d = 2) := hide (by unfold Pl.level; rw [hr, if_neg (by decide), if_pos h])
      have q : decide ((0:Int) < (d.xs.length : Int)) = true := by simpa using h
      rw [hr] at HK
      go_enter Try.func52, Try.ntmps52
      go_wp2_with fail
      go_ret
      exact ⟨rI (by rw [EV.out]), HK.out⟩
    · have EV : Hid (Pl.level d = 0) := hide (by unfold Pl.level; rw [hr, if_neg (by decide), if_neg h])
      have q : decide ((0:Int) < (d.xs.length : Int)) = false := by simpa using h
      rw [hr] at HK
      go_enter Try.func52, Try.ntmps52
      go_wp2_with fail
      go_ret
      exact ⟨rI (by rw [EV.out]), HK.out⟩
  · have EV : Hid (Pl.level d = 5) := hide (by unfold Pl.level; rw [hr, if_pos rfl])
    rw [hr] at HK
    go_enter Try.func52, Try.ntmps52
    go_wp2_with fail
    go_ret
    exact ⟨rI (by rw [EV.out]), HK.out⟩
theorem specLevelOf (w : World) (d : Pl.Dev) (a b : Option Addr) (ca cb : Nat) (ha : IRow w a d.xs) (hb : IRow w b d.ys) (lx : d.xs.length ≤ 2000000) (ly : d.ys.length ≤ 2000000) :
    Calls Try.prog 31 #[.agg #[.int .i64 d.e, .int .i64 d.l, .bool d.r, .slice a d.xs.length ca, .slice b d.ys.length cb, .int .i64 d.t]] w fun e w' => e = .returned (.tuple #[.int .i64 (Pl.lvV d), .bool (Pl.devOk d)]) ∧ Kept 0 0 w w' := by
  have HA := hide ha
  have HB := hide hb
  have K0 := hide (kept_alloc w (.cells #[.int .i64 d.e, .int .i64 d.l, .bool d.r, .slice a d.xs.length ca, .slice b d.ys.length cb, .int .i64 d.t] 24))
  have P0 := hide (Blk.new w #[.int .i64 d.e, .int .i64 d.l, .bool d.r, .slice a d.xs.length ca, .slice b d.ys.length cb, .int .i64 d.t] 24)
  clear ha hb
  cases hg : Pl.devOk d
  · have EV : Hid (Pl.lvV d = 0) := hide (by unfold Pl.lvV; rw [hg]; rfl)
    go_enter Try.func31, Try.ntmps31
    go_wp2_with (go_at_call 16; refine (specGoodDevice _ d a b ca cb (HA.out.keptS K0.out) (HB.out.keptS K0.out) lx ly).mono ?_; rintro e w1 ⟨rfl, k1⟩; rw [hg]; have K1 := hide (K0.out.trans k1); clear k1)
    go_ret2
    exact ⟨by rw [EV.out]; rfl, K1.out⟩
  · have EV : Hid (Pl.lvV d = Pl.level d) := hide (by unfold Pl.lvV; rw [hg, if_pos rfl])
    go_enter Try.func31, Try.ntmps31
    go_wp2_with (first
      | (go_at_call 16; refine (specGoodDevice _ d a b ca cb (HA.out.keptS K0.out) (HB.out.keptS K0.out) lx ly).mono ?_; rintro e w1 ⟨rfl, k1⟩; rw [hg]; have P1 := hide (P0.out.kept0 k1); have K1 := hide (K0.out.trans k1); clear k1; have q0 := P1.out.cell (i := 0) rfl; have q1 := P1.out.cell (i := 1) rfl; have q2 := P1.out.cell (i := 2) rfl; have q3 := P1.out.cell (i := 3) rfl; have q4 := P1.out.cell (i := 4) rfl; have q5 := P1.out.cell (i := 5) rfl)
      | (go_at_call 52; refine (l5Level _ d a b ca cb lx).mono ?_; rintro e w2 ⟨rfl, k2⟩; have K2 := hide (K1.out.trans k2); clear k2))
    go_ret2
    exact ⟨by rw [EV.out]; rfl, K2.out⟩
theorem specNewDevice (w : World) :
    Calls Try.prog 10 #[] w fun e w' => e = .returned (.agg #[.int .i64 8, .int .i64 8, .bool false, .slice none 0 0, .slice none 0 0, .int .i64 0]) ∧ Kept 0 0 w w' := by
  have K0 := hide (kept_alloc w (.cells #[.int .i64 0, .int .i64 0, .bool false, .slice none 0 0, .slice none 0 0, .int .i64 0] 24))
  have R0 := hide (Blk.new w #[.int .i64 0, .int .i64 0, .bool false, .slice none 0 0, .slice none 0 0, .int .i64 0] 24)
  go_enter Try.func10, Try.ntmps10
  go_wp2_with fail
  refine bodyPost_ret (v := .agg #[.int .i64 8, .int .i64 8, .bool false, .slice none 0 0, .slice none 0 0, .int .i64 0]) ?_ rfl ⟨rfl, ?_⟩
  · rw [results_one rfl]; go_simp
  · exact kept_alloc _ _
end Go.Proofs.Ytlocilcnmbmikaa
