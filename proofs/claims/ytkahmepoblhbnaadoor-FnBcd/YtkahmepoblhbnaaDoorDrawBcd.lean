/- What the model's draws for chapter 2 answer, of whatever bytes: numbers within their bounds; no block that was there has turned. -/
import Derived.Test.YtkahmepoblhbnaaDoorTwin
import Derived.Test.YtkahmepoblhbnaaDoorSpecBcd
namespace Go.Proofs.YtkahmepoblhbnaaDoor
open Go.RowKit
set_option linter.unusedVariables false

theorem digits (w : World) (b : Nat) (a : Option Addr) (len cap : Nat) (p : Int) (h : Cur w b a len cap p) (p0 : 0 ≤ p) (p1 : p ≤ 800000) :
    Calls Tryd.prog 37 #[.pointer (some ⟨b, 0, none⟩)] w fun e w' => ∃ r : Int, e = .returned (.int .i64 r) ∧ -1 ≤ r ∧ r ≤ 256 ∧ Went w w' b a len cap p 4 := by
  go_enter Tryd.func37, Tryd.ntmps37
  go_wp2_with fail
  refine (one _ b a len cap p 12 h p0 (by omega) (by omega) (by omega)).mono ?_
  rintro e w1 ⟨x, rfl, hg1, q1, q10, q11, hc1⟩
  cases x
  · go_wp2_with fail
    refine (pick _ b a len cap q1 100 hc1 (by omega) (by omega) (by omega) (by omega)).mono ?_
    rintro e w2 ⟨n, rfl, n0, n1, hg2, q2, q20, q21, hc2⟩
    have hb := Pl.ofN_bd n0 (show n ≤ 99 by omega)
    go_wp2_with fail
    refine (l2Of n _ n0 (by omega)).mono ?_
    rintro e wt ⟨rfl, rfl⟩
    go_wp2_with fail
    go_ret
    exact ⟨_, rfl, by omega, by omega, grownBy_trans hg1 hg2, q2, by omega, by omega, hc2⟩
  · have hlt := hc1.lt
    go_wp2_with fail
    refine (among _ b a len cap q1 _ _ _ (-1) 256 (hc1.alloc _) (by omega) (by omega) (by decide) (by decide) (by omega) (lits w1 [-1, 10, 154, 160, 255, 256] (-1) 256 (by decide))).mono ?_
    rintro e w2 ⟨x, rfl, x0, x1, hw⟩
    obtain ⟨hg2, q2, q20, q21, hc2⟩ := hw.alloc
    go_wp2_with fail
    go_ret
    exact ⟨_, rfl, x0, x1, grownBy_trans hg1 hg2, q2, by omega, by omega, hc2⟩

theorem drawIsBcd (w : World) (a : Option Addr) (len cap : Nat) (h : Bytes w a len) :
    Calls Tryd.prog 20 #[.slice a len cap] w fun e w' => ∃ v : Int, e = .returned (.int .i64 v) ∧ -1 ≤ v ∧ v ≤ 256 ∧ Below w.heap.size w w' := by
  go_enter Tryd.func20, Tryd.ntmps20
  go_wp2_with fail
  refine (digits _ _ a len cap 0 (h.cur cap) (by omega) (by omega)).mono ?_
  rintro e w2 ⟨v, rfl, v0, v1, hg2, q2, q20, q21, hc2⟩
  go_wp2_with fail
  go_ret
  exact ⟨v, rfl, v0, v1, below_of hg2⟩

theorem drawComplementBcd (w : World) (a : Option Addr) (len cap : Nat) (h : Bytes w a len) :
    Calls Tryd.prog 29 #[.slice a len cap] w fun e w' => ∃ v : Int, e = .returned (.int .i64 v) ∧ -1 ≤ v ∧ v ≤ 256 ∧ Below w.heap.size w w' := by
  go_enter Tryd.func29, Tryd.ntmps29
  go_wp2_with fail
  refine (drawIsBcd _ a len cap h).mono ?_
  rintro e w2 ⟨v, rfl, v0, v1, hb⟩
  go_wp2_with fail
  go_ret
  exact ⟨v, rfl, v0, v1, hb⟩

theorem drawBcdOf (w : World) (a : Option Addr) (len cap : Nat) (h : Bytes w a len) :
    Calls Tryd.prog 16 #[.slice a len cap] w fun e w' => ∃ v : Int, e = .returned (.int .i64 v) ∧ -1 ≤ v ∧ v ≤ 256 ∧ Below w.heap.size w w' := by
  go_enter Tryd.func16, Tryd.ntmps16
  go_wp2_with fail
  refine (pick _ _ a len cap 0 102 (h.cur cap) (by omega) (by omega) (by omega) (by omega)).mono ?_
  rintro e w2 ⟨v, rfl, v0, v1, hg2, q2, q20, q21, hc2⟩
  go_wp2_with fail
  go_ret
  exact ⟨_, rfl, by omega, by omega, below_of hg2⟩

theorem drawAddBcd (w : World) (a : Option Addr) (len cap : Nat) (h : Bytes w a len) :
    Calls Tryd.prog 10 #[.slice a len cap] w fun e w' => ∃ x u v : Int, e = .returned (.tuple #[.int .i64 x, .int .i64 u, .int .i64 v]) ∧ 0 ≤ x ∧ x ≤ 2 ∧ -1 ≤ u ∧ u ≤ 256 ∧ -1 ≤ v ∧ v ≤ 256 ∧ Below w.heap.size w w' := by
  go_enter Tryd.func10, Tryd.ntmps10
  go_wp2_with fail
  refine (among _ _ a len cap 0 _ _ _ 0 2 ((h.cur cap).alloc _) (by omega) (by omega) (by decide) (by decide) (by omega) (lits1 w _ [0, 0, 1, 1, 2] 0 2 (by decide))).mono ?_
  rintro e w2 ⟨x, rfl, x0, x1, hw⟩
  obtain ⟨hg2, q2, q20, q21, hc2⟩ := hw.alloc
  clear hw
  go_wp2_with fail
  refine (digits _ _ a len cap q2 hc2 (by omega) (by omega)).mono ?_
  rintro e w3 ⟨u, rfl, u0, u1, hg3, q3, q30, q31, hc3⟩
  go_wp2_with fail
  refine (digits _ _ a len cap q3 hc3 (by omega) (by omega)).mono ?_
  rintro e w4 ⟨v, rfl, v0, v1, hg4, q4, q40, q41, hc4⟩
  go_wp2_with fail
  go_ret3
  exact ⟨x, u, v, rfl, x0, x1, u0, u1, v0, v1, below_of (grownBy_trans (grownBy_trans hg2 hg3) hg4)⟩

theorem drawNegBcd (w : World) (a : Option Addr) (len cap : Nat) (h : Bytes w a len) :
    Calls Tryd.prog 26 #[.slice a len cap] w fun e w' => ∃ x v : Int, e = .returned (.tuple #[.int .i64 x, .int .i64 v]) ∧ 0 ≤ x ∧ x ≤ 1 ∧ -1 ≤ v ∧ v ≤ 256 ∧ Below w.heap.size w w' := by
  go_enter Tryd.func26, Tryd.ntmps26
  go_wp2_with fail
  refine (pick _ _ a len cap 0 2 (h.cur cap) (by omega) (by omega) (by omega) (by omega)).mono ?_
  rintro e w2 ⟨x, rfl, x0, x1, hg2, q2, q20, q21, hc2⟩
  go_wp2_with fail
  refine (digits _ _ a len cap q2 hc2 (by omega) (by omega)).mono ?_
  rintro e w3 ⟨u, rfl, u0, u1, hg3, q3, q30, q31, hc3⟩
  go_wp2_with fail
  go_ret2
  exact ⟨x, u, rfl, x0, by omega, u0, u1, below_of (grownBy_trans hg2 hg3)⟩

end Go.Proofs.YtkahmepoblhbnaaDoor
