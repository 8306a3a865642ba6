/- What the model's draws of sizes and values answer: numbers within their bounds; they change the reader's own block and no other that was there. -/
import Derived.Test.YtceipklpbnmggaaRead
namespace Go.Proofs.Ytceipklpbnmggaa
open Go.RowKit
set_option linter.unusedVariables false

theorem size (w : World) (b : Nat) (a : Option Addr) (len cap : Nat) (p : Int) (h : Cur w b a len cap p) (p0 : 0 ≤ p) (p1 : p ≤ 900000) :
    Calls Try.prog 41 #[.pointer (some ⟨b, 0, none⟩)] w fun e w' => ∃ r : Int, e = .returned (.int .i64 r) ∧ 0 ≤ r ∧ r ≤ 3 ∧ Went w w' b a len cap p 2 := by
  have hlt := h.lt
  go_enter Try.func41, Try.ntmps41
  go_wp2_with fail
  refine (among _ b a len cap p _ _ _ 0 3 (h.alloc _) p0 p1 (by decide) (by decide) (by omega) (lits w [1, 2, 2, 1, 1, 2, 2, 2, 0, 3] 0 3 (by decide))).mono ?_
  rintro e w1 ⟨x, rfl, x0, x1, hw⟩
  go_wp2_with fail
  go_ret
  exact ⟨_, rfl, x0, x1, hw.alloc⟩

theorem value (w : World) (b : Nat) (a : Option Addr) (len cap : Nat) (p : Int) (h : Cur w b a len cap p) (p0 : 0 ≤ p) (p1 : p ≤ 800000) :
    Calls Try.prog 56 #[.pointer (some ⟨b, 0, none⟩)] w fun e w' => ∃ r : Int, e = .returned (.int .i64 r) ∧ -1 ≤ r ∧ r ≤ 65536 ∧ Went w w' b a len cap p 8 := by
  go_enter Try.func56, Try.ntmps56
  go_wp2_with fail
  refine (one _ b a len cap p 2 h p0 (by omega) (by omega) (by omega)).mono ?_
  rintro e w1 ⟨x, rfl, hg1, q1, q10, q11, hc1⟩
  cases x
  · go_wp2_with fail
    refine (pick _ b a len cap q1 256 hc1 (by omega) (by omega) (by omega) (by omega)).mono ?_
    rintro e w2 ⟨x, rfl, x0, x1, hg2, q2, q20, q21, hc2⟩
    go_wp2_with fail
    refine (pick _ b a len cap q2 2 hc2 (by omega) (by omega) (by omega) (by omega)).mono ?_
    rintro e w3 ⟨y, rfl, y0, y1, hg3, q3, q30, q31, hc3⟩
    obtain rfl | rfl : y = 0 ∨ y = 1 := by omega
    all_goals
      go_wp2_with fail
      refine (pick _ b a len cap q3 256 hc3 (by omega) (by omega) (by omega) (by omega)).mono ?_
      rintro e w4 ⟨z, rfl, z0, z1, hg4, q4, q40, q41, hc4⟩
      go_wp2_with fail
      go_ret
      exact ⟨_, rfl, by omega, by omega, grownBy_trans (grownBy_trans (grownBy_trans hg1 hg2) hg3) hg4, q4, by omega, by omega, hc4⟩
  · have hlt := hc1.lt
    go_wp2_with fail
    refine (among _ b a len cap q1 _ _ _ (-1) 65536 (hc1.alloc _) (by omega) (by omega) (by decide) (by decide) (by omega) (lits w1 [0, 1, 127, 128, 255, 256, 32767, 32768, 65535, 65536, -1] (-1) 65536 (by decide))).mono ?_
    rintro e w2 ⟨x, rfl, x0, x1, hw⟩
    obtain ⟨hg2, q2, q20, q21, hc2⟩ := hw.alloc
    go_wp2_with fail
    go_ret
    exact ⟨_, rfl, x0, x1, grownBy_trans hg1 hg2, q2, by omega, by omega, hc2⟩

theorem fit (w : World) (b : Nat) (a : Option Addr) (len cap : Nat) (p s : Int) (h : Cur w b a len cap p) (p0 : 0 ≤ p) (p1 : p ≤ 700000) :
    Calls Try.prog 42 #[.pointer (some ⟨b, 0, none⟩), .int .i64 s] w fun e w' => ∃ r : Int, e = .returned (.int .i64 r) ∧ -1 ≤ r ∧ r ≤ 65536 ∧ Went w w' b a len cap p 10 := by
  by_cases hs : s = 1
  · subst hs
    go_enter Try.func42, Try.ntmps42
    go_wp2_with fail
    refine (value _ b a len cap p h p0 (by omega)).mono ?_
    rintro e w1 ⟨v, rfl, v0, v1, hg1, q1, q10, q11, hc1⟩
    go_wp2_with fail
    refine (one _ b a len cap q1 20 hc1 (by omega) (by omega) (by omega) (by omega)).mono ?_
    rintro e w2 ⟨x, rfl, hg2, q2, q20, q21, hc2⟩
    have em := Pl.and255 v
    cases x
    all_goals
      go_wp2_with fail
      go_ret
      exact ⟨_, rfl, by omega, by omega, grownBy_trans hg1 hg2, q2, by omega, by omega, hc2⟩
  · have ks : (s == 1) = false := by simpa using hs
    go_enter Try.func42, Try.ntmps42
    go_wp2_with fail
    refine (value _ b a len cap p h p0 (by omega)).mono ?_
    rintro e w1 ⟨v, rfl, v0, v1, hw⟩
    go_wp2_with fail
    go_ret
    exact ⟨_, rfl, v0, v1, hw.more (by omega)⟩

end Go.Proofs.Ytceipklpbnmggaa
