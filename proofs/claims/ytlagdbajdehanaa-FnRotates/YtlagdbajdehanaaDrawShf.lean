/- What the model's draws for chapter 3 answer, of whatever bytes: numbers within their bounds; no block that was there has turned. -/
import Derived.Test.YtlagdbajdehanaaDraw
namespace Go.Proofs.Ytlagdbajdehanaa
open Go.RowKit
set_option linter.unusedVariables false

theorem drawSignedOf (w : World) (a : Option Addr) (len cap : Nat) (h : Bytes w a len) :
    Calls Try.prog 48 #[.slice a len cap] w fun e w' => ∃ s v : Int, e = .returned (.tuple #[.int .i64 s, .int .i64 v]) ∧ -1 ≤ v ∧ v ≤ 65536 ∧ Below w.heap.size w w' := by
  go_enter Try.func48, Try.ntmps48
  go_wp2_with fail
  refine (size _ _ a len cap 0 (h.cur cap) (by omega) (by omega)).mono ?_
  rintro e w1 ⟨s, rfl, s0, s1, hg1, q1, q10, q11, hc1⟩
  go_wp2_with fail
  refine (fit _ _ a len cap q1 s hc1 (by omega) (by omega)).mono ?_
  rintro e w2 ⟨v, rfl, v0, v1, hg2, q2, q20, q21, hc2⟩
  go_wp2_with fail
  go_ret2
  exact ⟨s, v, rfl, v0, v1, below_of (grownBy_trans hg1 hg2)⟩

theorem drawReverseBits (w : World) (a : Option Addr) (len cap : Nat) (h : Bytes w a len) :
    Calls Try.prog 26 #[.slice a len cap] w fun e w' => ∃ s v : Int, e = .returned (.tuple #[.int .i64 s, .int .i64 v]) ∧ -1 ≤ v ∧ v ≤ 65536 ∧ Below w.heap.size w w' := by
  go_enter Try.func26, Try.ntmps26
  go_wp2_with fail
  refine (drawSignedOf _ a len cap h).mono ?_
  rintro e w1 ⟨s, v, rfl, v0, v1, hb⟩
  go_wp2_with fail
  go_ret2
  exact ⟨s, v, rfl, v0, v1, hb⟩

theorem drawIsLeft (w : World) (a : Option Addr) (len cap : Nat) (h : Bytes w a len) :
    Calls Try.prog 19 #[.slice a len cap] w fun e w' => ∃ k : Int, e = .returned (.int .i64 k) ∧ -1 ≤ k ∧ k ≤ 8 ∧ Below w.heap.size w w' := by
  go_enter Try.func19, Try.ntmps19
  go_wp2_with fail
  refine (pick _ _ a len cap 0 10 (h.cur cap) (by omega) (by omega) (by omega) (by omega)).mono ?_
  rintro e w2 ⟨v, rfl, v0, v1, hg2, q2, q20, q21, hc2⟩
  go_wp2_with fail
  go_ret
  exact ⟨_, rfl, by omega, by omega, below_of hg2⟩

theorem drawShiftOnce (w : World) (a : Option Addr) (len cap : Nat) (h : Bytes w a len) :
    Calls Try.prog 17 #[.slice a len cap] w fun e w' => ∃ k s f v : Int, e = .returned (.tuple #[.int .i64 k, .int .i64 s, .int .i64 f, .int .i64 v]) ∧ (0 ≤ k ∧ k ≤ 8 ∧ 0 ≤ s ∧ s ≤ 3 ∧ 0 ≤ f ∧ f ≤ 32 ∧ -1 ≤ v ∧ v ≤ 65536) ∧ Below w.heap.size w w' := by
  go_enter Try.func17, Try.ntmps17
  go_wp2_with fail
  refine (size _ _ a len cap 0 (h.cur cap) (by omega) (by omega)).mono ?_
  rintro e w1 ⟨s, rfl, s0, s1, hg1, q1, q10, q11, hc1⟩
  go_wp2_with fail
  refine (pick _ _ a len cap q1 9 hc1 (by omega) (by omega) (by omega) (by omega)).mono ?_
  rintro e w2 ⟨k, rfl, k0, k1, hg2, q2, q20, q21, hc2⟩
  go_wp2_with fail
  refine (pick _ _ a len cap q2 33 hc2 (by omega) (by omega) (by omega) (by omega)).mono ?_
  rintro e w3 ⟨f, rfl, f0, f1, hg3, q3, q30, q31, hc3⟩
  go_wp2_with fail
  refine (fit _ _ a len cap q3 s hc3 (by omega) (by omega)).mono ?_
  rintro e w4 ⟨v, rfl, v0, v1, hg4, q4, q40, q41, hc4⟩
  go_wp2_with fail
  exact bodyPost_ret (v := .tuple #[.int .i64 k, .int .i64 s, .int .i64 f, .int .i64 v]) (by simp [results, Try.results17, go_sem]) rfl ⟨k, s, f, v, rfl, ⟨k0, by omega, s0, s1, f0, by omega, v0, v1⟩, below_of (grownBy_trans (grownBy_trans (grownBy_trans hg1 hg2) hg3) hg4)⟩

theorem drawShiftBy (w : World) (a : Option Addr) (len cap : Nat) (h : Bytes w a len) :
    Calls Try.prog 11 #[.slice a len cap] w fun e w' => ∃ k s f v n : Int, e = .returned (.tuple #[.int .i64 k, .int .i64 s, .int .i64 f, .int .i64 v, .int .i64 n]) ∧ (0 ≤ k ∧ k ≤ 8 ∧ 0 ≤ s ∧ s ≤ 3 ∧ 0 ≤ f ∧ f ≤ 32 ∧ -1 ≤ v ∧ v ≤ 65536 ∧ -1 ≤ n ∧ n ≤ 64) ∧ Below w.heap.size w w' := by
  go_enter Try.func11, Try.ntmps11
  go_wp2_with fail
  refine (size _ _ a len cap 0 (h.cur cap) (by omega) (by omega)).mono ?_
  rintro e w1 ⟨s, rfl, s0, s1, hg1, q1, q10, q11, hc1⟩
  go_wp2_with fail
  refine (pick _ _ a len cap q1 9 hc1 (by omega) (by omega) (by omega) (by omega)).mono ?_
  rintro e w2 ⟨k, rfl, k0, k1, hg2, q2, q20, q21, hc2⟩
  go_wp2_with fail
  refine (pick _ _ a len cap q2 33 hc2 (by omega) (by omega) (by omega) (by omega)).mono ?_
  rintro e w3 ⟨f, rfl, f0, f1, hg3, q3, q30, q31, hc3⟩
  go_wp2_with fail
  refine (fit _ _ a len cap q3 s hc3 (by omega) (by omega)).mono ?_
  rintro e w4 ⟨v, rfl, v0, v1, hg4, q4, q40, q41, hc4⟩
  have hlt := hc4.lt
  go_wp2_with fail
  refine (among _ _ a len cap q4 _ _ _ (-1) 64 (hc4.alloc _) (by omega) (by omega) (by decide) (by decide) (by omega) (lits w4 [0, 1, 2, 3, 7, 8, 9, 15, 16, 17, 63, 64, -1] (-1) 64 (by decide))).mono ?_
  rintro e w5 ⟨n, rfl, n0, n1, hw⟩
  obtain ⟨hg5, q5, q50, q51, hc5⟩ := hw.alloc
  clear hw
  go_wp2_with fail
  exact bodyPost_ret (v := .tuple #[.int .i64 k, .int .i64 s, .int .i64 f, .int .i64 v, .int .i64 n]) (by simp [results, Try.results11, go_sem]) rfl ⟨k, s, f, v, n, rfl, ⟨k0, by omega, s0, s1, f0, by omega, v0, v1, n0, n1⟩, below_of (grownBy_trans (grownBy_trans (grownBy_trans (grownBy_trans hg1 hg2) hg3) hg4) hg5)⟩

theorem drawRotateBack (w : World) (a : Option Addr) (len cap : Nat) (h : Bytes w a len) :
    Calls Try.prog 22 #[.slice a len cap] w fun e w' => ∃ k s f v n : Int, e = .returned (.tuple #[.int .i64 k, .int .i64 s, .int .i64 f, .int .i64 v, .int .i64 n]) ∧ (0 ≤ k ∧ k ≤ 8 ∧ 0 ≤ s ∧ s ≤ 3 ∧ 0 ≤ f ∧ f ≤ 32 ∧ -1 ≤ v ∧ v ≤ 65536 ∧ -1 ≤ n ∧ n ≤ 64) ∧ Below w.heap.size w w' := by
  go_enter Try.func22, Try.ntmps22
  go_wp2_with fail
  refine (size _ _ a len cap 0 (h.cur cap) (by omega) (by omega)).mono ?_
  rintro e w1 ⟨s, rfl, s0, s1, hg1, q1, q10, q11, hc1⟩
  go_wp2_with fail
  refine (pick _ _ a len cap q1 6 hc1 (by omega) (by omega) (by omega) (by omega)).mono ?_
  rintro e w2 ⟨k, rfl, k0, k1, hg2, q2, q20, q21, hc2⟩
  go_wp2_with fail
  refine (pick _ _ a len cap q2 33 hc2 (by omega) (by omega) (by omega) (by omega)).mono ?_
  rintro e w3 ⟨f, rfl, f0, f1, hg3, q3, q30, q31, hc3⟩
  go_wp2_with fail
  refine (fit _ _ a len cap q3 s hc3 (by omega) (by omega)).mono ?_
  rintro e w4 ⟨v, rfl, v0, v1, hg4, q4, q40, q41, hc4⟩
  have hlt := hc4.lt
  go_wp2_with fail
  refine (among _ _ a len cap q4 _ _ _ 0 64 (hc4.alloc _) (by omega) (by omega) (by decide) (by decide) (by omega) (lits w4 [0, 1, 2, 3, 8, 9, 17, 63, 64] 0 64 (by decide))).mono ?_
  rintro e w5 ⟨n, rfl, n0, n1, hw⟩
  obtain ⟨hg5, q5, q50, q51, hc5⟩ := hw.alloc
  clear hw
  go_wp2_with fail
  exact bodyPost_ret (v := .tuple #[.int .i64 (3 + k), .int .i64 s, .int .i64 f, .int .i64 v, .int .i64 n]) (by simp [results, Try.results22, go_sem]) rfl ⟨3 + k, s, f, v, n, rfl, ⟨by omega, by omega, s0, s1, f0, by omega, v0, v1, by omega, n1⟩, below_of (grownBy_trans (grownBy_trans (grownBy_trans (grownBy_trans hg1 hg2) hg3) hg4) hg5)⟩

end Go.Proofs.Ytlagdbajdehanaa
