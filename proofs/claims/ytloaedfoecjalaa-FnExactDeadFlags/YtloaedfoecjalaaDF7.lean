/- What the program's small functions of chapter 7 answer: tests of modes, the first word, the instruction of two words. What the program's conditions (chapter 8) answer: one contract a function. The condition of a branch. Which kinds of shift go through the kept bit. What the program tells of flags that nobody reads: one contract a function. What the laws' own functions over lists of Ins do (structs of 7 whole numbers, laid one behind the other): compare, copy, mark. A list of n is spoken of as the row of its 7 * n numbers. The first word of an instruction and the instruction of two words, as the program makes them. -/
import Derived.Test.YtloaedfoecjalaaDF6
import Derived.Test.YtloaedfoecjalaaDF1
namespace Go.Proofs.Ytloaedfoecjalaa
open Go.RowKit
set_option linter.unusedVariables false
theorem isMem (m : Int) (w : World) : Calls Try.prog 65 #[iv m] w fun e w' => e = .returned (.bool (Pl.memM m)) ∧ w' = w := by
  by_cases h0 : 2 ≤ m
  · by_cases h1 : m ≤ 6
    · go_enter Try.func65, Try.ntmps65
      go_wp2
      go_ret
      exact ⟨rB (by simp [Pl.memM, Pl.within, h0, h1]), rfl⟩
    · go_enter Try.func65, Try.ntmps65
      go_wp2
      go_ret
      exact ⟨rB (by simp [Pl.memM, Pl.within, h0]; omega), rfl⟩
  · go_enter Try.func65, Try.ntmps65
    go_wp2
    go_ret
    exact ⟨rB (by simp [Pl.memM, Pl.within]; omega), rfl⟩
theorem canTake (m : Int) (w : World) : Calls Try.prog 76 #[iv m] w fun e w' => e = .returned (.bool ((m == 0) || Pl.memM m)) ∧ w' = w := by
  cases h0 : (m == 0)
  · go_enter Try.func76, Try.ntmps76
    go_wp2_with (go_at_call 65; refine (isMem _ _).mono ?_; rintro e w' ⟨rfl, hw⟩; have hw2 := hw.symm; clear hw; subst hw2)
    go_ret
    exact ⟨rB (by simp), rfl⟩
  · go_enter Try.func76, Try.ntmps76
    go_wp2
    go_ret
    exact ⟨rB (by simp), rfl⟩
theorem isPlain (m : Int) (w : World) : Calls Try.prog 77 #[iv m] w fun e w' => e = .returned (.bool (Pl.plainM m)) ∧ w' = w := by
  unfold Pl.plainM
  cases h0 : (m == 2) <;> cases h1 : (m == 5) <;> cases h2 : (m == 6) <;> (
    go_enter Try.func77, Try.ntmps77
    go_wp2
    go_ret
    exact ⟨rB (by simp), rfl⟩)
theorem okv17 (v : Int) : Pl.okv 1 v = Pl.within v 0 255 := by
  unfold Pl.okv Pl.within Pl.top
  rw [Bool.eq_iff_iff]; simp; omega
theorem isByte7 (v : Int) (w : World) (lo : -9223372036854775808 ≤ v) (hi : v ≤ 9223372036854775807) :
    Calls Try.prog 75 #[iv v] w fun e w' => e = .returned (.bool (Pl.within v 0 255)) ∧ w' = w := by
  go_enter Try.func75, Try.ntmps75
  go_wp2_with (go_at_call 85; refine (signedOf _ _ _ lo hi).mono ?_; rintro e w' ⟨rfl, hw⟩; have hw2 := hw.symm; clear hw; subst hw2; rw [okv17])
  go_ret
  exact ⟨rfl, rfl⟩
/-- whether an instruction of this mode has two words -/
def Pl.lng (m : Int) : Bool := Pl.modeOk m && Pl.extM m
theorem isLong (w : World) (op z r m k e s : Int) (wfm : (Lit.int .i64 m).wf = true) : Calls Try.prog 83 #[.agg (inA op z r m k e s)] w fun r' w' => r' = .returned (.bool (Pl.lng m)) ∧ Kept 0 0 w w' := by
  have K0 := hide (kept_alloc w (.cells (inA op z r m k e s) 30))
  go_enter Try.func83, Try.ntmps83
  go_wp2_with (go_at_call 87; refine (implNeedsExt _ m wfm).mono ?_; rintro e' w2 ⟨rfl, k2⟩)
  go_ret
  exact ⟨rfl, K0.out.trans k2⟩
theorem namesStatus (w : World) (op z r m k e s : Int) : Calls Try.prog 86 #[.agg (inA op z r m k e s)] w fun r' w' => r' = .returned (.bool ((r == 0) && Pl.nowO m e)) ∧ Kept 0 0 w w' := by
  have K0 := hide (kept_alloc w (.cells (inA op z r m k e s) 30))
  unfold Pl.nowO
  cases h0 : (r == 0) <;> cases h1 : (m == 7) <;> cases h2 : decide (e ≤ 1023) <;> (
    go_enter Try.func86, Try.ntmps86
    go_wp2
    go_ret
    exact ⟨rB (by simp), K0.out⟩)
theorem fitsSize (w : World) (op z r m k e s : Int) (wfe : (Lit.int .i64 e).wf = true) : Calls Try.prog 57 #[.agg (inA op z r m k e s)] w fun r' w' => r' = .returned (.bool (Pl.fitZ ⟨op, z, r, m, k, e, s⟩)) ∧ Kept 0 0 w w' := by
  have K0 := hide (kept_alloc w (.cells (inA op z r m k e s) 30))
  obtain ⟨lo, hi⟩ := wfB wfe
  unfold Pl.fitZ
  simp only
  cases h0 : (m != 7) <;> cases h1 : (z != 1) <;> cases h2 : Pl.within e 0 255 <;> (
    go_enter Try.func57, Try.ntmps57
    go_wp2_with (go_at_call 75; refine (isByte7 _ _ lo hi).mono ?_; rintro e w' ⟨rfl, hw⟩; have hw2 := hw.symm; clear hw; subst hw2; rw [h2])
    go_ret
    exact ⟨rB (by simp at h0 h1; simp [h0, h1]), K0.out⟩)
end Go.Proofs.Ytloaedfoecjalaa

namespace Go.Proofs.Ytloaedfoecjalaa
open Go.RowKit
set_option linter.unusedVariables false
namespace Pl
/-- does its question ask for both or none? -/
def both (k : Int) : Bool := k - k % 2 == 12 || k - k % 2 == 14
theorem even_of : ∀ k : Nat, k < 16 → (bits .andNot .i64 (k : Int) 1 = 0 ∧ need k = 0 ∧ both k = false) ∨ (bits .andNot .i64 (k : Int) 1 = 2 ∧ need k = 5 ∧ both k = false) ∨ (bits .andNot .i64 (k : Int) 1 = 4 ∧ need k = 1 ∧ both k = false) ∨ (bits .andNot .i64 (k : Int) 1 = 6 ∧ need k = 4 ∧ both k = false) ∨ (bits .andNot .i64 (k : Int) 1 = 8 ∧ need k = 2 ∧ both k = false) ∨ (bits .andNot .i64 (k : Int) 1 = 10 ∧ need k = 8 ∧ both k = false) ∨ (bits .andNot .i64 (k : Int) 1 = 12 ∧ need k = 10 ∧ both k = true) ∨ (bits .andNot .i64 (k : Int) 1 = 14 ∧ need k = 14 ∧ both k = true) := by decide +kernel
end Pl
theorem store_fn (a : Addr) (fn : Fn) (m : Mode) (w : World) : (store a (.func fn #[] #[]) m).run Try.prog w = stored Try.prog w a (.func fn #[] #[]) m := run_store Try.prog w a _ m rfl
theorem evenOf (c : Int) (w : World) : Calls Try.prog 80 #[iv c] w fun e w' => e = .returned (iv (bits .andNot .i64 c 1)) ∧ w' = w := by
  go_enter Try.func80, Try.ntmps80
  go_wp2
  go_ret
  exact ⟨rfl, rfl⟩
def qV (k : Int) : Value := .agg #[iv (Pl.need k), .func (.func (bif Pl.both k then 82 else 81)) #[] #[]]
theorem questionOf (k : Nat) (hk : k < 16) (w : World) : Calls Try.prog 63 #[iv (k : Int)] w fun e w' => e = .returned (qV k) ∧ Kept 0 0 w w' := by
  have hst := store_fn
  rcases Pl.even_of k hk with ⟨hE, hn, hb⟩ | ⟨hE, hn, hb⟩ | ⟨hE, hn, hb⟩ | ⟨hE, hn, hb⟩ | ⟨hE, hn, hb⟩ | ⟨hE, hn, hb⟩ | ⟨hE, hn, hb⟩ | ⟨hE, hn, hb⟩
  all_goals
    unfold qV
    rw [hn, hb]
    clear hn hb
    simp only [cond_true, cond_false]
    go_enter Try.func63, Try.ntmps63
    go_wp2_with (go_at_call 80; refine st (evenOf _ _) ?_; rw [hE])
    refine bodyPost_ret (v := _) ?_ rfl ⟨rfl, ?_⟩
    · rw [results_one rfl]; go_simp
    · exact kept_alloc _ _
theorem looks_of (x : Int) (fn : Fn) (w : World) : (Instr.field 59 (.agg #[iv x, .func fn #[] #[]]) 0).run Try.prog w = .ok (iv x) w := by kernel_rfl
end Go.Proofs.Ytloaedfoecjalaa

namespace Go.Proofs.Ytloaedfoecjalaa
open Go.RowKit
set_option linter.unusedVariables false
theorem condOfBranch (w : World) (op z r m k e s : Int) (r0 : 0 ≤ r) (r1 : r ≤ 3) (s0 : 0 ≤ s) (s1 : s ≤ 7) : Calls Try.prog 64 #[.agg (inA op z r m k e s)] w fun e' w' => e' = .returned (iv (s + 8 * r)) ∧ Kept 0 0 w w' := by
  have K0 := hide (kept_alloc w (.cells (inA op z r m k e s) 30))
  have ew1 : IntKind.i64.wrap (8 * r) = 8 * r := by rw [IntKind.wrap_i64]; omega
  have ew2 : IntKind.i64.wrap (s + 8 * r) = s + 8 * r := by rw [IntKind.wrap_i64]; omega
  go_enter Try.func64, Try.ntmps64
  go_wp2_with fail
  go_ret
  exact ⟨rI (by simp), K0.out⟩
end Go.Proofs.Ytloaedfoecjalaa

namespace Go.Proofs.Ytloaedfoecjalaa
open Go.RowKit
set_option linter.unusedVariables false
def Pl.thr (k : Int) : Bool := (k == 6) || (k == 7)
theorem goesX (k : Int) (w : World) : Calls Try.prog 62 #[iv k] w fun e w' => e = .returned (.bool (Pl.thr k)) ∧ w' = w := by
  by_cases h : k = 6
  all_goals
    go_enter Try.func62, Try.ntmps62
    go_wp2
    go_ret
    exact ⟨rB (by simp [Pl.thr, h]), rfl⟩
end Go.Proofs.Ytloaedfoecjalaa

namespace Go.Proofs.Ytloaedfoecjalaa
open Go.RowKit
set_option linter.unusedVariables false
set_option linter.unusedSimpArgs false
set_option maxHeartbeats 2000000
theorem questionI (k : Int) (w : World) (k0 : 0 ≤ k) (k1 : k ≤ 15) : Calls Try.prog 63 #[iv k] w fun e w' => (∃ fn, e = .returned (.agg #[iv (Pl.need k), .func fn #[] #[]])) ∧ Kept 0 0 w w' := by
  obtain ⟨j, hj, rfl⟩ := Pl.nat_of (n := 16) k0 (by omega)
  refine (questionOf j hj w).mono ?_
  rintro e w' ⟨rfl, h⟩
  exact ⟨⟨_, rfl⟩, h⟩
def Pl.setsF (s : Int) : Int := bif (s == 1) || (s == 3) then 31 else bif (s == 5) || (s == 6) then 15 else 0
theorem setsFlow (s : Int) (w : World) (s0 : 0 ≤ s) (s1 : s ≤ 7) : Calls Try.prog 60 #[iv s] w fun e w' => e = .returned (iv (Pl.setsF s)) ∧ w' = w := by
  obtain rfl | rfl | rfl | rfl | rfl | rfl | rfl | rfl : s = 0 ∨ s = 1 ∨ s = 2 ∨ s = 3 ∨ s = 4 ∨ s = 5 ∨ s = 6 ∨ s = 7 := by omega
  all_goals
    go_enter Try.func60, Try.ntmps60
    go_wp2
    go_ret
    exact ⟨rI (by rfl), rfl⟩
theorem implStr (w : World) (op z r m k e s : Int) (D : Pl.InD ⟨op, z, r, m, k, e, s⟩) : Calls Try.prog 46 #[.agg (inA op z r m k e s)] w fun e' w' => e' = .returned (.bool (Pl.straight ⟨op, z, r, m, k, e, s⟩)) ∧ Kept 0 0 w w' := by
  have K0 := hide (kept_alloc w (.cells (inA op z r m k e s) 30))
  have D0 := hide D
  obtain ⟨o0, o1, s0, s1, r0, r1, s6, s3, s2, r2⟩ := D
  simp only at o0 o1 s0 s1 r0 r1 s6 s3 s2 r2
  by_cases hS : op = 15 ∨ op = 19
  · obtain rfl | rfl | rfl | rfl | rfl | rfl | rfl | rfl : s = 0 ∨ s = 1 ∨ s = 2 ∨ s = 3 ∨ s = 4 ∨ s = 5 ∨ s = 6 ∨ s = 7 := by omega
    all_goals
      rcases hS with rfl | rfl
    all_goals
      first
      | (exfalso; clear D0 K0; omega)
      | skip
    all_goals
      clear s0 s1 s6 s3 s2 o0 o1
      go_enter Try.func46, Try.ntmps46
      go_wp2_with fail
      go_ret
      exact ⟨rB (by rfl), by first | exact K2.out | exact K1.out | exact K0.out | exact kept_drew K0.out⟩
  · have hO : op = 1 ∨ op = 2 ∨ op = 3 ∨ op = 4 ∨ op = 5 ∨ op = 6 ∨ op = 7 ∨ op = 8 ∨ op = 9 ∨ op = 10 ∨ op = 11 ∨ op = 12 ∨ op = 13 ∨ op = 14 ∨ op = 15 ∨ op = 16 ∨ op = 17 ∨ op = 18 ∨ op = 19 := by omega
    clear o0 o1 s6 s3 s2
    rcases hO with rfl | rfl | rfl | rfl | rfl | rfl | rfl | rfl | rfl | rfl | rfl | rfl | rfl | rfl | rfl | rfl | rfl | rfl | rfl
    all_goals
      first
      | (exfalso; clear D0 K0; omega)
      | skip
    all_goals
      have r3 := hide r2
      clear hS r2
      go_enter Try.func46, Try.ntmps46
      go_wp2_with fail
      go_ret
      exact ⟨rB (by rfl), by first | exact K2.out | exact K1.out | exact K0.out | exact kept_drew K0.out⟩
theorem implSets (w : World) (op z r m k e s : Int) (D : Pl.InD ⟨op, z, r, m, k, e, s⟩) : Calls Try.prog 33 #[.agg (inA op z r m k e s)] w fun e' w' => e' = .returned (iv (Pl.sets ⟨op, z, r, m, k, e, s⟩)) ∧ Kept 0 0 w w' := by
  have K0 := hide (kept_alloc w (.cells (inA op z r m k e s) 30))
  have D0 := hide D
  obtain ⟨o0, o1, s0, s1, r0, r1, s6, s3, s2, r2⟩ := D
  simp only at o0 o1 s0 s1 r0 r1 s6 s3 s2 r2
  by_cases hS : op = 11 ∨ op = 12 ∨ op = 15 ∨ op = 19
  · obtain rfl | rfl | rfl | rfl | rfl | rfl | rfl | rfl : s = 0 ∨ s = 1 ∨ s = 2 ∨ s = 3 ∨ s = 4 ∨ s = 5 ∨ s = 6 ∨ s = 7 := by omega
    all_goals
      rcases hS with rfl | rfl | rfl | rfl
    all_goals
      first
      | (exfalso; clear D0 K0; omega)
      | skip
    all_goals
      clear s0 s1 s6 s3 s2 o0 o1
      go_enter Try.func33, Try.ntmps33
      go_wp2_with (first | (go_at_call 59; refine st (flagsIf _ _ _) ?_) | (go_at_call 60; refine st (setsFlow _ _ (by omega) (by omega)) ?_))
      go_ret
      exact ⟨rI (by rfl), by first | exact K2.out | exact K1.out | exact K0.out | exact kept_drew K0.out⟩
  · have hO : op = 1 ∨ op = 2 ∨ op = 3 ∨ op = 4 ∨ op = 5 ∨ op = 6 ∨ op = 7 ∨ op = 8 ∨ op = 9 ∨ op = 10 ∨ op = 11 ∨ op = 12 ∨ op = 13 ∨ op = 14 ∨ op = 15 ∨ op = 16 ∨ op = 17 ∨ op = 18 ∨ op = 19 := by omega
    clear o0 o1 s6 s3 s2
    rcases hO with rfl | rfl | rfl | rfl | rfl | rfl | rfl | rfl | rfl | rfl | rfl | rfl | rfl | rfl | rfl | rfl | rfl | rfl | rfl
    all_goals
      first
      | (exfalso; clear D0 K0; omega)
      | skip
    all_goals
      have r3 := hide r2
      clear hS r2
      go_enter Try.func33, Try.ntmps33
      go_wp2_with (first | (go_at_call 59; refine st (flagsIf _ _ _) ?_) | (go_at_call 60; refine st (setsFlow _ _ (by omega) (by omega)) ?_))
      go_ret
      exact ⟨rI (by rfl), by first | exact K2.out | exact K1.out | exact K0.out | exact kept_drew K0.out⟩
theorem implReads (w : World) (op z r m k e s : Int) (D : Pl.InD ⟨op, z, r, m, k, e, s⟩) : Calls Try.prog 35 #[.agg (inA op z r m k e s)] w fun e' w' => e' = .returned (iv (Pl.reads ⟨op, z, r, m, k, e, s⟩)) ∧ Kept 0 0 w w' := by
  have K0 := hide (kept_alloc w (.cells (inA op z r m k e s) 30))
  have D0 := hide D
  obtain ⟨o0, o1, s0, s1, r0, r1, s6, s3, s2, r2⟩ := D
  simp only at o0 o1 s0 s1 r0 r1 s6 s3 s2 r2
  have hfl := looks_of
  by_cases hS : op = 12 ∨ op = 19
  · obtain rfl | rfl | rfl | rfl | rfl | rfl | rfl | rfl : s = 0 ∨ s = 1 ∨ s = 2 ∨ s = 3 ∨ s = 4 ∨ s = 5 ∨ s = 6 ∨ s = 7 := by omega
    all_goals
      rcases hS with rfl | rfl
    all_goals
      first
      | (exfalso; clear D0 K0; omega)
      | skip
    all_goals
      clear s0 s1 s6 s3 s2 o0 o1
      go_enter Try.func35, Try.ntmps35
      go_wp2_with (first | (go_at_call 59; refine st (flagsIf _ _ _) ?_) | (go_at_call 62; refine st (goesX _ _) ?_) | (go_at_call 64; refine (condOfBranch _ 13 z r m k e s r0 r1 s0 s1).mono ?_; rintro e9 W1 ⟨rfl, k1⟩; have K1 := hide (K0.out.trans k1); clear k1) | (go_at_call 63; refine (questionI (s + 8 * r) _ (by omega) (by have := r3.out (by trivial); omega)).mono ?_; rintro e9 W2 ⟨⟨fn9, rfl⟩, k1⟩; have K2 := hide (K1.out.trans k1); clear k1))
      go_ret
      exact ⟨rI (by rfl), by first | exact K2.out | exact K1.out | exact K0.out | exact kept_drew K0.out⟩
  · have hO : op = 1 ∨ op = 2 ∨ op = 3 ∨ op = 4 ∨ op = 5 ∨ op = 6 ∨ op = 7 ∨ op = 8 ∨ op = 9 ∨ op = 10 ∨ op = 11 ∨ op = 12 ∨ op = 13 ∨ op = 14 ∨ op = 15 ∨ op = 16 ∨ op = 17 ∨ op = 18 ∨ op = 19 := by omega
    clear o0 o1 s6 s3 s2
    rcases hO with rfl | rfl | rfl | rfl | rfl | rfl | rfl | rfl | rfl | rfl | rfl | rfl | rfl | rfl | rfl | rfl | rfl | rfl | rfl
    all_goals
      first
      | (exfalso; clear D0 K0; omega)
      | skip
    all_goals
      have r3 := hide r2
      clear hS r2
      go_enter Try.func35, Try.ntmps35
      go_wp2_with (first | (go_at_call 59; refine st (flagsIf _ _ _) ?_) | (go_at_call 62; refine st (goesX _ _) ?_) | (go_at_call 64; refine (condOfBranch _ 13 z r m k e s r0 r1 s0 s1).mono ?_; rintro e9 W1 ⟨rfl, k1⟩; have K1 := hide (K0.out.trans k1); clear k1) | (go_at_call 63; refine (questionI (s + 8 * r) _ (by omega) (by have := r3.out (by trivial); omega)).mono ?_; rintro e9 W2 ⟨⟨fn9, rfl⟩, k1⟩; have K2 := hide (K1.out.trans k1); clear k1))
      go_ret
      exact ⟨rI (by rfl), by first | exact K2.out | exact K1.out | exact K0.out | exact kept_drew K0.out⟩
theorem implMayWt (w : World) (op z r m k e s : Int) (D : Pl.InD ⟨op, z, r, m, k, e, s⟩) (hm : Pl.memM m = true) : Calls Try.prog 39 #[.agg (inA op z r m k e s)] w fun e' w' => e' = .returned (.bool (Pl.mayW ⟨op, z, r, m, k, e, s⟩)) ∧ Kept 0 0 w w' := by
  have K0 := hide (kept_alloc w (.cells (inA op z r m k e s) 30))
  have D0 := hide D
  obtain ⟨o0, o1, s0, s1, r0, r1, s6, s3, s2, r2⟩ := D
  simp only at o0 o1 s0 s1 r0 r1 s6 s3 s2 r2
  by_cases hS : op = 11 ∨ op = 14
  · obtain rfl | rfl | rfl | rfl | rfl | rfl | rfl | rfl : s = 0 ∨ s = 1 ∨ s = 2 ∨ s = 3 ∨ s = 4 ∨ s = 5 ∨ s = 6 ∨ s = 7 := by omega
    all_goals
      rcases hS with rfl | rfl
    all_goals
      first
      | (exfalso; clear D0 K0; omega)
      | skip
    all_goals
      clear s0 s1 s6 s3 s2 o0 o1
      go_enter Try.func39, Try.ntmps39
      go_wp2_with (first | (go_at_call 65; refine st (isMem _ _) ?_; rw [hm]))
      go_ret
      exact ⟨rB (by simp [Pl.mayW, hm]), by first | exact K2.out | exact K1.out | exact K0.out | exact kept_drew K0.out⟩
  · have hO : op = 1 ∨ op = 2 ∨ op = 3 ∨ op = 4 ∨ op = 5 ∨ op = 6 ∨ op = 7 ∨ op = 8 ∨ op = 9 ∨ op = 10 ∨ op = 11 ∨ op = 12 ∨ op = 13 ∨ op = 14 ∨ op = 15 ∨ op = 16 ∨ op = 17 ∨ op = 18 ∨ op = 19 := by omega
    clear o0 o1 s6 s3 s2
    rcases hO with rfl | rfl | rfl | rfl | rfl | rfl | rfl | rfl | rfl | rfl | rfl | rfl | rfl | rfl | rfl | rfl | rfl | rfl | rfl
    all_goals
      first
      | (exfalso; clear D0 K0; omega)
      | skip
    all_goals
      have r3 := hide r2
      clear hS r2
      go_enter Try.func39, Try.ntmps39
      go_wp2_with (first | (go_at_call 65; refine st (isMem _ _) ?_; rw [hm]))
      go_ret
      exact ⟨rB (by simp [Pl.mayW, hm]), by first | exact K2.out | exact K1.out | exact K0.out | exact kept_drew K0.out⟩
theorem implMayWf (w : World) (op z r m k e s : Int) (D : Pl.InD ⟨op, z, r, m, k, e, s⟩) (hm : Pl.memM m = false) : Calls Try.prog 39 #[.agg (inA op z r m k e s)] w fun e' w' => e' = .returned (.bool (Pl.mayW ⟨op, z, r, m, k, e, s⟩)) ∧ Kept 0 0 w w' := by
  have K0 := hide (kept_alloc w (.cells (inA op z r m k e s) 30))
  have D0 := hide D
  obtain ⟨o0, o1, s0, s1, r0, r1, s6, s3, s2, r2⟩ := D
  simp only at o0 o1 s0 s1 r0 r1 s6 s3 s2 r2
  by_cases hS : op = 11 ∨ op = 14
  · obtain rfl | rfl | rfl | rfl | rfl | rfl | rfl | rfl : s = 0 ∨ s = 1 ∨ s = 2 ∨ s = 3 ∨ s = 4 ∨ s = 5 ∨ s = 6 ∨ s = 7 := by omega
    all_goals
      rcases hS with rfl | rfl
    all_goals
      first
      | (exfalso; clear D0 K0; omega)
      | skip
    all_goals
      clear s0 s1 s6 s3 s2 o0 o1
      go_enter Try.func39, Try.ntmps39
      go_wp2_with (first | (go_at_call 65; refine st (isMem _ _) ?_; rw [hm]))
      go_ret
      exact ⟨rB (by simp [Pl.mayW, hm]), by first | exact K2.out | exact K1.out | exact K0.out | exact kept_drew K0.out⟩
  · have hO : op = 1 ∨ op = 2 ∨ op = 3 ∨ op = 4 ∨ op = 5 ∨ op = 6 ∨ op = 7 ∨ op = 8 ∨ op = 9 ∨ op = 10 ∨ op = 11 ∨ op = 12 ∨ op = 13 ∨ op = 14 ∨ op = 15 ∨ op = 16 ∨ op = 17 ∨ op = 18 ∨ op = 19 := by omega
    clear o0 o1 s6 s3 s2
    rcases hO with rfl | rfl | rfl | rfl | rfl | rfl | rfl | rfl | rfl | rfl | rfl | rfl | rfl | rfl | rfl | rfl | rfl | rfl | rfl
    all_goals
      first
      | (exfalso; clear D0 K0; omega)
      | skip
    all_goals
      have r3 := hide r2
      clear hS r2
      go_enter Try.func39, Try.ntmps39
      go_wp2_with (first | (go_at_call 65; refine st (isMem _ _) ?_; rw [hm]))
      go_ret
      exact ⟨rB (by simp [Pl.mayW, hm]), by first | exact K2.out | exact K1.out | exact K0.out | exact kept_drew K0.out⟩
theorem implMayW (w : World) (op z r m k e s : Int) (D : Pl.InD ⟨op, z, r, m, k, e, s⟩) : Calls Try.prog 39 #[.agg (inA op z r m k e s)] w fun e' w' => e' = .returned (.bool (Pl.mayW ⟨op, z, r, m, k, e, s⟩)) ∧ Kept 0 0 w w' := by
  cases hm : Pl.memM m
  · exact implMayWf w op z r m k e s D hm
  · exact implMayWt w op z r m k e s D hm
theorem implMayF (w : World) (op z r m k e s : Int) (D : Pl.InD ⟨op, z, r, m, k, e, s⟩) : Calls Try.prog 37 #[.agg (inA op z r m k e s)] w fun e' w' => e' = .returned (.bool (Pl.mayF ⟨op, z, r, m, k, e, s⟩)) ∧ Kept 0 0 w w' := by
  have K0 := hide (kept_alloc w (.cells (inA op z r m k e s) 30))
  have D0 := hide D
  obtain ⟨o0, o1, s0, s1, r0, r1, s6, s3, s2, r2⟩ := D
  simp only at o0 o1 s0 s1 r0 r1 s6 s3 s2 r2
  by_cases hS : op = 14 ∨ op = 15 ∨ op = 19
  · obtain rfl | rfl | rfl | rfl | rfl | rfl | rfl | rfl : s = 0 ∨ s = 1 ∨ s = 2 ∨ s = 3 ∨ s = 4 ∨ s = 5 ∨ s = 6 ∨ s = 7 := by omega
    all_goals
      rcases hS with rfl | rfl | rfl
    all_goals
      first
      | (exfalso; clear D0 K0; omega)
      | skip
    all_goals
      clear s0 s1 s6 s3 s2 o0 o1
      go_enter Try.func37, Try.ntmps37
      go_wp2_with (first | (go_at_call 65; refine st (isMem _ _) ?_) | (go_at_call 39; refine (implMayW _ _ _ _ _ _ _ _ D0.out).mono ?_; rintro e9 W1 ⟨rfl, k1⟩; have K1 := hide (K0.out.trans k1); clear k1) | (go_at_call 46; refine (implStr _ _ _ _ _ _ _ _ D0.out).mono ?_; rintro e9 W1 ⟨rfl, k1⟩; have K1 := hide (K0.out.trans k1); clear k1))
      go_ret
      exact ⟨rB (by simp [Pl.mayF, Pl.mayW, Pl.straight]), by first | exact K2.out | exact K1.out | exact K0.out | exact kept_drew K0.out⟩
  · have hO : op = 1 ∨ op = 2 ∨ op = 3 ∨ op = 4 ∨ op = 5 ∨ op = 6 ∨ op = 7 ∨ op = 8 ∨ op = 9 ∨ op = 10 ∨ op = 11 ∨ op = 12 ∨ op = 13 ∨ op = 14 ∨ op = 15 ∨ op = 16 ∨ op = 17 ∨ op = 18 ∨ op = 19 := by omega
    clear o0 o1 s6 s3 s2
    rcases hO with rfl | rfl | rfl | rfl | rfl | rfl | rfl | rfl | rfl | rfl | rfl | rfl | rfl | rfl | rfl | rfl | rfl | rfl | rfl
    all_goals
      first
      | (exfalso; clear D0 K0; omega)
      | skip
    all_goals
      have r3 := hide r2
      clear hS r2
      go_enter Try.func37, Try.ntmps37
      go_wp2_with (first | (go_at_call 65; refine st (isMem _ _) ?_) | (go_at_call 39; refine (implMayW _ _ _ _ _ _ _ _ D0.out).mono ?_; rintro e9 W1 ⟨rfl, k1⟩; have K1 := hide (K0.out.trans k1); clear k1) | (go_at_call 46; refine (implStr _ _ _ _ _ _ _ _ D0.out).mono ?_; rintro e9 W1 ⟨rfl, k1⟩; have K1 := hide (K0.out.trans k1); clear k1))
      go_ret
      exact ⟨rB (by simp [Pl.mayF, Pl.mayW, Pl.straight]), by first | exact K2.out | exact K1.out | exact K0.out | exact kept_drew K0.out⟩
end Go.Proofs.Ytloaedfoecjalaa

namespace Go.Proofs.Ytloaedfoecjalaa
open Go.RowKit
set_option linter.unusedVariables false

theorem IRow.at7 {w : World} {a : Option Addr} {xs : List Int} (h : IRow w a xs) {n k : Nat} (hl : xs.length = 7 * n) (hk : k < n) :
    ∃ g off : Nat, a = some ⟨g, off, none⟩ ∧ w.cell? ⟨g, off + k * 7, none⟩ = some (.int .i64 (el xs (k * 7))) ∧ w.cell? ⟨g, off + k * 7 + 1, none⟩ = some (.int .i64 (el xs (k * 7 + 1))) ∧ w.cell? ⟨g, off + k * 7 + 2, none⟩ = some (.int .i64 (el xs (k * 7 + 2))) ∧ w.cell? ⟨g, off + k * 7 + 3, none⟩ = some (.int .i64 (el xs (k * 7 + 3))) ∧ w.cell? ⟨g, off + k * 7 + 4, none⟩ = some (.int .i64 (el xs (k * 7 + 4))) ∧ w.cell? ⟨g, off + k * 7 + 5, none⟩ = some (.int .i64 (el xs (k * 7 + 5))) ∧ w.cell? ⟨g, off + k * 7 + 6, none⟩ = some (.int .i64 (el xs (k * 7 + 6))) := by
  obtain ⟨g, off, ea, c0⟩ := h (k * 7) (by omega)
  have pick : ∀ j, j < 7 → w.cell? ⟨g, off + k * 7 + j, none⟩ = some (.int .i64 (el xs (k * 7 + j))) := by
    intro j hj
    obtain ⟨g', off', ea', c⟩ := h (k * 7 + j) (by omega)
    rw [ea] at ea'
    cases ea'
    rw [Nat.add_assoc]; exact c
  exact ⟨g, off, ea, c0, pick 1 (by decide), pick 2 (by decide), pick 3 (by decide), pick 4 (by decide), pick 5 (by decide), pick 6 (by decide)⟩

theorem Own.at7 {w : World} {g : Nat} {xs : List Int} (h : Own w g xs) {n k : Nat} (hl : xs.length = 7 * n) (hk : k < n) :
    (w.cell? ⟨g, k * 7, none⟩ = some (.int .i64 (el xs (k * 7))) ∧ w.cell? ⟨g, k * 7 + 1, none⟩ = some (.int .i64 (el xs (k * 7 + 1))) ∧ w.cell? ⟨g, k * 7 + 2, none⟩ = some (.int .i64 (el xs (k * 7 + 2))) ∧ w.cell? ⟨g, k * 7 + 3, none⟩ = some (.int .i64 (el xs (k * 7 + 3))) ∧ w.cell? ⟨g, k * 7 + 4, none⟩ = some (.int .i64 (el xs (k * 7 + 4))) ∧ w.cell? ⟨g, k * 7 + 5, none⟩ = some (.int .i64 (el xs (k * 7 + 5))) ∧ w.cell? ⟨g, k * 7 + 6, none⟩ = some (.int .i64 (el xs (k * 7 + 6)))) ∧ w.frozen? ⟨g, k * 7, none⟩ = false ∧ w.frozen? ⟨g, k * 7 + 1, none⟩ = false ∧ w.frozen? ⟨g, k * 7 + 2, none⟩ = false ∧ w.frozen? ⟨g, k * 7 + 3, none⟩ = false ∧ w.frozen? ⟨g, k * 7 + 4, none⟩ = false ∧ w.frozen? ⟨g, k * 7 + 5, none⟩ = false ∧ w.frozen? ⟨g, k * 7 + 6, none⟩ = false :=
  ⟨⟨(h (k * 7) (by omega)).1, (h (k * 7 + 1) (by omega)).1, (h (k * 7 + 2) (by omega)).1, (h (k * 7 + 3) (by omega)).1, (h (k * 7 + 4) (by omega)).1, (h (k * 7 + 5) (by omega)).1, (h (k * 7 + 6) (by omega)).1⟩, (h (k * 7) (by omega)).2, (h (k * 7 + 1) (by omega)).2, (h (k * 7 + 2) (by omega)).2, (h (k * 7 + 3) (by omega)).2, (h (k * 7 + 4) (by omega)).2, (h (k * 7 + 5) (by omega)).2, (h (k * 7 + 6) (by omega)).2⟩

theorem snoc7 {p : Nat → Prop} {k : Nat} (h : ∀ i, i < k * 7 → p i) (h0 : p (k * 7)) (h1 : p (k * 7 + 1)) (h2 : p (k * 7 + 2)) (h3 : p (k * 7 + 3)) (h4 : p (k * 7 + 4)) (h5 : p (k * 7 + 5)) (h6 : p (k * 7 + 6)) : ∀ i, i < (k + 1) * 7 → p i := by
  intro i hi
  by_cases e : i < k * 7
  · exact h i e
  · obtain rfl | rfl | rfl | rfl | rfl | rfl | rfl : i = k * 7 ∨ i = k * 7 + 1 ∨ i = k * 7 + 2 ∨ i = k * 7 + 3 ∨ i = k * 7 + 4 ∨ i = k * 7 + 5 ∨ i = k * 7 + 6 := by omega
    all_goals assumption

/-- 7 places of a row, written -/
def set7 (xs : List Int) (k : Nat) (a b c d e f x : Int) : List Int := (((((((xs.set (k * 7) a).set (k * 7 + 1) b).set (k * 7 + 2) c).set (k * 7 + 3) d).set (k * 7 + 4) e).set (k * 7 + 5) f).set (k * 7 + 6) x)
theorem set7_len (xs : List Int) (k : Nat) (a b c d e f x : Int) : (set7 xs k a b c d e f x).length = xs.length := by simp [set7]
theorem set7_old {xs : List Int} {k : Nat} {a b c d e f x : Int} {i : Nat} (h : i < k * 7) : el (set7 xs k a b c d e f x) i = el xs i := by
  unfold el set7
  rw [List.getElem?_set_ne (by omega), List.getElem?_set_ne (by omega), List.getElem?_set_ne (by omega), List.getElem?_set_ne (by omega), List.getElem?_set_ne (by omega), List.getElem?_set_ne (by omega), List.getElem?_set_ne (by omega)]

theorem set7_new {xs : List Int} {k : Nat} {a b c d e f x : Int} (h : k * 7 + 6 < xs.length) : el (set7 xs k a b c d e f x) (k * 7) = a ∧ el (set7 xs k a b c d e f x) (k * 7 + 1) = b ∧ el (set7 xs k a b c d e f x) (k * 7 + 2) = c ∧ el (set7 xs k a b c d e f x) (k * 7 + 3) = d ∧ el (set7 xs k a b c d e f x) (k * 7 + 4) = e ∧ el (set7 xs k a b c d e f x) (k * 7 + 5) = f ∧ el (set7 xs k a b c d e f x) (k * 7 + 6) = x := by
  unfold el set7
  refine ⟨?_, ?_, ?_, ?_, ?_, ?_, ?_⟩
  · rw [List.getElem?_set_ne (by omega), List.getElem?_set_ne (by omega), List.getElem?_set_ne (by omega), List.getElem?_set_ne (by omega), List.getElem?_set_ne (by omega), List.getElem?_set_ne (by omega), List.getElem?_set_self (by omega)]; rfl
  · rw [List.getElem?_set_ne (by omega), List.getElem?_set_ne (by omega), List.getElem?_set_ne (by omega), List.getElem?_set_ne (by omega), List.getElem?_set_ne (by omega), List.getElem?_set_self (by simp; omega)]; rfl
  · rw [List.getElem?_set_ne (by omega), List.getElem?_set_ne (by omega), List.getElem?_set_ne (by omega), List.getElem?_set_ne (by omega), List.getElem?_set_self (by simp; omega)]; rfl
  · rw [List.getElem?_set_ne (by omega), List.getElem?_set_ne (by omega), List.getElem?_set_ne (by omega), List.getElem?_set_self (by simp; omega)]; rfl
  · rw [List.getElem?_set_ne (by omega), List.getElem?_set_ne (by omega), List.getElem?_set_self (by simp; omega)]; rfl
  · rw [List.getElem?_set_ne (by omega), List.getElem?_set_self (by simp; omega)]; rfl
  · rw [List.getElem?_set_self (by simp; omega)]; rfl

theorem Own.set7 {w : World} {g : Nat} {xs : List Int} (h : Own w g xs) (k : Nat) (a b c d e f x : Int) :
    Own (((((((w.setCell ⟨g, k * 7, none⟩ (.int .i64 a)).setCell ⟨g, k * 7 + 1, none⟩ (.int .i64 b)).setCell ⟨g, k * 7 + 2, none⟩ (.int .i64 c)).setCell ⟨g, k * 7 + 3, none⟩ (.int .i64 d)).setCell ⟨g, k * 7 + 4, none⟩ (.int .i64 e)).setCell ⟨g, k * 7 + 5, none⟩ (.int .i64 f)).setCell ⟨g, k * 7 + 6, none⟩ (.int .i64 x)) g (set7 xs k a b c d e f x) := (((((((h.set a).set b).set c).set d).set e).set f).set x)

theorem grown_set7 {w wr : World} {g : Nat} {row : Option Nat} (h : w.grownBy wr row) (hr : row = some g ∨ w.heap.size ≤ g) (k0 k1 k2 k3 k4 k5 k6 : Nat) (v0 v1 v2 v3 v4 v5 v6 : Value) :
    w.grownBy (((((((wr.setCell ⟨g, k0, none⟩ v0).setCell ⟨g, k1, none⟩ v1).setCell ⟨g, k2, none⟩ v2).setCell ⟨g, k3, none⟩ v3).setCell ⟨g, k4, none⟩ v4).setCell ⟨g, k5, none⟩ v5).setCell ⟨g, k6, none⟩ v6) row := by
  have one : ∀ {wx : World} (k : Nat) (v : Value), w.grownBy wx row → w.grownBy (wx.setCell ⟨g, k, none⟩ v) row := fun {wx} k v hx =>
    ⟨hx.os, hx.tape, hx.output, by simpa using hx.size, fun j hj hne => (Below.heap_setCell _ _ _ _ (by
      rcases hr with rfl | hr
      · intro q; apply hne; rw [q]
      · simp; omega)).trans (hx.block j hj hne)⟩
  exact (one _ _ (one _ _ (one _ _ (one _ _ (one _ _ (one _ _ (one _ _ h)))))))
theorem el_marks7 (q : Int) (n i : Nat) (h : i < n) : el (marks q n) i = q + (i : Int) := marks_at q n i h

theorem eqOpnd (d e f : Int) (w : World) :
    Calls Try.prog 67 #[.agg #[.int .i64 d, .int .i64 e, .int .i64 f], .agg #[.int .i64 d, .int .i64 e, .int .i64 f]] w fun r w' => r = .returned (.bool true) ∧ ∃ o1 o2, w' = (w.alloc o1).alloc o2 := by
  go_enter Try.func67, Try.ntmps67
  go_wp2
  go_ret
  exact ⟨rfl, _, _, rfl⟩
theorem eqIns (a b c d e f x : Int) (w : World) :
    Calls Try.prog 44 #[.agg #[.int .i64 a, .int .i64 b, .int .i64 c, .int .i64 d, .int .i64 e, .int .i64 f, .int .i64 x], .agg #[.int .i64 a, .int .i64 b, .int .i64 c, .int .i64 d, .int .i64 e, .int .i64 f, .int .i64 x]] w fun r w' => r = .returned (.bool true) ∧ ∃ o1 o2 o3 o4, w' = (((w.alloc o1).alloc o2).alloc o3).alloc o4 := by
  go_enter Try.func44, Try.ntmps44
  go_wp2_with (first | (go_at_call 67; refine (eqOpnd d e f _).mono ?_; rintro r9 w' ⟨rfl, o3, o4, rfl⟩))
  go_ret
  exact ⟨rfl, _, _, _, _, rfl⟩

set_option maxHeartbeats 2000000 in
theorem eqInsS (w : World) (a b : Option Addr) (ca cb n : Nat) (xs : List Int) (ha : IRow w a xs) (hb : IRow w b xs) (lx : xs.length = 7 * n) (bx : n ≤ 2000000) :
    Calls Try.prog 23 #[.slice a n ca, .slice b n cb] w fun e w' => e = .returned (.bool true) ∧ w.grownBy w' none := by
  have HX := hide lx
  clear lx
  go_enter Try.func23, Try.ntmps23
  go_wp2
  go_loopw [5] (fun j wr => ∃ k : Nat, k ≤ n ∧ j = .int .i64 k ∧ w.grownBy wr none) (fun j _ => n - (intOf j).toNat)
  case atStart => exact ⟨0, Nat.zero_le _, rfl, World.grownBy.refl _ _⟩
  case round =>
    obtain ⟨k, hk, rfl, hg⟩ := hrel
    by_cases hlt : k < n
    · obtain ⟨g1, o1, rfl, p0, p1, p2, p3, p4, p5, p6⟩ := (ha.kept hg).at7 HX.out hlt
      obtain ⟨g2, o2, rfl, q0, q1, q2, q3, q4, q5, q6⟩ := (hb.kept hg).at7 HX.out hlt
      clear ha hb
      go_wp2
      go_region_with (go_at_call 44; refine (eqIns _ _ _ _ _ _ _ _).mono ?_; rintro e w' ⟨rfl, o5, o6, o7, o8, rfl⟩)
      all_goals
        go_wp2
        go_roundw
        case rel => exact ⟨k + 1, by omega, by go_num, grownBy_drew (grownBy_alloc (grownBy_alloc (grownBy_alloc (grownBy_alloc hg _) _) _) _)⟩
        case measure => simp [intOf]; omega
    · go_wp2
      go_ret
      exact ⟨rfl, hg⟩
theorem toOpnd (d e f : Int) (w : World) :
    Calls Try.prog 31 #[.agg #[.int .i64 d, .int .i64 e, .int .i64 f]] w fun r w' => r = .returned (.agg #[.int .i64 d, .int .i64 e, .int .i64 f]) ∧ Kept 0 0 w w' := by
  go_enter Try.func31, Try.ntmps31
  go_wp2
  refine bodyPost_ret (v := .agg #[.int .i64 d, .int .i64 e, .int .i64 f]) ?_ rfl ⟨rfl, kept_new (kept_new (kept_alloc w _) _) _⟩
  rw [results_one rfl]; go_simp
theorem toIns (a b c d e f x : Int) (w : World) :
    Calls Try.prog 10 #[.agg #[.int .i64 a, .int .i64 b, .int .i64 c, .int .i64 d, .int .i64 e, .int .i64 f, .int .i64 x]] w fun r w' => r = .returned (.agg #[.int .i64 a, .int .i64 b, .int .i64 c, .int .i64 d, .int .i64 e, .int .i64 f, .int .i64 x]) ∧ Kept 0 0 w w' := by
  have K0 := hide (kept_new (kept_new (kept_alloc w (.cells #[.int .i64 a, .int .i64 b, .int .i64 c, .int .i64 d, .int .i64 e, .int .i64 f, .int .i64 x] 25)) (.cells #[.int .i64 0, .int .i64 0, .int .i64 0, .int .i64 0, .int .i64 0, .int .i64 0, .int .i64 0] 30)) (.cells #[.int .i64 a, .int .i64 b, .int .i64 c, .int .i64 0, .int .i64 0, .int .i64 0, .int .i64 0] 30))
  have P0 := hide (((Blk.new w #[.int .i64 a, .int .i64 b, .int .i64 c, .int .i64 d, .int .i64 e, .int .i64 f, .int .i64 x] 25).alloc (.cells #[.int .i64 0, .int .i64 0, .int .i64 0, .int .i64 0, .int .i64 0, .int .i64 0, .int .i64 0] 30)).alloc (.cells #[.int .i64 a, .int .i64 b, .int .i64 c, .int .i64 0, .int .i64 0, .int .i64 0, .int .i64 0] 30))
  have R0 := (Blk.new (w.alloc (.cells #[.int .i64 a, .int .i64 b, .int .i64 c, .int .i64 d, .int .i64 e, .int .i64 f, .int .i64 x] 25)) #[.int .i64 0, .int .i64 0, .int .i64 0, .int .i64 0, .int .i64 0, .int .i64 0, .int .i64 0] 30).alloc (.cells #[.int .i64 a, .int .i64 b, .int .i64 c, .int .i64 0, .int .i64 0, .int .i64 0, .int .i64 0] 30)
  have X0 := Blk.new ((w.alloc (.cells #[.int .i64 a, .int .i64 b, .int .i64 c, .int .i64 d, .int .i64 e, .int .i64 f, .int .i64 x] 25)).alloc (.cells #[.int .i64 0, .int .i64 0, .int .i64 0, .int .i64 0, .int .i64 0, .int .i64 0, .int .i64 0] 30)) #[.int .i64 a, .int .i64 b, .int .i64 c, .int .i64 0, .int .i64 0, .int .i64 0, .int .i64 0] 30
  simp only [World.size_alloc] at R0 X0
  replace R0 := hide R0
  replace X0 := hide X0
  go_enter Try.func10, Try.ntmps10
  go_wp2_with (first | (go_at_call 31; refine (toOpnd d e f _).mono ?_; rintro r9 w2 ⟨rfl, k2⟩; have P2 := hide (P0.out.kept0 k2); have R2 := hide (R0.out.kept0 k2); have X2 := hide (X0.out.kept0 k2); have K2 := hide (K0.out.trans k2); have p0 := P2.out.cell (i := 0) rfl; have p1 := P2.out.cell (i := 1) rfl; have p2 := P2.out.cell (i := 2) rfl; have p3 := P2.out.cell (i := 3) rfl; have p4 := P2.out.cell (i := 4) rfl; have p5 := P2.out.cell (i := 5) rfl; have p6 := P2.out.cell (i := 6) rfl; have r0 := R2.out.cell (i := 0) rfl; have fr0 := R2.out.frozen 0; have r1 := R2.out.cell (i := 1) rfl; have fr1 := R2.out.frozen 1; have r2 := R2.out.cell (i := 2) rfl; have fr2 := R2.out.frozen 2; have r3 := R2.out.cell (i := 3) rfl; have fr3 := R2.out.frozen 3; have r4 := R2.out.cell (i := 4) rfl; have fr4 := R2.out.frozen 4; have r5 := R2.out.cell (i := 5) rfl; have fr5 := R2.out.frozen 5; have r6 := R2.out.cell (i := 6) rfl; have fr6 := R2.out.frozen 6; have y0 := X2.out.cell (i := 0) rfl; have fy0 := X2.out.frozen 0; have y1 := X2.out.cell (i := 1) rfl; have fy1 := X2.out.frozen 1; have y2 := X2.out.cell (i := 2) rfl; have fy2 := X2.out.frozen 2; have y3 := X2.out.cell (i := 3) rfl; have fy3 := X2.out.frozen 3; have y4 := X2.out.cell (i := 4) rfl; have fy4 := X2.out.frozen 4; have y5 := X2.out.cell (i := 5) rfl; have fy5 := X2.out.frozen 5; have y6 := X2.out.cell (i := 6) rfl; have fy6 := X2.out.frozen 6; have s2 := X2.out.lt; clear k2))
  refine bodyPost_ret (v := .agg #[.int .i64 a, .int .i64 b, .int .i64 c, .int .i64 d, .int .i64 e, .int .i64 f, .int .i64 x]) ?_ rfl ⟨rfl, ?_⟩
  · rw [results_one rfl]; go_simp
  · exact (kept_set (kept_set (kept_set (kept_set (kept_set (kept_set (kept_set (kept_set (kept_set (kept_set (kept_set K2.out _ _ _ (.inr (by omega))) _ _ _ (.inr (by omega))) _ _ _ (.inr (by omega))) _ _ _ (.inr (by omega))) _ _ _ (.inr (by omega))) _ _ _ (.inr (by omega))) _ _ _ (.inr (by omega))) _ _ _ (.inr (by omega))) _ _ _ (.inr (by omega))) _ _ _ (.inr (by omega))) _ _ _ (.inr (by omega)))
theorem Try.infoIns : (Try.prog.info? 30).map (fun i => (i.zero, i.size, i.bytes)) = some (some (.agg #[.int .i64 0, .int .i64 0, .int .i64 0, .int .i64 0, .int .i64 0, .int .i64 0, .int .i64 0]), 7, 56) := by kernel_rfl
theorem made7 (n : Nat) : (madeCells (Value.agg #[.int .i64 0, .int .i64 0, .int .i64 0, .int .i64 0, .int .i64 0, .int .i64 0, .int .i64 0]).cells (n * 7)).toList = (List.replicate (7 * n) (0 : Int)).map (Value.int .i64) := by
  have hz : ∀ j, j < 7 → (Value.agg #[.int .i64 0, .int .i64 0, .int .i64 0, .int .i64 0, .int .i64 0, .int .i64 0, .int .i64 0]).cells[j]! = .int .i64 0 := by
    intro j hj
    obtain rfl | rfl | rfl | rfl | rfl | rfl | rfl : j = 0 ∨ j = 1 ∨ j = 2 ∨ j = 3 ∨ j = 4 ∨ j = 5 ∨ j = 6 := by omega
    all_goals rfl
  have hs : (Value.agg #[.int .i64 0, .int .i64 0, .int .i64 0, .int .i64 0, .int .i64 0, .int .i64 0, .int .i64 0]).cells.size = 7 := rfl
  apply List.ext_getElem
  · simp [size_madeCells]; omega
  · intro i h1 h2
    simp only [madeCells, hs, Array.toList_map, List.getElem_map, List.getElem_replicate]
    exact hz _ (Nat.mod_lt _ (by decide))
theorem own_of_row7 {w : World} {base g n cap : Nat} {xs : List Int} (h : w.ownsRow base 30 7 (.slice (some ⟨g, 0, none⟩) n cap) n (xs.map (Value.int .i64))) : Own w g xs := by
  intro i hi
  rcases h with ⟨hl, ⟨e, _⟩ | ⟨g', cap', cur, e, _, hgg, hn, _, hsz, ht⟩⟩
  · cases e
  · cases e
    simp at hl
    have hc : cur[i]? = some (.int .i64 (xs[i]?.getD 0)) := by
      have : (cur.toList.take (n * 7))[i]? = (xs.map (Value.int .i64))[i]? := by rw [ht]
      rw [List.getElem?_take, if_pos (by omega)] at this
      simpa [hi] using this
    refine ⟨?_, ?_⟩
    · simp [World.cell?, hgg, hc]
    · simp [World.frozen?, hgg]

set_option maxHeartbeats 2000000 in
theorem toInsS (w : World) (a : Option Addr) (ca n : Nat) (xs : List Int) (ha : IRow w a xs) (lx : xs.length = 7 * n) (bx : n ≤ 2000000) :
    Calls Try.prog 20 #[.slice a n ca] w fun e w' => e = .returned (.slice (some ⟨w.heap.size, 0, none⟩) n n) ∧ Own w' w.heap.size xs ∧ w.heap.size < w'.heap.size ∧ w.grownBy w' none := by
  obtain ⟨i, hi, hz0, hz1, hz2⟩ := info_parts Try.infoIns
  have HX := hide lx
  clear lx
  go_enter Try.func20, Try.ntmps20
  go_wp2_with (first | (at_make; refine wpList_make_full _ rfl _ _ 40 rfl w.heap.size 30 i (.agg #[.int .i64 0, .int .i64 0, .int .i64 0, .int .i64 0, .int .i64 0, .int .i64 0, .int .i64 0]) 7 Try.underlying40 hi hz0 hz1 _ _ _ _ n rfl rfl rfl rfl ?c1 ?c2 ?c3 ?_))
  case c1 => rw [hz2]; omega
  case c2 => unfold maxLen; omega
  case c3 => exact Nat.le_refl _
  intro w1 hown hg
  have ho : Own w1 w.heap.size (List.replicate (7 * n) 0) := own_of_row7 (base := w.heap.size) (n := n) (cap := n) (by rw [← made7]; exact hown)
  have hs : w.heap.size < w1.heap.size := (hown.lt _ rfl).2
  clear hown
  go_wp2
  go_loopw [4] (fun j wr => ∃ (k : Nat) (zs : List Int), k ≤ n ∧ j = .int .i64 k ∧ zs.length = 7 * n ∧ Own wr w.heap.size zs ∧ (∀ i, i < k * 7 → el zs i = el xs i) ∧ w.heap.size < wr.heap.size ∧ w.grownBy wr none) (fun j _ => n - (intOf j).toNat)
  case atStart => exact ⟨0, _, Nat.zero_le _, rfl, by simp, ho, fun i hi => absurd hi (by omega), hs, hg⟩
  case round =>
    obtain ⟨k, zs, hk, rfl, hl, hown, heq, hsz, hgr⟩ := hrel
    have HE := hide heq
    have HL := hide hl
    have HO := hide hown
    have HS := hide hsz
    clear heq hl
    by_cases hlt : k < n
    · obtain ⟨g1, o1, rfl, p0, p1, p2, p3, p4, p5, p6⟩ := (ha.kept hgr).at7 HX.out hlt
      clear ha hown hsz
      go_wp2_with fail
      refine (toIns _ _ _ _ _ _ _ _).mono ?_
      rintro e X ⟨rfl, kX⟩
      have hx : wr.grownBy X none := kX.grown
      have HX2 : Hid (w.grownBy X none) := hide (grownBy_trans hgr hx)
      have HO2 := hide (HO.out.kept hx (by simp))
      have HS2 : Hid (w.heap.size < X.heap.size) := hide (Nat.lt_of_lt_of_le HS.out hx.size)
      clear kX hx p0 p1 p2 p3 p4 p5 p6 hgr
      obtain ⟨⟨c0, c1, c2, c3, c4, c5, c6⟩, f0, f1, f2, f3, f4, f5, f6⟩ := HO2.out.at7 HL.out hlt
      go_wp2_with fail
      go_roundw
      case rel =>
        have hk4 : k * 7 + 6 < zs.length := by have := HL.out; omega
        obtain ⟨n0, n1, n2, n3, n4, n5, n6⟩ := set7_new (a := el xs (k * 7)) (b := el xs (k * 7 + 1)) (c := el xs (k * 7 + 2)) (d := el xs (k * 7 + 3)) (e := el xs (k * 7 + 4)) (f := el xs (k * 7 + 5)) (x := el xs (k * 7 + 6)) hk4
        exact ⟨k + 1, set7 zs k _ _ _ _ _ _ _, by omega, by go_num, by rw [set7_len]; exact HL.out, HO2.out.set7 k _ _ _ _ _ _ _, snoc7 (fun i hi => (set7_old hi).trans (HE.out i hi)) n0 n1 n2 n3 n4 n5 n6, by simpa using HS2.out, grown_set7 HX2.out (.inr (Nat.le_refl _)) _ _ _ _ _ _ _ _ _ _ _ _ _ _⟩
      case measure => simp [intOf]; omega
    · clear hown hsz
      go_wp2
      go_ret
      have e : zs = xs := ext_of (HL.out.trans HX.out.symm) (fun i hi => HE.out i (by have := HL.out; omega))
      exact ⟨rfl, by rw [← e]; exact HO.out, HS.out, hgr⟩

set_option maxHeartbeats 2000000 in
theorem markInsS (w : World) (g ca n : Nat) (xs : List Int) (q : Int) (ha : Own w g xs) (lx : xs.length = 7 * n) (bx : n ≤ 2000000) (q0 : 0 ≤ q) (q1 : q ≤ 100000000) :
    Calls Try.prog 24 #[.slice (some ⟨g, 0, none⟩) n ca, .int .i64 q] w fun e w' => e = .returned (.int .i64 (q + 7 * (n : Int))) ∧ Own w' g (marks q (7 * n)) ∧ w.grownBy w' (some g) := by
  have HX := hide lx
  clear lx
  go_enter Try.func24, Try.ntmps24
  go_wp2
  go_loopw [1, 5] (fun m j wr => ∃ (k : Nat) (zs : List Int), k ≤ n ∧ j = .int .i64 k ∧ m = .int .i64 (q + 7 * (k : Int)) ∧ zs.length = 7 * n ∧ Own wr g zs ∧ (∀ i, i < k * 7 → el zs i = q + (i : Int)) ∧ w.grownBy wr (some g)) (fun _ j _ => n - (intOf j).toNat)
  case atStart => exact ⟨0, xs, Nat.zero_le _, rfl, by simp, HX.out, ha, fun i hi => absurd hi (by omega), World.grownBy.refl _ _⟩
  case round =>
    obtain ⟨k, zs, hk, rfl, rfl, hl, hown, heq, hgr⟩ := hrel
    have HE := hide heq
    have HL := hide hl
    have HO := hide hown
    have HG := hide hgr
    clear heq hl hgr ha
    by_cases hlt : k < n
    · obtain ⟨⟨c0, c1, c2, c3, c4, c5, c6⟩, f0, f1, f2, f3, f4, f5, f6⟩ := hown.at7 HL.out hlt
      clear hown
      go_wp2
      go_roundw
      case rel =>
        have hk4 : k * 7 + 6 < zs.length := by have := HL.out; omega
        obtain ⟨n0, n1, n2, n3, n4, n5, n6⟩ := set7_new (a := q + 7 * (k : Int)) (b := q + 7 * (k : Int) + 1) (c := q + 7 * (k : Int) + 1 + 1) (d := q + 7 * (k : Int) + 1 + 1 + 1) (e := q + 7 * (k : Int) + 1 + 1 + 1 + 1) (f := q + 7 * (k : Int) + 1 + 1 + 1 + 1 + 1) (x := q + 7 * (k : Int) + 1 + 1 + 1 + 1 + 1 + 1) hk4
        exact ⟨k + 1, set7 zs k _ _ _ _ _ _ _, by omega, by go_num, by rw [show q + 7 * (k : Int) + 1 + 1 + 1 + 1 + 1 + 1 + 1 = q + 7 * ((k + 1 : Nat) : Int) from by omega], by rw [set7_len]; exact HL.out, HO.out.set7 k _ _ _ _ _ _ _,
          snoc7 (fun i hi => (set7_old hi).trans (HE.out i hi)) (by rw [n0]; omega) (by rw [n1]; omega) (by rw [n2]; omega) (by rw [n3]; omega) (by rw [n4]; omega) (by rw [n5]; omega) (by rw [n6]; omega), grown_set7 HG.out (.inl rfl) _ _ _ _ _ _ _ _ _ _ _ _ _ _⟩
      case measure => simp [intOf]; omega
    · clear hown
      obtain rfl : k = n := by omega
      go_wp2
      go_ret
      have e : zs = marks q (7 * k) := ext_of (by rw [marks_len]; exact HL.out) (fun i hi => by
        have := HL.out
        exact (HE.out i (by omega)).trans (el_marks7 q _ i (by omega)).symm)
      exact ⟨rfl, by rw [← e]; exact HO.out, HG.out⟩
end Go.Proofs.Ytloaedfoecjalaa

namespace Go.Proofs.Ytloaedfoecjalaa
open Go.RowKit
set_option linter.unusedVariables false
theorem wrapQ (a : Int) : ∃ q : Int, wrap64 a = a + 18446744073709551616 * q := by
  refine ⟨-((a + 9223372036854775808) / 18446744073709551616), ?_⟩
  unfold wrap64
  omega
theorem firstWord (w : World) (op z r m k e s : Int) : Calls Try.prog 71 #[.agg (inA op z r m k e s)] w fun r' w' => r' = .returned (iv (Pl.word1 ⟨op, z, r, m, k, e, s⟩ % 65536)) ∧ Kept 0 0 w w' := by
  have K0 := hide (kept_alloc w (.cells (inA op z r m k e s) 30))
  go_enter Try.func71, Try.ntmps71
  go_wp2_with (go_at_call 84; refine (wrapWord _ _).mono ?_; rintro e' w2 ⟨rfl, hw⟩; have hw2 := hw.symm; clear hw; subst hw2)
  go_ret
  refine ⟨rI ?_, K0.out⟩
  unfold Pl.word1
  simp only
  obtain ⟨q1, e1⟩ := wrapQ (op * 2048)
  obtain ⟨q2, e2⟩ := wrapQ (z - 1)
  obtain ⟨q3, e3⟩ := wrapQ (wrap64 (z - 1) * 1024)
  obtain ⟨q4, e4⟩ := wrapQ (wrap64 (op * 2048) + wrap64 (wrap64 (z - 1) * 1024))
  obtain ⟨q5, e5⟩ := wrapQ (r * 256)
  obtain ⟨q6, e6⟩ := wrapQ (wrap64 (wrap64 (op * 2048) + wrap64 (wrap64 (z - 1) * 1024)) + wrap64 (r * 256))
  obtain ⟨q7, e7⟩ := wrapQ (m * 32)
  obtain ⟨q8, e8⟩ := wrapQ (wrap64 (wrap64 (wrap64 (op * 2048) + wrap64 (wrap64 (z - 1) * 1024)) + wrap64 (r * 256)) + wrap64 (m * 32))
  obtain ⟨q9, e9⟩ := wrapQ (k * 8)
  obtain ⟨qa, ea⟩ := wrapQ (wrap64 (wrap64 (wrap64 (wrap64 (op * 2048) + wrap64 (wrap64 (z - 1) * 1024)) + wrap64 (r * 256)) + wrap64 (m * 32)) + wrap64 (k * 8))
  obtain ⟨qb, eb⟩ := wrapQ (wrap64 (wrap64 (wrap64 (wrap64 (wrap64 (op * 2048) + wrap64 (wrap64 (z - 1) * 1024)) + wrap64 (r * 256)) + wrap64 (m * 32)) + wrap64 (k * 8)) + s)
  omega
theorem wfSm {n : Int} (h0 : -1 ≤ n) (h1 : n ≤ 65536) : (Lit.int .i64 n).wf = true := by
  have e1 : IntKind.i64.min = -9223372036854775808 := rfl
  have e2 : IntKind.i64.max = 9223372036854775807 := rfl
  simp [Lit.wf]
  omega
theorem Blk.c7 {w : World} {b : Nat} {v0 v1 v2 v3 v4 v5 v6 : Value} {t : TypeId} (h : Blk w b #[v0, v1, v2, v3, v4, v5, v6] t) : w.cell? ⟨b, 0, none⟩ = some v0 ∧ w.cell? ⟨b, 1, none⟩ = some v1 ∧ w.cell? ⟨b, 2, none⟩ = some v2 ∧ w.cell? ⟨b, 3, none⟩ = some v3 ∧ w.cell? ⟨b, 4, none⟩ = some v4 ∧ w.cell? ⟨b, 5, none⟩ = some v5 ∧ w.cell? ⟨b, 6, none⟩ = some v6 :=
  ⟨h.cell (i := 0) rfl, h.cell (i := 1) rfl, h.cell (i := 2) rfl, h.cell (i := 3) rfl, h.cell (i := 4) rfl, h.cell (i := 5) rfl, h.cell (i := 6) rfl⟩
theorem insOf (w : World) (n v : Int) (h0 : 0 ≤ n) (h1 : n ≤ 65535) : Calls Try.prog 70 #[iv n, iv v] w fun r' w' => r' = .returned (.agg #[iv (Pl.decode n v).op, iv (Pl.decode n v).z, iv (Pl.decode n v).r, iv (Pl.decode n v).m, iv (Pl.decode n v).k, iv (Pl.decode n v).e, iv (Pl.decode n v).s]) ∧ Kept 0 0 w w' := by
  rw [Pl.decode_e]
  simp only [Pl.decode]
  have t1 : n.tdiv 2048 = n / 2048 := Int.tdiv_eq_ediv_of_nonneg h0
  have t2 : n.tdiv 1024 = n / 1024 := Int.tdiv_eq_ediv_of_nonneg h0
  have t3 : n.tdiv 256 = n / 256 := Int.tdiv_eq_ediv_of_nonneg h0
  have t4 : n.tdiv 32 = n / 32 := Int.tdiv_eq_ediv_of_nonneg h0
  have t5 : n.tdiv 8 = n / 8 := Int.tdiv_eq_ediv_of_nonneg h0
  have t6 : n.tmod 8 = n % 8 := Int.tmod_eq_emod_of_nonneg h0
  have wfm : (Lit.int .i64 (n / 32 % 8)).wf = true := wfSm (by omega) (by omega)
  have hM : Pl.lng (n / 32 % 8) = Pl.extM (n / 32 % 8) := by
    unfold Pl.lng
    rw [show Pl.modeOk (n / 32 % 8) = true from by simp [Pl.modeOk, Pl.within]; omega]
    rfl
  have HM := hide hM
  have KA := hide (kept_new (kept_alloc w (.cells (inA 0 0 0 0 0 0 0) 30)) (.cells (inA (n / 2048) (n / 1024 % 2 + 1) (n / 256 % 4) (n / 32 % 8) (n / 8 % 4) 0 (n % 8)) 30))
  have B1 := hide ((Blk.new w (inA 0 0 0 0 0 0 0) 30).alloc (.cells (inA (n / 2048) (n / 1024 % 2 + 1) (n / 256 % 4) (n / 32 % 8) (n / 8 % 4) 0 (n % 8)) 30))
  have b2 := Blk.new (w.alloc (.cells (inA 0 0 0 0 0 0 0) 30)) (inA (n / 2048) (n / 1024 % 2 + 1) (n / 256 % 4) (n / 32 % 8) (n / 8 % 4) 0 (n % 8)) 30
  simp only [World.size_alloc] at b2
  have B2 := hide b2
  clear b2 hM
  cases hx : Pl.extM (n / 32 % 8)
  · go_enter Try.func70, Try.ntmps70
    go_wp2_with fail
    refine (isLong _ _ _ _ _ _ _ _ wfm).mono ?_
    rintro r2 w2 ⟨rfl, k2⟩
    rw [HM.out, hx]
    have K2 := hide (KA.out.trans k2)
    have C2 := hide (B2.out.kept0 k2)
    have C1 := hide (B1.out.kept0 k2)
    obtain ⟨p0, p1, p2, p3, p4, p5, p6⟩ := C2.out.c7
    obtain ⟨q0, q1, q2, q3, q4, q5, q6⟩ := C1.out.c7
    have fq0 := C1.out.frozen 0; have fq1 := C1.out.frozen 1; have fq2 := C1.out.frozen 2; have fq3 := C1.out.frozen 3; have fq4 := C1.out.frozen 4; have fq5 := C1.out.frozen 5; have fq6 := C1.out.frozen 6
    have fp5 := C2.out.frozen 5
    clear k2 t1 t2 t3 t4 t5 t6
    go_wp2_with fail
    refine bodyPost_ret (v := .agg (inA (n / 2048) (n / 1024 % 2 + 1) (n / 256 % 4) (n / 32 % 8) (n / 8 % 4) 0 (n % 8))) ?_ rfl ⟨rfl, ?_⟩
    · rw [results_one rfl]; go_simp
    · exact (kept_set (kept_set (kept_set (kept_set (kept_set (kept_set (kept_set K2.out _ _ _ (.inr (by omega))) _ _ _ (.inr (by omega))) _ _ _ (.inr (by omega))) _ _ _ (.inr (by omega))) _ _ _ (.inr (by omega))) _ _ _ (.inr (by omega))) _ _ _ (.inr (by omega)))
  · go_enter Try.func70, Try.ntmps70
    go_wp2_with fail
    refine (isLong _ _ _ _ _ _ _ _ wfm).mono ?_
    rintro r2 w2 ⟨rfl, k2⟩
    rw [HM.out, hx]
    have K2 := hide (KA.out.trans k2)
    have C2 := hide (B2.out.kept0 k2)
    have C1 := hide (B1.out.kept0 k2)
    obtain ⟨p0, p1, p2, p3, p4, p5, p6⟩ := C2.out.c7
    obtain ⟨q0, q1, q2, q3, q4, q5, q6⟩ := C1.out.c7
    have fq0 := C1.out.frozen 0; have fq1 := C1.out.frozen 1; have fq2 := C1.out.frozen 2; have fq3 := C1.out.frozen 3; have fq4 := C1.out.frozen 4; have fq5 := C1.out.frozen 5; have fq6 := C1.out.frozen 6
    have fp5 := C2.out.frozen 5
    clear k2 t1 t2 t3 t4 t5 t6
    go_wp2_with fail
    refine bodyPost_ret (v := .agg (inA (n / 2048) (n / 1024 % 2 + 1) (n / 256 % 4) (n / 32 % 8) (n / 8 % 4) v (n % 8))) ?_ rfl ⟨rfl, ?_⟩
    · rw [results_one rfl]; go_simp
    · exact (kept_set (kept_set (kept_set (kept_set (kept_set (kept_set (kept_set (kept_set K2.out _ _ _ (.inr (by omega))) _ _ _ (.inr (by omega))) _ _ _ (.inr (by omega))) _ _ _ (.inr (by omega))) _ _ _ (.inr (by omega))) _ _ _ (.inr (by omega))) _ _ _ (.inr (by omega))) _ _ _ (.inr (by omega)))
end Go.Proofs.Ytloaedfoecjalaa

