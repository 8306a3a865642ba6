/- What the program tells of flags that nobody reads: one contract a function. The first word of an instruction and the instruction of two words, as the program makes them. Whether an instruction comes back from its words, and the tests of what leads elsewhere, as the program makes them. -/
import Derived.Test.YtflnodadeajmcaaGreatAF1
import Derived.Test.YtflnodadeajmcaaGreatAF5
import Derived.Test.YtflnodadeajmcaaGreatAF4
namespace Go.Proofs.YtflnodadeajmcaaGreat
open Go.RowKit
set_option linter.unusedVariables false
set_option linter.unusedSimpArgs false
set_option maxHeartbeats 2000000
theorem questionI (k : Int) (w : World) (k0 : 0 ≤ k) (k1 : k ≤ 15) : Calls Tryz.prog 206 #[iv k] w fun e w' => (∃ fn, e = .returned (.agg #[iv (Pl.need k), .func fn #[] #[]])) ∧ Kept 0 0 w w' := by
  obtain ⟨j, hj, rfl⟩ := Pl.nat_of (n := 16) k0 (by omega)
  refine (questionOf j hj w).mono ?_
  rintro e w' ⟨rfl, h⟩
  exact ⟨⟨_, rfl⟩, h⟩
def Pl.setsF (s : Int) : Int := bif (s == 1) || (s == 3) then 31 else bif (s == 5) || (s == 6) then 15 else 0
theorem setsFlow (s : Int) (w : World) (s0 : 0 ≤ s) (s1 : s ≤ 7) : Calls Tryz.prog 208 #[iv s] w fun e w' => e = .returned (iv (Pl.setsF s)) ∧ w' = w := by
  obtain rfl | rfl | rfl | rfl | rfl | rfl | rfl | rfl : s = 0 ∨ s = 1 ∨ s = 2 ∨ s = 3 ∨ s = 4 ∨ s = 5 ∨ s = 6 ∨ s = 7 := by omega
  all_goals
    go_enter Tryz.func208, Tryz.ntmps208
    go_wp2
    go_ret
    exact ⟨rI (by rfl), rfl⟩
theorem implStr (w : World) (op z r m k e s : Int) (D : Pl.InD ⟨op, z, r, m, k, e, s⟩) : Calls Tryz.prog 134 #[.agg (inA op z r m k e s)] w fun e' w' => e' = .returned (.bool (Pl.straight ⟨op, z, r, m, k, e, s⟩)) ∧ Kept 0 0 w w' := by
  have K0 := hide (kept_alloc w (.cells (inA op z r m k e s) 124))
  have D0 := hide D
  obtain ⟨o0, o1, s0, s1, r0, r1, s6, s3, s2, r2⟩ := D
  simp only at o0 o1 s0 s1 r0 r1 s6 s3 s2 r2
  by_cases hS : op = 15 ∨ op = 19
  · obtain rfl | rfl | rfl | rfl | rfl | rfl | rfl | rfl : s = 0 ∨ s = 1 ∨ s = 2 ∨ s = 3 ∨ s = 4 ∨ s = 5 ∨ s = 6 ∨ s = 7 := by omega
    all_goals
      rcases hS with rfl | rfl
    all_goals
      first
      | (exfalso; clear D0 K0; omega)
      | skip
    all_goals
      clear s0 s1 s6 s3 s2 o0 o1
      go_enter Tryz.func134, Tryz.ntmps134
      go_wp2_with fail
      go_ret
      exact ⟨rB (by rfl), by first | exact K2.out | exact K1.out | exact K0.out | exact kept_drew K0.out⟩
  · have hO : op = 1 ∨ op = 2 ∨ op = 3 ∨ op = 4 ∨ op = 5 ∨ op = 6 ∨ op = 7 ∨ op = 8 ∨ op = 9 ∨ op = 10 ∨ op = 11 ∨ op = 12 ∨ op = 13 ∨ op = 14 ∨ op = 15 ∨ op = 16 ∨ op = 17 ∨ op = 18 ∨ op = 19 := by omega
    clear o0 o1 s6 s3 s2
    rcases hO with rfl | rfl | rfl | rfl | rfl | rfl | rfl | rfl | rfl | rfl | rfl | rfl | rfl | rfl | rfl | rfl | rfl | rfl | rfl
    all_goals
      first
      | (exfalso; clear D0 K0; omega)
      | skip
    all_goals
      have r3 := hide r2
      clear hS r2
      go_enter Tryz.func134, Tryz.ntmps134
      go_wp2_with fail
      go_ret
      exact ⟨rB (by rfl), by first | exact K2.out | exact K1.out | exact K0.out | exact kept_drew K0.out⟩
theorem implSets (w : World) (op z r m k e s : Int) (D : Pl.InD ⟨op, z, r, m, k, e, s⟩) : Calls Tryz.prog 190 #[.agg (inA op z r m k e s)] w fun e' w' => e' = .returned (iv (Pl.sets ⟨op, z, r, m, k, e, s⟩)) ∧ Kept 0 0 w w' := by
  have K0 := hide (kept_alloc w (.cells (inA op z r m k e s) 124))
  have D0 := hide D
  obtain ⟨o0, o1, s0, s1, r0, r1, s6, s3, s2, r2⟩ := D
  simp only at o0 o1 s0 s1 r0 r1 s6 s3 s2 r2
  by_cases hS : op = 11 ∨ op = 12 ∨ op = 15 ∨ op = 19
  · obtain rfl | rfl | rfl | rfl | rfl | rfl | rfl | rfl : s = 0 ∨ s = 1 ∨ s = 2 ∨ s = 3 ∨ s = 4 ∨ s = 5 ∨ s = 6 ∨ s = 7 := by omega
    all_goals
      rcases hS with rfl | rfl | rfl | rfl
    all_goals
      first
      | (exfalso; clear D0 K0; omega)
      | skip
    all_goals
      clear s0 s1 s6 s3 s2 o0 o1
      go_enter Tryz.func190, Tryz.ntmps190
      go_wp2_with (first | (go_at_call 204; refine st (flagsIf _ _ _) ?_) | (go_at_call 208; refine st (setsFlow _ _ (by omega) (by omega)) ?_))
      go_ret
      exact ⟨rI (by rfl), by first | exact K2.out | exact K1.out | exact K0.out | exact kept_drew K0.out⟩
  · have hO : op = 1 ∨ op = 2 ∨ op = 3 ∨ op = 4 ∨ op = 5 ∨ op = 6 ∨ op = 7 ∨ op = 8 ∨ op = 9 ∨ op = 10 ∨ op = 11 ∨ op = 12 ∨ op = 13 ∨ op = 14 ∨ op = 15 ∨ op = 16 ∨ op = 17 ∨ op = 18 ∨ op = 19 := by omega
    clear o0 o1 s6 s3 s2
    rcases hO with rfl | rfl | rfl | rfl | rfl | rfl | rfl | rfl | rfl | rfl | rfl | rfl | rfl | rfl | rfl | rfl | rfl | rfl | rfl
    all_goals
      first
      | (exfalso; clear D0 K0; omega)
      | skip
    all_goals
      have r3 := hide r2
      clear hS r2
      go_enter Tryz.func190, Tryz.ntmps190
      go_wp2_with (first | (go_at_call 204; refine st (flagsIf _ _ _) ?_) | (go_at_call 208; refine st (setsFlow _ _ (by omega) (by omega)) ?_))
      go_ret
      exact ⟨rI (by rfl), by first | exact K2.out | exact K1.out | exact K0.out | exact kept_drew K0.out⟩
theorem implReads (w : World) (op z r m k e s : Int) (D : Pl.InD ⟨op, z, r, m, k, e, s⟩) : Calls Tryz.prog 189 #[.agg (inA op z r m k e s)] w fun e' w' => e' = .returned (iv (Pl.reads ⟨op, z, r, m, k, e, s⟩)) ∧ Kept 0 0 w w' := by
  have K0 := hide (kept_alloc w (.cells (inA op z r m k e s) 124))
  have D0 := hide D
  obtain ⟨o0, o1, s0, s1, r0, r1, s6, s3, s2, r2⟩ := D
  simp only at o0 o1 s0 s1 r0 r1 s6 s3 s2 r2
  have hfl := looks_of
  by_cases hS : op = 12 ∨ op = 19
  · obtain rfl | rfl | rfl | rfl | rfl | rfl | rfl | rfl : s = 0 ∨ s = 1 ∨ s = 2 ∨ s = 3 ∨ s = 4 ∨ s = 5 ∨ s = 6 ∨ s = 7 := by omega
    all_goals
      rcases hS with rfl | rfl
    all_goals
      first
      | (exfalso; clear D0 K0; omega)
      | skip
    all_goals
      clear s0 s1 s6 s3 s2 o0 o1
      go_enter Tryz.func189, Tryz.ntmps189
      go_wp2_with (first | (go_at_call 204; refine st (flagsIf _ _ _) ?_) | (go_at_call 205; refine st (goesX _ _) ?_) | (go_at_call 207; refine (condOfBranch _ 13 z r m k e s r0 r1 s0 s1).mono ?_; rintro e9 W1 ⟨rfl, k1⟩; have K1 := hide (K0.out.trans k1); clear k1) | (go_at_call 206; refine (questionI (s + 8 * r) _ (by omega) (by have := r3.out (by trivial); omega)).mono ?_; rintro e9 W2 ⟨⟨fn9, rfl⟩, k1⟩; have K2 := hide (K1.out.trans k1); clear k1))
      go_ret
      exact ⟨rI (by rfl), by first | exact K2.out | exact K1.out | exact K0.out | exact kept_drew K0.out⟩
  · have hO : op = 1 ∨ op = 2 ∨ op = 3 ∨ op = 4 ∨ op = 5 ∨ op = 6 ∨ op = 7 ∨ op = 8 ∨ op = 9 ∨ op = 10 ∨ op = 11 ∨ op = 12 ∨ op = 13 ∨ op = 14 ∨ op = 15 ∨ op = 16 ∨ op = 17 ∨ op = 18 ∨ op = 19 := by omega
    clear o0 o1 s6 s3 s2
    rcases hO with rfl | rfl | rfl | rfl | rfl | rfl | rfl | rfl | rfl | rfl | rfl | rfl | rfl | rfl | rfl | rfl | rfl | rfl | rfl
    all_goals
      first
      | (exfalso; clear D0 K0; omega)
      | skip
    all_goals
      have r3 := hide r2
      clear hS r2
      go_enter Tryz.func189, Tryz.ntmps189
      go_wp2_with (first | (go_at_call 204; refine st (flagsIf _ _ _) ?_) | (go_at_call 205; refine st (goesX _ _) ?_) | (go_at_call 207; refine (condOfBranch _ 13 z r m k e s r0 r1 s0 s1).mono ?_; rintro e9 W1 ⟨rfl, k1⟩; have K1 := hide (K0.out.trans k1); clear k1) | (go_at_call 206; refine (questionI (s + 8 * r) _ (by omega) (by have := r3.out (by trivial); omega)).mono ?_; rintro e9 W2 ⟨⟨fn9, rfl⟩, k1⟩; have K2 := hide (K1.out.trans k1); clear k1))
      go_ret
      exact ⟨rI (by rfl), by first | exact K2.out | exact K1.out | exact K0.out | exact kept_drew K0.out⟩
theorem implMayWt (w : World) (op z r m k e s : Int) (D : Pl.InD ⟨op, z, r, m, k, e, s⟩) (hm : Pl.memM m = true) : Calls Tryz.prog 202 #[.agg (inA op z r m k e s)] w fun e' w' => e' = .returned (.bool (Pl.mayW ⟨op, z, r, m, k, e, s⟩)) ∧ Kept 0 0 w w' := by
  have K0 := hide (kept_alloc w (.cells (inA op z r m k e s) 124))
  have D0 := hide D
  obtain ⟨o0, o1, s0, s1, r0, r1, s6, s3, s2, r2⟩ := D
  simp only at o0 o1 s0 s1 r0 r1 s6 s3 s2 r2
  by_cases hS : op = 11 ∨ op = 14
  · obtain rfl | rfl | rfl | rfl | rfl | rfl | rfl | rfl : s = 0 ∨ s = 1 ∨ s = 2 ∨ s = 3 ∨ s = 4 ∨ s = 5 ∨ s = 6 ∨ s = 7 := by omega
    all_goals
      rcases hS with rfl | rfl
    all_goals
      first
      | (exfalso; clear D0 K0; omega)
      | skip
    all_goals
      clear s0 s1 s6 s3 s2 o0 o1
      go_enter Tryz.func202, Tryz.ntmps202
      go_wp2_with (first | (go_at_call 203; refine st (isMem _ _) ?_; rw [hm]))
      go_ret
      exact ⟨rB (by simp [Pl.mayW, hm]), by first | exact K2.out | exact K1.out | exact K0.out | exact kept_drew K0.out⟩
  · have hO : op = 1 ∨ op = 2 ∨ op = 3 ∨ op = 4 ∨ op = 5 ∨ op = 6 ∨ op = 7 ∨ op = 8 ∨ op = 9 ∨ op = 10 ∨ op = 11 ∨ op = 12 ∨ op = 13 ∨ op = 14 ∨ op = 15 ∨ op = 16 ∨ op = 17 ∨ op = 18 ∨ op = 19 := by omega
    clear o0 o1 s6 s3 s2
    rcases hO with rfl | rfl | rfl | rfl | rfl | rfl | rfl | rfl | rfl | rfl | rfl | rfl | rfl | rfl | rfl | rfl | rfl | rfl | rfl
    all_goals
      first
      | (exfalso; clear D0 K0; omega)
      | skip
    all_goals
      have r3 := hide r2
      clear hS r2
      go_enter Tryz.func202, Tryz.ntmps202
      go_wp2_with (first | (go_at_call 203; refine st (isMem _ _) ?_; rw [hm]))
      go_ret
      exact ⟨rB (by simp [Pl.mayW, hm]), by first | exact K2.out | exact K1.out | exact K0.out | exact kept_drew K0.out⟩
theorem implMayWf (w : World) (op z r m k e s : Int) (D : Pl.InD ⟨op, z, r, m, k, e, s⟩) (hm : Pl.memM m = false) : Calls Tryz.prog 202 #[.agg (inA op z r m k e s)] w fun e' w' => e' = .returned (.bool (Pl.mayW ⟨op, z, r, m, k, e, s⟩)) ∧ Kept 0 0 w w' := by
  have K0 := hide (kept_alloc w (.cells (inA op z r m k e s) 124))
  have D0 := hide D
  obtain ⟨o0, o1, s0, s1, r0, r1, s6, s3, s2, r2⟩ := D
  simp only at o0 o1 s0 s1 r0 r1 s6 s3 s2 r2
  by_cases hS : op = 11 ∨ op = 14
  · obtain rfl | rfl | rfl | rfl | rfl | rfl | rfl | rfl : s = 0 ∨ s = 1 ∨ s = 2 ∨ s = 3 ∨ s = 4 ∨ s = 5 ∨ s = 6 ∨ s = 7 := by omega
    all_goals
      rcases hS with rfl | rfl
    all_goals
      first
      | (exfalso; clear D0 K0; omega)
      | skip
    all_goals
      clear s0 s1 s6 s3 s2 o0 o1
      go_enter Tryz.func202, Tryz.ntmps202
      go_wp2_with (first | (go_at_call 203; refine st (isMem _ _) ?_; rw [hm]))
      go_ret
      exact ⟨rB (by simp [Pl.mayW, hm]), by first | exact K2.out | exact K1.out | exact K0.out | exact kept_drew K0.out⟩
  · have hO : op = 1 ∨ op = 2 ∨ op = 3 ∨ op = 4 ∨ op = 5 ∨ op = 6 ∨ op = 7 ∨ op = 8 ∨ op = 9 ∨ op = 10 ∨ op = 11 ∨ op = 12 ∨ op = 13 ∨ op = 14 ∨ op = 15 ∨ op = 16 ∨ op = 17 ∨ op = 18 ∨ op = 19 := by omega
    clear o0 o1 s6 s3 s2
    rcases hO with rfl | rfl | rfl | rfl | rfl | rfl | rfl | rfl | rfl | rfl | rfl | rfl | rfl | rfl | rfl | rfl | rfl | rfl | rfl
    all_goals
      first
      | (exfalso; clear D0 K0; omega)
      | skip
    all_goals
      have r3 := hide r2
      clear hS r2
      go_enter Tryz.func202, Tryz.ntmps202
      go_wp2_with (first | (go_at_call 203; refine st (isMem _ _) ?_; rw [hm]))
      go_ret
      exact ⟨rB (by simp [Pl.mayW, hm]), by first | exact K2.out | exact K1.out | exact K0.out | exact kept_drew K0.out⟩
theorem implMayW (w : World) (op z r m k e s : Int) (D : Pl.InD ⟨op, z, r, m, k, e, s⟩) : Calls Tryz.prog 202 #[.agg (inA op z r m k e s)] w fun e' w' => e' = .returned (.bool (Pl.mayW ⟨op, z, r, m, k, e, s⟩)) ∧ Kept 0 0 w w' := by
  cases hm : Pl.memM m
  · exact implMayWf w op z r m k e s D hm
  · exact implMayWt w op z r m k e s D hm
theorem implMayF (w : World) (op z r m k e s : Int) (D : Pl.InD ⟨op, z, r, m, k, e, s⟩) : Calls Tryz.prog 188 #[.agg (inA op z r m k e s)] w fun e' w' => e' = .returned (.bool (Pl.mayF ⟨op, z, r, m, k, e, s⟩)) ∧ Kept 0 0 w w' := by
  have K0 := hide (kept_alloc w (.cells (inA op z r m k e s) 124))
  have D0 := hide D
  obtain ⟨o0, o1, s0, s1, r0, r1, s6, s3, s2, r2⟩ := D
  simp only at o0 o1 s0 s1 r0 r1 s6 s3 s2 r2
  by_cases hS : op = 14 ∨ op = 15 ∨ op = 19
  · obtain rfl | rfl | rfl | rfl | rfl | rfl | rfl | rfl : s = 0 ∨ s = 1 ∨ s = 2 ∨ s = 3 ∨ s = 4 ∨ s = 5 ∨ s = 6 ∨ s = 7 := by omega
    all_goals
      rcases hS with rfl | rfl | rfl
    all_goals
      first
      | (exfalso; clear D0 K0; omega)
      | skip
    all_goals
      clear s0 s1 s6 s3 s2 o0 o1
      go_enter Tryz.func188, Tryz.ntmps188
      go_wp2_with (first | (go_at_call 203; refine st (isMem _ _) ?_) | (go_at_call 202; refine (implMayW _ _ _ _ _ _ _ _ D0.out).mono ?_; rintro e9 W1 ⟨rfl, k1⟩; have K1 := hide (K0.out.trans k1); clear k1) | (go_at_call 134; refine (implStr _ _ _ _ _ _ _ _ D0.out).mono ?_; rintro e9 W1 ⟨rfl, k1⟩; have K1 := hide (K0.out.trans k1); clear k1))
      go_ret
      exact ⟨rB (by simp [Pl.mayF, Pl.mayW, Pl.straight]), by first | exact K2.out | exact K1.out | exact K0.out | exact kept_drew K0.out⟩
  · have hO : op = 1 ∨ op = 2 ∨ op = 3 ∨ op = 4 ∨ op = 5 ∨ op = 6 ∨ op = 7 ∨ op = 8 ∨ op = 9 ∨ op = 10 ∨ op = 11 ∨ op = 12 ∨ op = 13 ∨ op = 14 ∨ op = 15 ∨ op = 16 ∨ op = 17 ∨ op = 18 ∨ op = 19 := by omega
    clear o0 o1 s6 s3 s2
    rcases hO with rfl | rfl | rfl | rfl | rfl | rfl | rfl | rfl | rfl | rfl | rfl | rfl | rfl | rfl | rfl | rfl | rfl | rfl | rfl
    all_goals
      first
      | (exfalso; clear D0 K0; omega)
      | skip
    all_goals
      have r3 := hide r2
      clear hS r2
      go_enter Tryz.func188, Tryz.ntmps188
      go_wp2_with (first | (go_at_call 203; refine st (isMem _ _) ?_) | (go_at_call 202; refine (implMayW _ _ _ _ _ _ _ _ D0.out).mono ?_; rintro e9 W1 ⟨rfl, k1⟩; have K1 := hide (K0.out.trans k1); clear k1) | (go_at_call 134; refine (implStr _ _ _ _ _ _ _ _ D0.out).mono ?_; rintro e9 W1 ⟨rfl, k1⟩; have K1 := hide (K0.out.trans k1); clear k1))
      go_ret
      exact ⟨rB (by simp [Pl.mayF, Pl.mayW, Pl.straight]), by first | exact K2.out | exact K1.out | exact K0.out | exact kept_drew K0.out⟩
end Go.Proofs.YtflnodadeajmcaaGreat

namespace Go.Proofs.YtflnodadeajmcaaGreat
open Go.RowKit
set_option linter.unusedVariables false
theorem wrapQ (a : Int) : ∃ q : Int, wrap64 a = a + 18446744073709551616 * q := by
  refine ⟨-((a + 9223372036854775808) / 18446744073709551616), ?_⟩
  unfold wrap64
  omega
theorem firstWord (w : World) (op z r m k e s : Int) : Calls Tryz.prog 165 #[.agg (inA op z r m k e s)] w fun r' w' => r' = .returned (iv (Pl.word1 ⟨op, z, r, m, k, e, s⟩ % 65536)) ∧ Kept 0 0 w w' := by
  have K0 := hide (kept_alloc w (.cells (inA op z r m k e s) 124))
  go_enter Tryz.func165, Tryz.ntmps165
  go_wp2_with (go_at_call 167; refine (wrapWord _ _).mono ?_; rintro e' w2 ⟨rfl, hw⟩; have hw2 := hw.symm; clear hw; subst hw2)
  go_ret
  refine ⟨rI ?_, K0.out⟩
  unfold Pl.word1
  simp only
  obtain ⟨q1, e1⟩ := wrapQ (op * 2048)
  obtain ⟨q2, e2⟩ := wrapQ (z - 1)
  obtain ⟨q3, e3⟩ := wrapQ (wrap64 (z - 1) * 1024)
  obtain ⟨q4, e4⟩ := wrapQ (wrap64 (op * 2048) + wrap64 (wrap64 (z - 1) * 1024))
  obtain ⟨q5, e5⟩ := wrapQ (r * 256)
  obtain ⟨q6, e6⟩ := wrapQ (wrap64 (wrap64 (op * 2048) + wrap64 (wrap64 (z - 1) * 1024)) + wrap64 (r * 256))
  obtain ⟨q7, e7⟩ := wrapQ (m * 32)
  obtain ⟨q8, e8⟩ := wrapQ (wrap64 (wrap64 (wrap64 (op * 2048) + wrap64 (wrap64 (z - 1) * 1024)) + wrap64 (r * 256)) + wrap64 (m * 32))
  obtain ⟨q9, e9⟩ := wrapQ (k * 8)
  obtain ⟨qa, ea⟩ := wrapQ (wrap64 (wrap64 (wrap64 (wrap64 (op * 2048) + wrap64 (wrap64 (z - 1) * 1024)) + wrap64 (r * 256)) + wrap64 (m * 32)) + wrap64 (k * 8))
  obtain ⟨qb, eb⟩ := wrapQ (wrap64 (wrap64 (wrap64 (wrap64 (wrap64 (op * 2048) + wrap64 (wrap64 (z - 1) * 1024)) + wrap64 (r * 256)) + wrap64 (m * 32)) + wrap64 (k * 8)) + s)
  omega
theorem wfSm {n : Int} (h0 : -1 ≤ n) (h1 : n ≤ 65536) : (Lit.int .i64 n).wf = true := by
  have e1 : IntKind.i64.min = -9223372036854775808 := rfl
  have e2 : IntKind.i64.max = 9223372036854775807 := rfl
  simp [Lit.wf]
  omega
theorem Blk.c7 {w : World} {b : Nat} {v0 v1 v2 v3 v4 v5 v6 : Value} {t : TypeId} (h : Blk w b #[v0, v1, v2, v3, v4, v5, v6] t) : w.cell? ⟨b, 0, none⟩ = some v0 ∧ w.cell? ⟨b, 1, none⟩ = some v1 ∧ w.cell? ⟨b, 2, none⟩ = some v2 ∧ w.cell? ⟨b, 3, none⟩ = some v3 ∧ w.cell? ⟨b, 4, none⟩ = some v4 ∧ w.cell? ⟨b, 5, none⟩ = some v5 ∧ w.cell? ⟨b, 6, none⟩ = some v6 :=
  ⟨h.cell (i := 0) rfl, h.cell (i := 1) rfl, h.cell (i := 2) rfl, h.cell (i := 3) rfl, h.cell (i := 4) rfl, h.cell (i := 5) rfl, h.cell (i := 6) rfl⟩
theorem insOf (w : World) (n v : Int) (h0 : 0 ≤ n) (h1 : n ≤ 65535) : Calls Tryz.prog 186 #[iv n, iv v] w fun r' w' => r' = .returned (.agg #[iv (Pl.decode n v).op, iv (Pl.decode n v).z, iv (Pl.decode n v).r, iv (Pl.decode n v).m, iv (Pl.decode n v).k, iv (Pl.decode n v).e, iv (Pl.decode n v).s]) ∧ Kept 0 0 w w' := by
  rw [Pl.decode_e]
  simp only [Pl.decode]
  have t1 : n.tdiv 2048 = n / 2048 := Int.tdiv_eq_ediv_of_nonneg h0
  have t2 : n.tdiv 1024 = n / 1024 := Int.tdiv_eq_ediv_of_nonneg h0
  have t3 : n.tdiv 256 = n / 256 := Int.tdiv_eq_ediv_of_nonneg h0
  have t4 : n.tdiv 32 = n / 32 := Int.tdiv_eq_ediv_of_nonneg h0
  have t5 : n.tdiv 8 = n / 8 := Int.tdiv_eq_ediv_of_nonneg h0
  have t6 : n.tmod 8 = n % 8 := Int.tmod_eq_emod_of_nonneg h0
  have wfm : (Lit.int .i64 (n / 32 % 8)).wf = true := wfSm (by omega) (by omega)
  have hM : Pl.lng (n / 32 % 8) = Pl.extM (n / 32 % 8) := by
    unfold Pl.lng
    rw [show Pl.modeOk (n / 32 % 8) = true from by simp [Pl.modeOk, Pl.within]; omega]
    rfl
  have HM := hide hM
  have KA := hide (kept_new (kept_alloc w (.cells (inA 0 0 0 0 0 0 0) 124)) (.cells (inA (n / 2048) (n / 1024 % 2 + 1) (n / 256 % 4) (n / 32 % 8) (n / 8 % 4) 0 (n % 8)) 124))
  have B1 := hide ((Blk.new w (inA 0 0 0 0 0 0 0) 124).alloc (.cells (inA (n / 2048) (n / 1024 % 2 + 1) (n / 256 % 4) (n / 32 % 8) (n / 8 % 4) 0 (n % 8)) 124))
  have b2 := Blk.new (w.alloc (.cells (inA 0 0 0 0 0 0 0) 124)) (inA (n / 2048) (n / 1024 % 2 + 1) (n / 256 % 4) (n / 32 % 8) (n / 8 % 4) 0 (n % 8)) 124
  simp only [World.size_alloc] at b2
  have B2 := hide b2
  clear b2 hM
  cases hx : Pl.extM (n / 32 % 8)
  · go_enter Tryz.func186, Tryz.ntmps186
    go_wp2_with fail
    refine (isLong _ _ _ _ _ _ _ _ wfm).mono ?_
    rintro r2 w2 ⟨rfl, k2⟩
    rw [HM.out, hx]
    have K2 := hide (KA.out.trans k2)
    have C2 := hide (B2.out.kept0 k2)
    have C1 := hide (B1.out.kept0 k2)
    obtain ⟨p0, p1, p2, p3, p4, p5, p6⟩ := C2.out.c7
    obtain ⟨q0, q1, q2, q3, q4, q5, q6⟩ := C1.out.c7
    have fq0 := C1.out.frozen 0; have fq1 := C1.out.frozen 1; have fq2 := C1.out.frozen 2; have fq3 := C1.out.frozen 3; have fq4 := C1.out.frozen 4; have fq5 := C1.out.frozen 5; have fq6 := C1.out.frozen 6
    have fp5 := C2.out.frozen 5
    clear k2 t1 t2 t3 t4 t5 t6
    go_wp2_with fail
    refine bodyPost_ret (v := .agg (inA (n / 2048) (n / 1024 % 2 + 1) (n / 256 % 4) (n / 32 % 8) (n / 8 % 4) 0 (n % 8))) ?_ rfl ⟨rfl, ?_⟩
    · rw [results_one rfl]; go_simp
    · exact (kept_set (kept_set (kept_set (kept_set (kept_set (kept_set (kept_set K2.out _ _ _ (.inr (by omega))) _ _ _ (.inr (by omega))) _ _ _ (.inr (by omega))) _ _ _ (.inr (by omega))) _ _ _ (.inr (by omega))) _ _ _ (.inr (by omega))) _ _ _ (.inr (by omega)))
  · go_enter Tryz.func186, Tryz.ntmps186
    go_wp2_with fail
    refine (isLong _ _ _ _ _ _ _ _ wfm).mono ?_
    rintro r2 w2 ⟨rfl, k2⟩
    rw [HM.out, hx]
    have K2 := hide (KA.out.trans k2)
    have C2 := hide (B2.out.kept0 k2)
    have C1 := hide (B1.out.kept0 k2)
    obtain ⟨p0, p1, p2, p3, p4, p5, p6⟩ := C2.out.c7
    obtain ⟨q0, q1, q2, q3, q4, q5, q6⟩ := C1.out.c7
    have fq0 := C1.out.frozen 0; have fq1 := C1.out.frozen 1; have fq2 := C1.out.frozen 2; have fq3 := C1.out.frozen 3; have fq4 := C1.out.frozen 4; have fq5 := C1.out.frozen 5; have fq6 := C1.out.frozen 6
    have fp5 := C2.out.frozen 5
    clear k2 t1 t2 t3 t4 t5 t6
    go_wp2_with fail
    refine bodyPost_ret (v := .agg (inA (n / 2048) (n / 1024 % 2 + 1) (n / 256 % 4) (n / 32 % 8) (n / 8 % 4) v (n % 8))) ?_ rfl ⟨rfl, ?_⟩
    · rw [results_one rfl]; go_simp
    · exact (kept_set (kept_set (kept_set (kept_set (kept_set (kept_set (kept_set (kept_set K2.out _ _ _ (.inr (by omega))) _ _ _ (.inr (by omega))) _ _ _ (.inr (by omega))) _ _ _ (.inr (by omega))) _ _ _ (.inr (by omega))) _ _ _ (.inr (by omega))) _ _ _ (.inr (by omega))) _ _ _ (.inr (by omega)))
end Go.Proofs.YtflnodadeajmcaaGreat

namespace Go.Proofs.YtflnodadeajmcaaGreat
open Go.RowKit
set_option linter.unusedVariables false
theorem eqIn (a b : Pl.In) (w : World) : (binOp .eql 124 (.agg #[iv a.op, iv a.z, iv a.r, iv a.m, iv a.k, iv a.e, iv a.s]) (.agg #[iv b.op, iv b.z, iv b.r, iv b.m, iv b.k, iv b.e, iv b.s])).run Tryz.prog w = .ok (.bool (Pl.sameIn a b)) w := by
  obtain ⟨a1, a2, a3, a4, a5, a6, a7⟩ := a
  obtain ⟨b1, b2, b3, b4, b5, b6, b7⟩ := b
  unfold Pl.sameIn
  go_simp
  by_cases h1 : a1 = b1
  · by_cases h2 : a2 = b2
    · by_cases h3 : a3 = b3
      · by_cases h4 : a4 = b4
        · by_cases h5 : a5 = b5
          · by_cases h6 : a6 = b6
            · by_cases h7 : a7 = b7
              · simp [h1, h2, h3, h4, h5, h6, h7]
              · simp [h1, h2, h3, h4, h5, h6, h7]
            · simp [h1, h2, h3, h4, h5, h6]
          · simp [h1, h2, h3, h4, h5]
        · simp [h1, h2, h3, h4]
      · simp [h1, h2, h3]
    · simp [h1, h2]
  · simp [h1]
theorem eqO (m k e : Int) (w : World) : (binOp .eql 122 (.agg #[iv m, iv k, iv e]) (.agg #[iv 0, iv 0, iv 0])).run Tryz.prog w = .ok (.bool (Pl.zeroO m k e)) w := by
  unfold Pl.zeroO
  go_simp
  by_cases h1 : m = 0 <;> by_cases h2 : k = 0 <;> by_cases h3 : e = 0 <;> simp [h1, h2, h3]
set_option maxRecDepth 20000 in
set_option maxHeartbeats 4000000 in
theorem fitsWords (w : World) (op z r m k e s : Int) : Calls Tryz.prog 192 #[.agg #[iv op, iv z, iv r, iv m, iv k, iv e, iv s]] w fun r' w' => r' = .returned (.bool (Pl.fits ⟨op, z, r, m, k, e, s⟩)) ∧ Kept 0 0 w w' := by
  have K0 := hide (kept_alloc w (.cells #[iv op, iv z, iv r, iv m, iv k, iv e, iv s] 124))
  have B0 := hide (Blk.new w #[iv op, iv z, iv r, iv m, iv k, iv e, iv s] 124)
  obtain ⟨N, hN⟩ : ∃ N, Pl.word1 ⟨op, z, r, m, k, e, s⟩ % 65536 = N := ⟨_, rfl⟩
  have n0 : Hid (0 ≤ N) := hide (by omega)
  have n1 : Hid (N ≤ 65535) := hide (by omega)
  obtain ⟨D, hD⟩ : ∃ D, Pl.decode N e = D := ⟨_, rfl⟩
  obtain ⟨F, hF⟩ : ∃ F, Pl.sameIn D ⟨op, z, r, m, k, e, s⟩ = F := ⟨_, rfl⟩
  have EF : Hid (Pl.fits ⟨op, z, r, m, k, e, s⟩ = F) := hide (by unfold Pl.fits; rw [hN, hD, hF])
  have HN := hide hN
  have HD := hide hD
  obtain ⟨RD, hR⟩ : ∃ RD : Array Value, RD = #[iv D.op, iv D.z, iv D.r, iv D.m, iv D.k, iv D.e, iv D.s] := ⟨_, rfl⟩
  have HE : Hid (∀ w : World, (binOp .eql 124 (.agg RD) (.agg #[iv op, iv z, iv r, iv m, iv k, iv e, iv s])).run Tryz.prog w = .ok (.bool F) w) := hide (fun w => by rw [← hF, hR]; exact eqIn D ⟨op, z, r, m, k, e, s⟩ w)
  have HR := hide hR
  clear hN hD hF hR
  rw [EF.out]
  go_enter Tryz.func192, Tryz.ntmps192
  go_wp2_with fail
  refine wp_region_inv2 (fun A0 l A W => FR [3, 4, 5, 6, 7, 8, 9, 10, 2] A0 A ∧ Once l 0 (A.tmps[3]? = some (.agg #[iv op, iv z, iv r, iv m, iv k, iv e, iv s])) ∧ Once l 1 (A.tmps[4]? = some (iv N)) ∧ Once l 2 (A.tmps[5]? = some (.pointer (some ⟨w.heap.size, 3, none⟩))) ∧ Once l 3 (A.tmps[6]? = some (.pointer (some ⟨w.heap.size, 5, none⟩))) ∧ Once l 4 (A.tmps[7]? = some (iv e)) ∧ Once l 5 (A.tmps[8]? = some (.agg RD)) ∧ Once l 6 (A.tmps[9]? = some (.agg #[iv op, iv z, iv r, iv m, iv k, iv e, iv s])) ∧ Once l 7 (A.tmps[10]? = some (.bool F)) ∧ Once l 8 (A.tmps[2]? = some (.bool F)) ∧ Kept 0 0 (w.alloc (.cells #[iv op, iv z, iv r, iv m, iv k, iv e, iv s] 124)) W) (by kernel_rfl) (by kernel_rfl) ?start ?fin ?step
  case start => exact ⟨FR.refl _ _, once_start (by decide), once_start (by decide), once_start (by decide), once_start (by decide), once_start (by decide), once_start (by decide), once_start (by decide), once_start (by decide), once_start (by decide), kept_drew (Kept.refl _ _ _)⟩
  case fin =>
    intro l A W h hl
    obtain ⟨hFR, o0, o1, o2, o3, o4, o5, o6, o7, o8, hK⟩ := h
    have g8 := o8 (hl 8 (by decide))
    have QQ := hide hK
    have hc9 := hFR.chain
    simp only [List.foldl] at hc9
    rw [getD_of g8] at hc9
    clear hl hK hFR g8 o0 o1 o2 o3 o4 o5 o6 o7 o8
    generalize A.tmps.getD 3 undef = s3 at hc9
    generalize A.tmps.getD 4 undef = s4 at hc9
    generalize A.tmps.getD 5 undef = s5 at hc9
    generalize A.tmps.getD 6 undef = s6 at hc9
    generalize A.tmps.getD 7 undef = s7 at hc9
    generalize A.tmps.getD 8 undef = s8 at hc9
    generalize A.tmps.getD 9 undef = s9 at hc9
    generalize A.tmps.getD 10 undef = s10 at hc9
    subst hc9
    go_simp
    go_wp2_with fail
    go_ret
    exact ⟨rfl, K0.out.trans QQ.out⟩
  case step =>
    intro l A W i hI hm
    obtain ⟨hFR, o0, o1, o2, o3, o4, o5, o6, o7, o8, hK⟩ := hI
    obtain ⟨hi1, hi2⟩ := ready_new hm
    have hsz : Hid (10 < A.tmps.size) := hide (by rw [hFR.size]; simp)
    have m1 : A.tmps[1]? = some (.pointer (some ⟨w.heap.size, 0, none⟩)) := (hFR.out 1 (by decide)).trans rfl
    rcases i with _ | _ | _ | _ | _ | _ | _ | _ | _ | i
    · have BL := hide (B0.out.kept0 hK)
      obtain ⟨x0, x1, x2, x3, x4, x5, x6⟩ := BL.out.c7
      refine wpOp_step rfl (fun KK hK2 => ?_)
      go_simp
      exact hK2 (A.put (some 3) (.agg #[iv op, iv z, iv r, iv m, iv k, iv e, iv s])) _ ⟨hFR.put (by decide) _, .now (put_eq (by have hz := hsz.out; omega)), o1.q, o2.q, o3.q, o4.q, o5.q, o6.q, o7.q, o8.q, hK⟩
    · have e0 := o0 (ready_dep hm 0 (by kernel_rfl))
      refine wpOp_step rfl (fun KK hK2 => ?_)
      go_simp
      refine (firstWord W op z r m k e s).mono ?_
      rw [HN.out]
      rintro r9 y ⟨rfl, kd⟩
      go_simp
      exact hK2 (A.put (some 4) (iv N)) _ ⟨hFR.put (by decide) _, o0.q, .now (put_eq (by have hz := hsz.out; omega)), o2.q, o3.q, o4.q, o5.q, o6.q, o7.q, o8.q, (hK.trans kd)⟩
    · refine wpOp_step rfl (fun KK hK2 => ?_)
      go_simp
      exact hK2 (A.put (some 5) (.pointer (some ⟨w.heap.size, 3, none⟩))) _ ⟨hFR.put (by decide) _, o0.q, o1.q, .now (put_eq (by have hz := hsz.out; omega)), o3.q, o4.q, o5.q, o6.q, o7.q, o8.q, hK⟩
    · have e2 := o2 (ready_dep hm 2 (by kernel_rfl))
      refine wpOp_step rfl (fun KK hK2 => ?_)
      go_simp
      exact hK2 (A.put (some 6) (.pointer (some ⟨w.heap.size, 5, none⟩))) _ ⟨hFR.put (by decide) _, o0.q, o1.q, o2.q, .now (put_eq (by have hz := hsz.out; omega)), o4.q, o5.q, o6.q, o7.q, o8.q, hK⟩
    · have e3 := o3 (ready_dep hm 3 (by kernel_rfl))
      have BL := hide (B0.out.kept0 hK)
      obtain ⟨x0, x1, x2, x3, x4, x5, x6⟩ := BL.out.c7
      refine wpOp_step rfl (fun KK hK2 => ?_)
      go_simp
      exact hK2 (A.put (some 7) (iv e)) _ ⟨hFR.put (by decide) _, o0.q, o1.q, o2.q, o3.q, .now (put_eq (by have hz := hsz.out; omega)), o5.q, o6.q, o7.q, o8.q, hK⟩
    · have e1 := o1 (ready_dep hm 1 (by kernel_rfl))
      have e4 := o4 (ready_dep hm 4 (by kernel_rfl))
      refine wpOp_step rfl (fun KK hK2 => ?_)
      go_simp
      refine (insOf W N e n0.out n1.out).mono ?_
      rw [HD.out, ← HR.out]
      rintro r9 y ⟨rfl, kd⟩
      go_simp
      exact hK2 (A.put (some 8) (.agg RD)) _ ⟨hFR.put (by decide) _, o0.q, o1.q, o2.q, o3.q, o4.q, .now (put_eq (by have hz := hsz.out; omega)), o6.q, o7.q, o8.q, (hK.trans kd)⟩
    · have BL := hide (B0.out.kept0 hK)
      obtain ⟨x0, x1, x2, x3, x4, x5, x6⟩ := BL.out.c7
      refine wpOp_step rfl (fun KK hK2 => ?_)
      go_simp
      exact hK2 (A.put (some 9) (.agg #[iv op, iv z, iv r, iv m, iv k, iv e, iv s])) _ ⟨hFR.put (by decide) _, o0.q, o1.q, o2.q, o3.q, o4.q, o5.q, .now (put_eq (by have hz := hsz.out; omega)), o7.q, o8.q, hK⟩
    · have e5 := o5 (ready_dep hm 5 (by kernel_rfl))
      have e6 := o6 (ready_dep hm 6 (by kernel_rfl))
      have hc := HE.out
      refine wpOp_step rfl (fun KK hK2 => ?_)
      go_simp
      exact hK2 (A.put (some 10) (.bool F)) _ ⟨hFR.put (by decide) _, o0.q, o1.q, o2.q, o3.q, o4.q, o5.q, o6.q, .now (put_eq (by have hz := hsz.out; omega)), o8.q, hK⟩
    · have e7 := o7 (ready_dep hm 7 (by kernel_rfl))
      refine wpOp_step rfl (fun KK hK2 => ?_)
      go_simp
      exact hK2 (A.put (some 2) (.bool F)) _ ⟨hFR.put (by decide) _, o0.q, o1.q, o2.q, o3.q, o4.q, o5.q, o6.q, o7.q, .now (put_eq (by have hz := hsz.out; omega)), hK⟩
    · simp at hi1
      omega
theorem fitsStatus (w : World) (op z r m k e s : Int) : Calls Tryz.prog 213 #[.agg #[iv op, iv z, iv r, iv m, iv k, iv e, iv s]] w fun r' w' => r' = .returned (.bool (((s == 0) && ((r == 0) && Pl.nowO m e)) || ((s == 1) && Pl.zeroO m k e))) ∧ Kept 0 0 w w' := by
  have K0 := hide (kept_alloc w (.cells #[iv op, iv z, iv r, iv m, iv k, iv e, iv s] 124))
  have hq := eqO m k e
  by_cases h0 : s = 0
  · subst h0
    go_enter Tryz.func213, Tryz.ntmps213
    go_wp2_with (go_at_call 218; refine (namesStatus _ op z r m k e 0).mono ?_; rintro e9 w2 ⟨rfl, k2⟩)
    go_ret
    exact ⟨rB (by simp), K0.out.trans k2⟩
  · by_cases h1 : s = 1
    · subst h1
      go_enter Tryz.func213, Tryz.ntmps213
      go_wp2_with fail
      go_ret
      exact ⟨rB (by simp), K0.out⟩
    · go_enter Tryz.func213, Tryz.ntmps213
      go_wp2_with fail
      go_ret
      exact ⟨rB (by simp [h0, h1]), K0.out⟩
theorem fitsFlow (w : World) (op z r m k e s : Int) (h0 : 0 ≤ s) : Calls Tryz.prog 212 #[.agg #[iv op, iv z, iv r, iv m, iv k, iv e, iv s]] w fun r' w' => r' = .returned (.bool (bif s == 3 then (r == 0) && Pl.nowO m e else (decide (s ≤ 6) && Pl.zeroO m k e) && (decide (3 < s) || (r == 0)))) ∧ Kept 0 0 w w' := by
  have K0 := hide (kept_alloc w (.cells #[iv op, iv z, iv r, iv m, iv k, iv e, iv s] 124))
  have hq := eqO m k e
  by_cases h7 : 7 ≤ s
  · go_enter Tryz.func212, Tryz.ntmps212
    go_wp2_with fail
    go_ret
    exact ⟨rB (by have a1 : (s == 3) = false := by simp; omega
                  have a2 : decide (s ≤ 6) = false := by simp; omega
                  rw [a1, a2]; rfl), K0.out⟩
  · have hs : s = 0 ∨ s = 1 ∨ s = 2 ∨ s = 3 ∨ s = 4 ∨ s = 5 ∨ s = 6 := by omega
    rcases hs with rfl | rfl | rfl | rfl | rfl | rfl | rfl
    · cases hr : (r == 0) <;> (
        go_enter Tryz.func212, Tryz.ntmps212
        go_wp2_with fail
        go_ret
        exact ⟨rB (by simp), K0.out⟩)
    · cases hr : (r == 0) <;> (
        go_enter Tryz.func212, Tryz.ntmps212
        go_wp2_with fail
        go_ret
        exact ⟨rB (by simp), K0.out⟩)
    · cases hr : (r == 0) <;> (
        go_enter Tryz.func212, Tryz.ntmps212
        go_wp2_with fail
        go_ret
        exact ⟨rB (by simp), K0.out⟩)
    · go_enter Tryz.func212, Tryz.ntmps212
      go_wp2_with (go_at_call 218; refine (namesStatus _ op z r m k e 3).mono ?_; rintro e9 w2 ⟨rfl, k2⟩)
      go_ret
      exact ⟨rB (by simp), K0.out.trans k2⟩
    · go_enter Tryz.func212, Tryz.ntmps212
      go_wp2_with fail
      go_ret
      exact ⟨rB (by simp), K0.out⟩
    · go_enter Tryz.func212, Tryz.ntmps212
      go_wp2_with fail
      go_ret
      exact ⟨rB (by simp), K0.out⟩
    · go_enter Tryz.func212, Tryz.ntmps212
      go_wp2_with fail
      go_ret
      exact ⟨rB (by simp), K0.out⟩
end Go.Proofs.YtflnodadeajmcaaGreat

