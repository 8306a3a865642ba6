/- What the program asks of an instruction by its operation. What the program's GoodIns answers, for every argument. What the exported looks at an instruction answer, for every instruction, of both sides. What the laws' own functions over lists of Ins do (structs of 7 whole numbers, laid one behind the other): compare, copy, mark. A list of n is spoken of as the row of its 7 * n numbers. -/
import Derived.Test.YtloaedfoecjalaaDE7
import Derived.BigQuiet
import Derived.Deep.QuietTactic
import Derived.Test.YtloaedfoecjalaaDE6
import Derived.Test.YtloaedfoecjalaaDE1
namespace Go.Proofs.Ytloaedfoecjalaa
open Go.RowKit
set_option linter.unusedVariables false
theorem fitsOp1 (w : World) (z r m k e s : Int) (h0 : 0 ≤ s) : Calls Try.prog 58 #[.agg (inA 1 z r m k e s)] w fun r' w' => r' = .returned (.bool (Pl.inKind ⟨1, z, r, m, k, e, s⟩)) ∧ Kept 0 0 w w' := by
  have K0 := hide (kept_alloc w (.cells (inA 1 z r m k e s) 30))
  rw [show Pl.inKind ⟨1, z, r, m, k, e, s⟩ = ((s == 0) && ((z == 2) || !(m == 1))) from rfl]
  cases a0 : (s == 0)
  · go_enter Try.func58, Try.ntmps58
    go_wp2_with fail
    go_quiet (fail)
    go_wp2_with fail
    go_ret
    exact ⟨rB (by simp), kept_drewN K0.out _⟩
  · cases a1 : (z == 2)
    · go_enter Try.func58, Try.ntmps58
      go_wp2_with fail
      go_quiet (fail)
      go_wp2_with fail
      go_ret
      exact ⟨rB (by simp [bne]), kept_drewN K0.out _⟩
    · go_enter Try.func58, Try.ntmps58
      go_wp2_with fail
      go_quiet (fail)
      go_wp2_with fail
      go_ret
      exact ⟨rB (by simp), kept_drewN K0.out _⟩
theorem fitsOp2 (w : World) (z r m k e s : Int) (h0 : 0 ≤ s) : Calls Try.prog 58 #[.agg (inA 2 z r m k e s)] w fun r' w' => r' = .returned (.bool (Pl.inKind ⟨2, z, r, m, k, e, s⟩)) ∧ Kept 0 0 w w' := by
  have K0 := hide (kept_alloc w (.cells (inA 2 z r m k e s) 30))
  rw [show Pl.inKind ⟨2, z, r, m, k, e, s⟩ = ((s == 0) && ((m == 0) || Pl.memM m)) from rfl]
  cases a0 : (s == 0)
  · go_enter Try.func58, Try.ntmps58
    go_wp2_with fail
    go_quiet (fail)
    go_wp2_with fail
    go_ret
    exact ⟨rB (by simp), kept_drewN K0.out _⟩
  · go_enter Try.func58, Try.ntmps58
    go_wp2_with fail
    go_quiet (fail)
    go_wp2_with (go_at_call 76; refine st (canTake _ _) ?_)
    go_ret
    exact ⟨rB (by simp), kept_drewN K0.out _⟩
theorem fitsOp3 (w : World) (z r m k e s : Int) (h0 : 0 ≤ s) : Calls Try.prog 58 #[.agg (inA 3 z r m k e s)] w fun r' w' => r' = .returned (.bool (Pl.inKind ⟨3, z, r, m, k, e, s⟩)) ∧ Kept 0 0 w w' := by
  have K0 := hide (kept_alloc w (.cells (inA 3 z r m k e s) 30))
  rw [show Pl.inKind ⟨3, z, r, m, k, e, s⟩ = ((s == 0) && ((z == 2) || !(m == 1))) from rfl]
  cases a0 : (s == 0)
  · go_enter Try.func58, Try.ntmps58
    go_wp2_with fail
    go_quiet (fail)
    go_wp2_with fail
    go_ret
    exact ⟨rB (by simp), kept_drewN K0.out _⟩
  · cases a1 : (z == 2)
    · go_enter Try.func58, Try.ntmps58
      go_wp2_with fail
      go_quiet (fail)
      go_wp2_with fail
      go_ret
      exact ⟨rB (by simp [bne]), kept_drewN K0.out _⟩
    · go_enter Try.func58, Try.ntmps58
      go_wp2_with fail
      go_quiet (fail)
      go_wp2_with fail
      go_ret
      exact ⟨rB (by simp), kept_drewN K0.out _⟩
theorem fitsOp4 (w : World) (z r m k e s : Int) (h0 : 0 ≤ s) : Calls Try.prog 58 #[.agg (inA 4 z r m k e s)] w fun r' w' => r' = .returned (.bool (Pl.inKind ⟨4, z, r, m, k, e, s⟩)) ∧ Kept 0 0 w w' := by
  have K0 := hide (kept_alloc w (.cells (inA 4 z r m k e s) 30))
  rw [show Pl.inKind ⟨4, z, r, m, k, e, s⟩ = ((s == 0) && ((z == 2) || !(m == 1))) from rfl]
  cases a0 : (s == 0)
  · go_enter Try.func58, Try.ntmps58
    go_wp2_with fail
    go_quiet (fail)
    go_wp2_with fail
    go_ret
    exact ⟨rB (by simp), kept_drewN K0.out _⟩
  · cases a1 : (z == 2)
    · go_enter Try.func58, Try.ntmps58
      go_wp2_with fail
      go_quiet (fail)
      go_wp2_with fail
      go_ret
      exact ⟨rB (by simp [bne]), kept_drewN K0.out _⟩
    · go_enter Try.func58, Try.ntmps58
      go_wp2_with fail
      go_quiet (fail)
      go_wp2_with fail
      go_ret
      exact ⟨rB (by simp), kept_drewN K0.out _⟩
theorem fitsOp5 (w : World) (z r m k e s : Int) (h0 : 0 ≤ s) : Calls Try.prog 58 #[.agg (inA 5 z r m k e s)] w fun r' w' => r' = .returned (.bool (Pl.inKind ⟨5, z, r, m, k, e, s⟩)) ∧ Kept 0 0 w w' := by
  have K0 := hide (kept_alloc w (.cells (inA 5 z r m k e s) 30))
  rw [show Pl.inKind ⟨5, z, r, m, k, e, s⟩ = ((s == 0) && ((z == 2) || !(m == 1))) from rfl]
  cases a0 : (s == 0)
  · go_enter Try.func58, Try.ntmps58
    go_wp2_with fail
    go_quiet (fail)
    go_wp2_with fail
    go_ret
    exact ⟨rB (by simp), kept_drewN K0.out _⟩
  · cases a1 : (z == 2)
    · go_enter Try.func58, Try.ntmps58
      go_wp2_with fail
      go_quiet (fail)
      go_wp2_with fail
      go_ret
      exact ⟨rB (by simp [bne]), kept_drewN K0.out _⟩
    · go_enter Try.func58, Try.ntmps58
      go_wp2_with fail
      go_quiet (fail)
      go_wp2_with fail
      go_ret
      exact ⟨rB (by simp), kept_drewN K0.out _⟩
theorem fitsOp6 (w : World) (z r m k e s : Int) (h0 : 0 ≤ s) : Calls Try.prog 58 #[.agg (inA 6 z r m k e s)] w fun r' w' => r' = .returned (.bool (Pl.inKind ⟨6, z, r, m, k, e, s⟩)) ∧ Kept 0 0 w w' := by
  have K0 := hide (kept_alloc w (.cells (inA 6 z r m k e s) 30))
  rw [show Pl.inKind ⟨6, z, r, m, k, e, s⟩ = ((s == 0) && ((z == 2) || !(m == 1))) from rfl]
  cases a0 : (s == 0)
  · go_enter Try.func58, Try.ntmps58
    go_wp2_with fail
    go_quiet (fail)
    go_wp2_with fail
    go_ret
    exact ⟨rB (by simp), kept_drewN K0.out _⟩
  · cases a1 : (z == 2)
    · go_enter Try.func58, Try.ntmps58
      go_wp2_with fail
      go_quiet (fail)
      go_wp2_with fail
      go_ret
      exact ⟨rB (by simp [bne]), kept_drewN K0.out _⟩
    · go_enter Try.func58, Try.ntmps58
      go_wp2_with fail
      go_quiet (fail)
      go_wp2_with fail
      go_ret
      exact ⟨rB (by simp), kept_drewN K0.out _⟩
theorem fitsOp7 (w : World) (z r m k e s : Int) (h0 : 0 ≤ s) : Calls Try.prog 58 #[.agg (inA 7 z r m k e s)] w fun r' w' => r' = .returned (.bool (Pl.inKind ⟨7, z, r, m, k, e, s⟩)) ∧ Kept 0 0 w w' := by
  have K0 := hide (kept_alloc w (.cells (inA 7 z r m k e s) 30))
  rw [show Pl.inKind ⟨7, z, r, m, k, e, s⟩ = ((s == 0) && ((z == 2) || !(m == 1))) from rfl]
  cases a0 : (s == 0)
  · go_enter Try.func58, Try.ntmps58
    go_wp2_with fail
    go_quiet (fail)
    go_wp2_with fail
    go_ret
    exact ⟨rB (by simp), kept_drewN K0.out _⟩
  · cases a1 : (z == 2)
    · go_enter Try.func58, Try.ntmps58
      go_wp2_with fail
      go_quiet (fail)
      go_wp2_with fail
      go_ret
      exact ⟨rB (by simp [bne]), kept_drewN K0.out _⟩
    · go_enter Try.func58, Try.ntmps58
      go_wp2_with fail
      go_quiet (fail)
      go_wp2_with fail
      go_ret
      exact ⟨rB (by simp), kept_drewN K0.out _⟩
theorem fitsOp8 (w : World) (z r m k e s : Int) (h0 : 0 ≤ s) : Calls Try.prog 58 #[.agg (inA 8 z r m k e s)] w fun r' w' => r' = .returned (.bool (Pl.inKind ⟨8, z, r, m, k, e, s⟩)) ∧ Kept 0 0 w w' := by
  have K0 := hide (kept_alloc w (.cells (inA 8 z r m k e s) 30))
  rw [show Pl.inKind ⟨8, z, r, m, k, e, s⟩ = ((s == 0) && ((z == 2) || !(m == 1))) from rfl]
  cases a0 : (s == 0)
  · go_enter Try.func58, Try.ntmps58
    go_wp2_with fail
    go_quiet (fail)
    go_wp2_with fail
    go_ret
    exact ⟨rB (by simp), kept_drewN K0.out _⟩
  · cases a1 : (z == 2)
    · go_enter Try.func58, Try.ntmps58
      go_wp2_with fail
      go_quiet (fail)
      go_wp2_with fail
      go_ret
      exact ⟨rB (by simp [bne]), kept_drewN K0.out _⟩
    · go_enter Try.func58, Try.ntmps58
      go_wp2_with fail
      go_quiet (fail)
      go_wp2_with fail
      go_ret
      exact ⟨rB (by simp), kept_drewN K0.out _⟩
theorem fitsOp9 (w : World) (z r m k e s : Int) (h0 : 0 ≤ s) : Calls Try.prog 58 #[.agg (inA 9 z r m k e s)] w fun r' w' => r' = .returned (.bool (Pl.inKind ⟨9, z, r, m, k, e, s⟩)) ∧ Kept 0 0 w w' := by
  have K0 := hide (kept_alloc w (.cells (inA 9 z r m k e s) 30))
  rw [show Pl.inKind ⟨9, z, r, m, k, e, s⟩ = ((z == 2) && (s == 0)) from rfl]
  cases a0 : (z == 2)
  · go_enter Try.func58, Try.ntmps58
    go_wp2_with fail
    go_quiet (fail)
    go_wp2_with fail
    go_ret
    exact ⟨rB (by simp), kept_drewN K0.out _⟩
  · go_enter Try.func58, Try.ntmps58
    go_wp2_with fail
    go_quiet (fail)
    go_wp2_with fail
    go_ret
    exact ⟨rB (by simp), kept_drewN K0.out _⟩
theorem fitsOp10 (w : World) (z r m k e s : Int) (h0 : 0 ≤ s) : Calls Try.prog 58 #[.agg (inA 10 z r m k e s)] w fun r' w' => r' = .returned (.bool (Pl.inKind ⟨10, z, r, m, k, e, s⟩)) ∧ Kept 0 0 w w' := by
  have K0 := hide (kept_alloc w (.cells (inA 10 z r m k e s) 30))
  rw [show Pl.inKind ⟨10, z, r, m, k, e, s⟩ = (((z == 2) && (s == 0)) && Pl.plainM m) from rfl]
  cases a0 : (z == 2)
  · go_enter Try.func58, Try.ntmps58
    go_wp2_with fail
    go_quiet (fail)
    go_wp2_with fail
    go_ret
    exact ⟨rB (by simp), kept_drewN K0.out _⟩
  · cases a1 : (s == 0)
    · go_enter Try.func58, Try.ntmps58
      go_wp2_with fail
      go_quiet (fail)
      go_wp2_with fail
      go_ret
      exact ⟨rB (by simp), kept_drewN K0.out _⟩
    · go_enter Try.func58, Try.ntmps58
      go_wp2_with fail
      go_quiet (fail)
      go_wp2_with (go_at_call 77; refine st (isPlain _ _) ?_)
      go_ret
      exact ⟨rB (by simp), kept_drewN K0.out _⟩
theorem fitsOp11 (w : World) (z r m k e s : Int) (h0 : 0 ≤ s) : Calls Try.prog 58 #[.agg (inA 11 z r m k e s)] w fun r' w' => r' = .returned (.bool (Pl.inKind ⟨11, z, r, m, k, e, s⟩)) ∧ Kept 0 0 w w' := by
  have K0 := hide (kept_alloc w (.cells (inA 11 z r m k e s) 30))
  rw [show Pl.inKind ⟨11, z, r, m, k, e, s⟩ = (((r == 0) && decide (s ≤ 3)) && ((m == 0) || Pl.memM m)) from rfl]
  cases a0 : (r == 0)
  · go_enter Try.func58, Try.ntmps58
    go_wp2_with fail
    go_quiet (fail)
    go_wp2_with fail
    go_ret
    exact ⟨rB (by simp), kept_drewN K0.out _⟩
  · cases a1 : decide (s ≤ 3)
    · go_enter Try.func58, Try.ntmps58
      go_wp2_with fail
      go_quiet (fail)
      go_wp2_with fail
      go_ret
      exact ⟨rB (by simp), kept_drewN K0.out _⟩
    · go_enter Try.func58, Try.ntmps58
      go_wp2_with fail
      go_quiet (fail)
      go_wp2_with (go_at_call 76; refine st (canTake _ _) ?_)
      go_ret
      exact ⟨rB (by simp), kept_drewN K0.out _⟩
theorem fitsOp12 (w : World) (z r m k e s : Int) (h0 : 0 ≤ s) : Calls Try.prog 58 #[.agg (inA 12 z r m k e s)] w fun r' w' => r' = .returned (.bool (Pl.inKind ⟨12, z, r, m, k, e, s⟩)) ∧ Kept 0 0 w w' := by
  have K0 := hide (kept_alloc w (.cells (inA 12 z r m k e s) 30))
  rw [show Pl.inKind ⟨12, z, r, m, k, e, s⟩ = ((m == 0)) from rfl]
  go_enter Try.func58, Try.ntmps58
  go_wp2_with fail
  go_quiet (fail)
  go_wp2_with fail
  go_ret
  exact ⟨rB (by simp), kept_drewN K0.out _⟩
theorem fitsOp13 (w : World) (z r m k e s : Int) (h0 : 0 ≤ s) : Calls Try.prog 58 #[.agg (inA 13 z r m k e s)] w fun r' w' => r' = .returned (.bool (Pl.inKind ⟨13, z, r, m, k, e, s⟩)) ∧ Kept 0 0 w w' := by
  have K0 := hide (kept_alloc w (.cells (inA 13 z r m k e s) 30))
  rw [show Pl.inKind ⟨13, z, r, m, k, e, s⟩ = (((z == 2) && decide (r ≤ 1)) && (m == 7)) from rfl]
  cases a0 : (z == 2)
  · go_enter Try.func58, Try.ntmps58
    go_wp2_with fail
    go_quiet (fail)
    go_wp2_with fail
    go_ret
    exact ⟨rB (by simp), kept_drewN K0.out _⟩
  · cases a1 : decide (r ≤ 1)
    · go_enter Try.func58, Try.ntmps58
      go_wp2_with fail
      go_quiet (fail)
      go_wp2_with fail
      go_ret
      exact ⟨rB (by simp), kept_drewN K0.out _⟩
    · go_enter Try.func58, Try.ntmps58
      go_wp2_with fail
      go_quiet (fail)
      go_wp2_with fail
      go_ret
      exact ⟨rB (by simp), kept_drewN K0.out _⟩
theorem fitsOp14 (w : World) (z r m k e s : Int) (h0 : 0 ≤ s) : Calls Try.prog 58 #[.agg (inA 14 z r m k e s)] w fun r' w' => r' = .returned (.bool (Pl.inKind ⟨14, z, r, m, k, e, s⟩)) ∧ Kept 0 0 w w' := by
  have K0 := hide (kept_alloc w (.cells (inA 14 z r m k e s) 30))
  rw [show Pl.inKind ⟨14, z, r, m, k, e, s⟩ = ((((z == 2) && (r == 0)) && decide (s ≤ 1)) && Pl.plainM m) from rfl]
  cases a0 : (z == 2)
  · go_enter Try.func58, Try.ntmps58
    go_wp2_with fail
    go_quiet (fail)
    go_wp2_with fail
    go_ret
    exact ⟨rB (by simp), kept_drewN K0.out _⟩
  · cases a1 : (r == 0)
    · go_enter Try.func58, Try.ntmps58
      go_wp2_with fail
      go_quiet (fail)
      go_wp2_with fail
      go_ret
      exact ⟨rB (by simp), kept_drewN K0.out _⟩
    · cases a2 : decide (s ≤ 1)
      · go_enter Try.func58, Try.ntmps58
        go_wp2_with fail
        go_quiet (fail)
        go_wp2_with fail
        go_ret
        exact ⟨rB (by simp), kept_drewN K0.out _⟩
      · go_enter Try.func58, Try.ntmps58
        go_wp2_with fail
        go_quiet (fail)
        go_wp2_with (go_at_call 77; refine st (isPlain _ _) ?_)
        go_ret
        exact ⟨rB (by simp), kept_drewN K0.out _⟩
theorem fitsOp15 (w : World) (z r m k e s : Int) (h0 : 0 ≤ s) : Calls Try.prog 58 #[.agg (inA 15 z r m k e s)] w fun r' w' => r' = .returned (.bool (Pl.inKind ⟨15, z, r, m, k, e, s⟩)) ∧ Kept 0 0 w w' := by
  have K0 := hide (kept_alloc w (.cells (inA 15 z r m k e s) 30))
  rw [show Pl.inKind ⟨15, z, r, m, k, e, s⟩ = (bif s == 3 then ((z == 2) && (r == 0)) && Pl.nowO m e else (((z == 2) && decide (s ≤ 6)) && Pl.zeroO m k e) && (decide (3 < s) || (r == 0))) from rfl]
  cases a0 : (z == 2)
  · go_enter Try.func58, Try.ntmps58
    go_wp2_with fail
    go_quiet (fail)
    go_wp2_with fail
    go_ret
    exact ⟨rB (by cases hs : (s == 3) <;> simp), kept_drewN K0.out _⟩
  · go_enter Try.func58, Try.ntmps58
    go_wp2_with fail
    go_quiet (fail)
    go_wp2_with (go_at_call 78; refine (fitsFlow _ 15 z r m k e s h0).mono ?_; rintro e9 w2 ⟨rfl, k2⟩)
    go_ret
    exact ⟨rB (by cases hs : (s == 3) <;> simp), (kept_drewN K0.out _).trans k2⟩
theorem fitsOp16 (w : World) (z r m k e s : Int) (h0 : 0 ≤ s) : Calls Try.prog 58 #[.agg (inA 16 z r m k e s)] w fun r' w' => r' = .returned (.bool (Pl.inKind ⟨16, z, r, m, k, e, s⟩)) ∧ Kept 0 0 w w' := by
  have K0 := hide (kept_alloc w (.cells (inA 16 z r m k e s) 30))
  rw [show Pl.inKind ⟨16, z, r, m, k, e, s⟩ = (((z == 2) && (s == 0)) && !(m == 1)) from rfl]
  cases a0 : (z == 2)
  · go_enter Try.func58, Try.ntmps58
    go_wp2_with fail
    go_quiet (fail)
    go_wp2_with fail
    go_ret
    exact ⟨rB (by simp), kept_drewN K0.out _⟩
  · cases a1 : (s == 0)
    · go_enter Try.func58, Try.ntmps58
      go_wp2_with fail
      go_quiet (fail)
      go_wp2_with fail
      go_ret
      exact ⟨rB (by simp), kept_drewN K0.out _⟩
    · go_enter Try.func58, Try.ntmps58
      go_wp2_with fail
      go_quiet (fail)
      go_wp2_with fail
      go_ret
      exact ⟨rB (by simp [bne]), kept_drewN K0.out _⟩
theorem fitsOp17 (w : World) (z r m k e s : Int) (h0 : 0 ≤ s) : Calls Try.prog 58 #[.agg (inA 17 z r m k e s)] w fun r' w' => r' = .returned (.bool (Pl.inKind ⟨17, z, r, m, k, e, s⟩)) ∧ Kept 0 0 w w' := by
  have K0 := hide (kept_alloc w (.cells (inA 17 z r m k e s) 30))
  rw [show Pl.inKind ⟨17, z, r, m, k, e, s⟩ = (((z == 2) && (s == 0)) && !(m == 1)) from rfl]
  cases a0 : (z == 2)
  · go_enter Try.func58, Try.ntmps58
    go_wp2_with fail
    go_quiet (fail)
    go_wp2_with fail
    go_ret
    exact ⟨rB (by simp), kept_drewN K0.out _⟩
  · cases a1 : (s == 0)
    · go_enter Try.func58, Try.ntmps58
      go_wp2_with fail
      go_quiet (fail)
      go_wp2_with fail
      go_ret
      exact ⟨rB (by simp), kept_drewN K0.out _⟩
    · go_enter Try.func58, Try.ntmps58
      go_wp2_with fail
      go_quiet (fail)
      go_wp2_with fail
      go_ret
      exact ⟨rB (by simp [bne]), kept_drewN K0.out _⟩
theorem fitsOp18 (w : World) (z r m k e s : Int) (h0 : 0 ≤ s) : Calls Try.prog 58 #[.agg (inA 18 z r m k e s)] w fun r' w' => r' = .returned (.bool (Pl.inKind ⟨18, z, r, m, k, e, s⟩)) ∧ Kept 0 0 w w' := by
  have K0 := hide (kept_alloc w (.cells (inA 18 z r m k e s) 30))
  rw [show Pl.inKind ⟨18, z, r, m, k, e, s⟩ = (((!(z == 2)) && decide (s ≤ 1)) && (m == 0)) from rfl]
  cases a0 : (z == 2)
  · cases a1 : decide (s ≤ 1)
    · go_enter Try.func58, Try.ntmps58
      go_wp2_with fail
      go_quiet (fail)
      go_wp2_with fail
      go_ret
      exact ⟨rB (by simp), kept_drewN K0.out _⟩
    · go_enter Try.func58, Try.ntmps58
      go_wp2_with fail
      go_quiet (fail)
      go_wp2_with fail
      go_ret
      exact ⟨rB (by simp), kept_drewN K0.out _⟩
  · go_enter Try.func58, Try.ntmps58
    go_wp2_with fail
    go_quiet (fail)
    go_wp2_with fail
    go_ret
    exact ⟨rB (by simp), kept_drewN K0.out _⟩
theorem fitsOp19 (w : World) (z r m k e s : Int) (h0 : 0 ≤ s) : Calls Try.prog 58 #[.agg (inA 19 z r m k e s)] w fun r' w' => r' = .returned (.bool (Pl.inKind ⟨19, z, r, m, k, e, s⟩)) ∧ Kept 0 0 w w' := by
  have K0 := hide (kept_alloc w (.cells (inA 19 z r m k e s) 30))
  rw [show Pl.inKind ⟨19, z, r, m, k, e, s⟩ = ((z == 2) && ((((s == 0) && (r == 0)) && Pl.nowO m e) || ((s == 1) && Pl.zeroO m k e))) from rfl]
  cases a0 : (z == 2)
  · go_enter Try.func58, Try.ntmps58
    go_wp2_with fail
    go_quiet (fail)
    go_wp2_with fail
    go_ret
    exact ⟨rB (by simp), kept_drewN K0.out _⟩
  · go_enter Try.func58, Try.ntmps58
    go_wp2_with fail
    go_quiet (fail)
    go_wp2_with (go_at_call 79; refine (fitsStatus _ 19 z r m k e s).mono ?_; rintro e9 w2 ⟨rfl, k2⟩)
    go_ret
    exact ⟨rB (by simp [Bool.and_assoc]), (kept_drewN K0.out _).trans k2⟩
theorem fitsOpNo (w : World) (op z r m k e s : Int) (h : op < 1 ∨ 19 < op) : Calls Try.prog 58 #[.agg (inA op z r m k e s)] w fun r' w' => r' = .returned (.bool (Pl.inKind ⟨op, z, r, m, k, e, s⟩)) ∧ Kept 0 0 w w' := by
  have K0 := hide (kept_alloc w (.cells (inA op z r m k e s) 30))
  have G : Hid (Pl.inKind ⟨op, z, r, m, k, e, s⟩ = false) := hide (by
    unfold Pl.inKind
    simp only
    have n1 : (op == 1) = false := by simp; omega
    have n2 : (op == 2) = false := by simp; omega
    have n3 : (op == 3) = false := by simp; omega
    have n4 : (op == 4) = false := by simp; omega
    have n5 : (op == 5) = false := by simp; omega
    have n6 : (op == 6) = false := by simp; omega
    have n7 : (op == 7) = false := by simp; omega
    have n8 : (op == 8) = false := by simp; omega
    have n9 : (op == 9) = false := by simp; omega
    have n10 : (op == 10) = false := by simp; omega
    have n11 : (op == 11) = false := by simp; omega
    have n12 : (op == 12) = false := by simp; omega
    have n13 : (op == 13) = false := by simp; omega
    have n14 : (op == 14) = false := by simp; omega
    have n15 : (op == 15) = false := by simp; omega
    have n16 : (op == 16) = false := by simp; omega
    have n17 : (op == 17) = false := by simp; omega
    have n18 : (op == 18) = false := by simp; omega
    have n19 : (op == 19) = false := by simp; omega
    rw [n1, n3, n4, n5, n6, n7, n8, n2, n9, n10, n11, n12, n13, n14, n16, n17, n18, n19, n15]
    rfl)
  go_enter Try.func58, Try.ntmps58
  go_wp2_with fail
  go_quiet (fail)
  go_wp2_with fail
  go_ret
  exact ⟨rB G.out.symm, kept_drewN K0.out _⟩
theorem fitsOp (w : World) (op z r m k e s : Int) (h0 : 0 ≤ s) : Calls Try.prog 58 #[.agg (inA op z r m k e s)] w fun r' w' => r' = .returned (.bool (Pl.inKind ⟨op, z, r, m, k, e, s⟩)) ∧ Kept 0 0 w w' := by
  by_cases h : op < 1 ∨ 19 < op
  · exact fitsOpNo w op z r m k e s h
  · have hs : op = 1 ∨ op = 2 ∨ op = 3 ∨ op = 4 ∨ op = 5 ∨ op = 6 ∨ op = 7 ∨ op = 8 ∨ op = 9 ∨ op = 10 ∨ op = 11 ∨ op = 12 ∨ op = 13 ∨ op = 14 ∨ op = 15 ∨ op = 16 ∨ op = 17 ∨ op = 18 ∨ op = 19 := by omega
    rcases hs with rfl | rfl | rfl | rfl | rfl | rfl | rfl | rfl | rfl | rfl | rfl | rfl | rfl | rfl | rfl | rfl | rfl | rfl | rfl
    · exact fitsOp1 w z r m k e s h0
    · exact fitsOp2 w z r m k e s h0
    · exact fitsOp3 w z r m k e s h0
    · exact fitsOp4 w z r m k e s h0
    · exact fitsOp5 w z r m k e s h0
    · exact fitsOp6 w z r m k e s h0
    · exact fitsOp7 w z r m k e s h0
    · exact fitsOp8 w z r m k e s h0
    · exact fitsOp9 w z r m k e s h0
    · exact fitsOp10 w z r m k e s h0
    · exact fitsOp11 w z r m k e s h0
    · exact fitsOp12 w z r m k e s h0
    · exact fitsOp13 w z r m k e s h0
    · exact fitsOp14 w z r m k e s h0
    · exact fitsOp15 w z r m k e s h0
    · exact fitsOp16 w z r m k e s h0
    · exact fitsOp17 w z r m k e s h0
    · exact fitsOp18 w z r m k e s h0
    · exact fitsOp19 w z r m k e s h0
end Go.Proofs.Ytloaedfoecjalaa

namespace Go.Proofs.Ytloaedfoecjalaa
open Go.RowKit
set_option linter.unusedVariables false
theorem implGoodIns (w : World) (op z r m k e s : Int) (wfop : (Lit.int .i64 op).wf = true) (wfz : (Lit.int .i64 z).wf = true) (wfr : (Lit.int .i64 r).wf = true) (wfm : (Lit.int .i64 m).wf = true) (wfk : (Lit.int .i64 k).wf = true) (wfe : (Lit.int .i64 e).wf = true) (wfs : (Lit.int .i64 s).wf = true) : Calls Try.prog 32 #[.agg (inA op z r m k e s)] w fun r' w' => r' = .returned (.bool (Pl.inOk ⟨op, z, r, m, k, e, s⟩)) ∧ Kept 0 0 w w' := by
  have K0 := hide (kept_alloc w (.cells (inA op z r m k e s) 30))
  have B0 := hide (Blk.new w (inA op z r m k e s) 30)
  rw [Pl.ok_of_fits]
  simp only
  cases h1 : Pl.fits ⟨op, z, r, m, k, e, s⟩
  · go_enter Try.func32, Try.ntmps32
    go_wp2_with (go_at_call 55; refine (fitsWords _ op z r m k e s).mono ?_; rw [h1]; rintro e9 w1 ⟨rfl, k1⟩)
    go_ret
    exact ⟨rB (by simp), K0.out.trans k1⟩
  · have h0 : 0 ≤ s := ((Pl.fits_iff _).1 h1).2.2.2.2.2.1.1
    cases h2 : Pl.opOk m k e
    · go_enter Try.func32, Try.ntmps32
      go_wp2_with (first | (go_at_call 55; refine (fitsWords _ op z r m k e s).mono ?_; rw [h1]; rintro e9 w1 ⟨rfl, k1⟩; have B1 := hide (B0.out.kept0 k1); have K1 := hide (K0.out.trans k1); obtain ⟨b0, b1, b2, b3, b4, b5, b6⟩ := B1.out.c7; clear k1) | (go_at_call 56; refine (implGoodOperand _ m k e wfm wfk wfe).mono ?_; rw [h2]; rintro e9 w2 ⟨rfl, k2⟩; have B2 := hide (B1.out.kept0 k2); have K2 := hide (K1.out.trans k2); obtain ⟨c0, c1, c2, c3, c4, c5, c6⟩ := B2.out.c7; clear k2))
      go_ret
      exact ⟨rB (by simp), K2.out⟩
    · cases h3 : Pl.fitZ ⟨op, z, r, m, k, e, s⟩
      · go_enter Try.func32, Try.ntmps32
        go_wp2_with (first | (go_at_call 55; refine (fitsWords _ op z r m k e s).mono ?_; rw [h1]; rintro e9 w1 ⟨rfl, k1⟩; have B1 := hide (B0.out.kept0 k1); have K1 := hide (K0.out.trans k1); obtain ⟨b0, b1, b2, b3, b4, b5, b6⟩ := B1.out.c7; clear k1) | (go_at_call 56; refine (implGoodOperand _ m k e wfm wfk wfe).mono ?_; rw [h2]; rintro e9 w2 ⟨rfl, k2⟩; have B2 := hide (B1.out.kept0 k2); have K2 := hide (K1.out.trans k2); obtain ⟨c0, c1, c2, c3, c4, c5, c6⟩ := B2.out.c7; clear k2) | (go_at_call 57; refine (fitsSize _ op z r m k e s wfe).mono ?_; rw [h3]; rintro e9 w3 ⟨rfl, k3⟩; have B3 := hide (B2.out.kept0 k3); have K3 := hide (K2.out.trans k3); obtain ⟨d0, d1, d2, d3, d4, d5, d6⟩ := B3.out.c7; clear k3))
        go_ret
        exact ⟨rB (by simp), K3.out⟩
      · go_enter Try.func32, Try.ntmps32
        go_wp2_with (first | (go_at_call 55; refine (fitsWords _ op z r m k e s).mono ?_; rw [h1]; rintro e9 w1 ⟨rfl, k1⟩; have B1 := hide (B0.out.kept0 k1); have K1 := hide (K0.out.trans k1); obtain ⟨b0, b1, b2, b3, b4, b5, b6⟩ := B1.out.c7; clear k1) | (go_at_call 56; refine (implGoodOperand _ m k e wfm wfk wfe).mono ?_; rw [h2]; rintro e9 w2 ⟨rfl, k2⟩; have B2 := hide (B1.out.kept0 k2); have K2 := hide (K1.out.trans k2); obtain ⟨c0, c1, c2, c3, c4, c5, c6⟩ := B2.out.c7; clear k2) | (go_at_call 57; refine (fitsSize _ op z r m k e s wfe).mono ?_; rw [h3]; rintro e9 w3 ⟨rfl, k3⟩; have B3 := hide (B2.out.kept0 k3); have K3 := hide (K2.out.trans k3); obtain ⟨d0, d1, d2, d3, d4, d5, d6⟩ := B3.out.c7; clear k3) | (go_at_call 58; refine (fitsOp _ op z r m k e s h0).mono ?_; rintro e9 w4 ⟨rfl, k4⟩; have B4 := hide (B3.out.kept0 k4); have K4 := hide (K3.out.trans k4); clear k4))
        go_ret
        exact ⟨rB (by simp), K4.out⟩
end Go.Proofs.Ytloaedfoecjalaa

namespace Go.Proofs.Ytloaedfoecjalaa
open Go.RowKit
set_option linter.unusedVariables false
set_option linter.unusedSimpArgs false
theorem specXReadsOf (w : World) (op z r m k e s : Int) : Calls Try.prog 12 #[.agg (inA op z r m k e s)] w fun e' w' => e' = .returned (.tuple #[iv (if Pl.inOk ⟨op, z, r, m, k, e, s⟩ = true then Pl.reads ⟨op, z, r, m, k, e, s⟩ else 0), .bool (Pl.inOk ⟨op, z, r, m, k, e, s⟩)]) ∧ Kept 0 0 w w' := by
  have K0 := hide (kept_alloc w (.cells (inA op z r m k e s) 30))
  have B0 := hide (Blk.new w (inA op z r m k e s) 30)
  cases h : Pl.inOk ⟨op, z, r, m, k, e, s⟩
  · go_enter Try.func12, Try.ntmps12
    go_wp2_with (go_at_call 29; refine (specGoodIns _ op z r m k e s).mono ?_; rintro e9 w2 ⟨rfl, k2⟩; rw [h]; have K2 := hide (K0.out.trans k2); clear k2)
    go_ret2
    exact ⟨by simp, K2.out⟩
  · go_enter Try.func12, Try.ntmps12
    go_wp2_with (first | (go_at_call 29; refine (specGoodIns _ op z r m k e s).mono ?_; rintro e9 w2 ⟨rfl, k2⟩; rw [h]; have B2 := hide (B0.out.kept0 k2); have K2 := hide (K0.out.trans k2); have p2 := B2.out.all; clear k2) | (go_at_call 34; refine (specReads _ op z r m k e s (Pl.inD_of h)).mono ?_; rintro e9 w3 ⟨rfl, k3⟩; have K3 := hide (K2.out.trans k3); clear k3))
    go_ret2
    exact ⟨by simp, K3.out⟩
theorem implXReadsOf (w : World) (op z r m k e s : Int) (wfop : (Lit.int .i64 op).wf = true) (wfz : (Lit.int .i64 z).wf = true) (wfr : (Lit.int .i64 r).wf = true) (wfm : (Lit.int .i64 m).wf = true) (wfk : (Lit.int .i64 k).wf = true) (wfe : (Lit.int .i64 e).wf = true) (wfs : (Lit.int .i64 s).wf = true) : Calls Try.prog 13 #[.agg (inA op z r m k e s)] w fun e' w' => e' = .returned (.tuple #[iv (if Pl.inOk ⟨op, z, r, m, k, e, s⟩ = true then Pl.reads ⟨op, z, r, m, k, e, s⟩ else 0), .bool (Pl.inOk ⟨op, z, r, m, k, e, s⟩)]) ∧ Kept 0 0 w w' := by
  have K0 := hide (kept_alloc w (.cells (inA op z r m k e s) 30))
  have B0 := hide (Blk.new w (inA op z r m k e s) 30)
  cases h : Pl.inOk ⟨op, z, r, m, k, e, s⟩
  · go_enter Try.func13, Try.ntmps13
    go_wp2_with (go_at_call 32; refine (implGoodIns _ op z r m k e s wfop wfz wfr wfm wfk wfe wfs).mono ?_; rintro e9 w2 ⟨rfl, k2⟩; rw [h]; have K2 := hide (K0.out.trans k2); clear k2)
    go_ret2
    exact ⟨by simp, K2.out⟩
  · go_enter Try.func13, Try.ntmps13
    go_wp2_with (first | (go_at_call 32; refine (implGoodIns _ op z r m k e s wfop wfz wfr wfm wfk wfe wfs).mono ?_; rintro e9 w2 ⟨rfl, k2⟩; rw [h]; have B2 := hide (B0.out.kept0 k2); have K2 := hide (K0.out.trans k2); have p2 := B2.out.all; clear k2) | (go_at_call 35; refine (implReads _ op z r m k e s (Pl.inD_of h)).mono ?_; rintro e9 w3 ⟨rfl, k3⟩; have K3 := hide (K2.out.trans k3); clear k3))
    go_ret2
    exact ⟨by simp, K3.out⟩
end Go.Proofs.Ytloaedfoecjalaa

namespace Go.Proofs.Ytloaedfoecjalaa
open Go.RowKit
set_option linter.unusedVariables false

theorem toOpnd (d e f : Int) (w : World) :
    Calls Try.prog 31 #[.agg #[.int .i64 d, .int .i64 e, .int .i64 f]] w fun r w' => r = .returned (.agg #[.int .i64 d, .int .i64 e, .int .i64 f]) ∧ Kept 0 0 w w' := by
  go_enter Try.func31, Try.ntmps31
  go_wp2
  refine bodyPost_ret (v := .agg #[.int .i64 d, .int .i64 e, .int .i64 f]) ?_ rfl ⟨rfl, kept_new (kept_new (kept_alloc w _) _) _⟩
  rw [results_one rfl]; go_simp
theorem toIns (a b c d e f x : Int) (w : World) :
    Calls Try.prog 10 #[.agg #[.int .i64 a, .int .i64 b, .int .i64 c, .int .i64 d, .int .i64 e, .int .i64 f, .int .i64 x]] w fun r w' => r = .returned (.agg #[.int .i64 a, .int .i64 b, .int .i64 c, .int .i64 d, .int .i64 e, .int .i64 f, .int .i64 x]) ∧ Kept 0 0 w w' := by
  have K0 := hide (kept_new (kept_new (kept_alloc w (.cells #[.int .i64 a, .int .i64 b, .int .i64 c, .int .i64 d, .int .i64 e, .int .i64 f, .int .i64 x] 25)) (.cells #[.int .i64 0, .int .i64 0, .int .i64 0, .int .i64 0, .int .i64 0, .int .i64 0, .int .i64 0] 30)) (.cells #[.int .i64 a, .int .i64 b, .int .i64 c, .int .i64 0, .int .i64 0, .int .i64 0, .int .i64 0] 30))
  have P0 := hide (((Blk.new w #[.int .i64 a, .int .i64 b, .int .i64 c, .int .i64 d, .int .i64 e, .int .i64 f, .int .i64 x] 25).alloc (.cells #[.int .i64 0, .int .i64 0, .int .i64 0, .int .i64 0, .int .i64 0, .int .i64 0, .int .i64 0] 30)).alloc (.cells #[.int .i64 a, .int .i64 b, .int .i64 c, .int .i64 0, .int .i64 0, .int .i64 0, .int .i64 0] 30))
  have R0 := (Blk.new (w.alloc (.cells #[.int .i64 a, .int .i64 b, .int .i64 c, .int .i64 d, .int .i64 e, .int .i64 f, .int .i64 x] 25)) #[.int .i64 0, .int .i64 0, .int .i64 0, .int .i64 0, .int .i64 0, .int .i64 0, .int .i64 0] 30).alloc (.cells #[.int .i64 a, .int .i64 b, .int .i64 c, .int .i64 0, .int .i64 0, .int .i64 0, .int .i64 0] 30)
  have X0 := Blk.new ((w.alloc (.cells #[.int .i64 a, .int .i64 b, .int .i64 c, .int .i64 d, .int .i64 e, .int .i64 f, .int .i64 x] 25)).alloc (.cells #[.int .i64 0, .int .i64 0, .int .i64 0, .int .i64 0, .int .i64 0, .int .i64 0, .int .i64 0] 30)) #[.int .i64 a, .int .i64 b, .int .i64 c, .int .i64 0, .int .i64 0, .int .i64 0, .int .i64 0] 30
  simp only [World.size_alloc] at R0 X0
  replace R0 := hide R0
  replace X0 := hide X0
  go_enter Try.func10, Try.ntmps10
  go_wp2_with (first | (go_at_call 31; refine (toOpnd d e f _).mono ?_; rintro r9 w2 ⟨rfl, k2⟩; have P2 := hide (P0.out.kept0 k2); have R2 := hide (R0.out.kept0 k2); have X2 := hide (X0.out.kept0 k2); have K2 := hide (K0.out.trans k2); have p0 := P2.out.cell (i := 0) rfl; have p1 := P2.out.cell (i := 1) rfl; have p2 := P2.out.cell (i := 2) rfl; have p3 := P2.out.cell (i := 3) rfl; have p4 := P2.out.cell (i := 4) rfl; have p5 := P2.out.cell (i := 5) rfl; have p6 := P2.out.cell (i := 6) rfl; have r0 := R2.out.cell (i := 0) rfl; have fr0 := R2.out.frozen 0; have r1 := R2.out.cell (i := 1) rfl; have fr1 := R2.out.frozen 1; have r2 := R2.out.cell (i := 2) rfl; have fr2 := R2.out.frozen 2; have r3 := R2.out.cell (i := 3) rfl; have fr3 := R2.out.frozen 3; have r4 := R2.out.cell (i := 4) rfl; have fr4 := R2.out.frozen 4; have r5 := R2.out.cell (i := 5) rfl; have fr5 := R2.out.frozen 5; have r6 := R2.out.cell (i := 6) rfl; have fr6 := R2.out.frozen 6; have y0 := X2.out.cell (i := 0) rfl; have fy0 := X2.out.frozen 0; have y1 := X2.out.cell (i := 1) rfl; have fy1 := X2.out.frozen 1; have y2 := X2.out.cell (i := 2) rfl; have fy2 := X2.out.frozen 2; have y3 := X2.out.cell (i := 3) rfl; have fy3 := X2.out.frozen 3; have y4 := X2.out.cell (i := 4) rfl; have fy4 := X2.out.frozen 4; have y5 := X2.out.cell (i := 5) rfl; have fy5 := X2.out.frozen 5; have y6 := X2.out.cell (i := 6) rfl; have fy6 := X2.out.frozen 6; have s2 := X2.out.lt; clear k2))
  refine bodyPost_ret (v := .agg #[.int .i64 a, .int .i64 b, .int .i64 c, .int .i64 d, .int .i64 e, .int .i64 f, .int .i64 x]) ?_ rfl ⟨rfl, ?_⟩
  · rw [results_one rfl]; go_simp
  · exact (kept_set (kept_set (kept_set (kept_set (kept_set (kept_set (kept_set (kept_set (kept_set (kept_set (kept_set K2.out _ _ _ (.inr (by omega))) _ _ _ (.inr (by omega))) _ _ _ (.inr (by omega))) _ _ _ (.inr (by omega))) _ _ _ (.inr (by omega))) _ _ _ (.inr (by omega))) _ _ _ (.inr (by omega))) _ _ _ (.inr (by omega))) _ _ _ (.inr (by omega))) _ _ _ (.inr (by omega))) _ _ _ (.inr (by omega)))
end Go.Proofs.Ytloaedfoecjalaa

