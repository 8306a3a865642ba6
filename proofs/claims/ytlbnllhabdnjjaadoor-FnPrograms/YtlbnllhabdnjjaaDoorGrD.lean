/- What the program asks of an instruction by its operation. What the program's GoodIns answers, for every argument. -/
import Derived.Test.YtlbnllhabdnjjaaDoorGrC
import Derived.BigQuiet
import Derived.Deep.QuietTactic
namespace Go.Proofs.YtlbnllhabdnjjaaDoor
open Go.RowKit
set_option linter.unusedVariables false
theorem fitsOp1 (w : World) (z r m k e s : Int) (h0 : 0 ≤ s) : Calls Tryd.prog 42 #[.agg #[.int .i64 1, .int .i64 z, .int .i64 r, .int .i64 m, .int .i64 k, .int .i64 e, .int .i64 s]] w fun r' w' => r' = .returned (.bool (Pl.inKind ⟨1, z, r, m, k, e, s⟩)) ∧ Kept 0 0 w w' := by
  have K0 := hide (kept_alloc w (.cells #[.int .i64 1, .int .i64 z, .int .i64 r, .int .i64 m, .int .i64 k, .int .i64 e, .int .i64 s] 36))
  rw [show Pl.inKind ⟨1, z, r, m, k, e, s⟩ = ((s == 0) && ((z == 2) || !(m == 1))) from rfl]
  cases a0 : (s == 0)
  · go_enter Tryd.func42, Tryd.ntmps42
    go_wp2_with fail
    go_quiet (fail)
    go_wp2_with fail
    go_ret
    exact ⟨rB (by simp), kept_drewN K0.out _⟩
  · cases a1 : (z == 2)
    · go_enter Tryd.func42, Tryd.ntmps42
      go_wp2_with fail
      go_quiet (fail)
      go_wp2_with fail
      go_ret
      exact ⟨rB (by simp [bne]), kept_drewN K0.out _⟩
    · go_enter Tryd.func42, Tryd.ntmps42
      go_wp2_with fail
      go_quiet (fail)
      go_wp2_with fail
      go_ret
      exact ⟨rB (by simp), kept_drewN K0.out _⟩
theorem fitsOp2 (w : World) (z r m k e s : Int) (h0 : 0 ≤ s) : Calls Tryd.prog 42 #[.agg #[.int .i64 2, .int .i64 z, .int .i64 r, .int .i64 m, .int .i64 k, .int .i64 e, .int .i64 s]] w fun r' w' => r' = .returned (.bool (Pl.inKind ⟨2, z, r, m, k, e, s⟩)) ∧ Kept 0 0 w w' := by
  have K0 := hide (kept_alloc w (.cells #[.int .i64 2, .int .i64 z, .int .i64 r, .int .i64 m, .int .i64 k, .int .i64 e, .int .i64 s] 36))
  rw [show Pl.inKind ⟨2, z, r, m, k, e, s⟩ = ((s == 0) && ((m == 0) || Pl.memM m)) from rfl]
  cases a0 : (s == 0)
  · go_enter Tryd.func42, Tryd.ntmps42
    go_wp2_with fail
    go_quiet (fail)
    go_wp2_with fail
    go_ret
    exact ⟨rB (by simp), kept_drewN K0.out _⟩
  · go_enter Tryd.func42, Tryd.ntmps42
    go_wp2_with fail
    go_quiet (fail)
    go_wp2_with (go_at_call 65; refine (canTake _ _).mono ?_; rintro e9 w9 ⟨rfl, hw⟩; have hw2 := hw.symm; clear hw; subst hw2)
    go_ret
    exact ⟨rB (by simp), kept_drewN K0.out _⟩
theorem fitsOp3 (w : World) (z r m k e s : Int) (h0 : 0 ≤ s) : Calls Tryd.prog 42 #[.agg #[.int .i64 3, .int .i64 z, .int .i64 r, .int .i64 m, .int .i64 k, .int .i64 e, .int .i64 s]] w fun r' w' => r' = .returned (.bool (Pl.inKind ⟨3, z, r, m, k, e, s⟩)) ∧ Kept 0 0 w w' := by
  have K0 := hide (kept_alloc w (.cells #[.int .i64 3, .int .i64 z, .int .i64 r, .int .i64 m, .int .i64 k, .int .i64 e, .int .i64 s] 36))
  rw [show Pl.inKind ⟨3, z, r, m, k, e, s⟩ = ((s == 0) && ((z == 2) || !(m == 1))) from rfl]
  cases a0 : (s == 0)
  · go_enter Tryd.func42, Tryd.ntmps42
    go_wp2_with fail
    go_quiet (fail)
    go_wp2_with fail
    go_ret
    exact ⟨rB (by simp), kept_drewN K0.out _⟩
  · cases a1 : (z == 2)
    · go_enter Tryd.func42, Tryd.ntmps42
      go_wp2_with fail
      go_quiet (fail)
      go_wp2_with fail
      go_ret
      exact ⟨rB (by simp [bne]), kept_drewN K0.out _⟩
    · go_enter Tryd.func42, Tryd.ntmps42
      go_wp2_with fail
      go_quiet (fail)
      go_wp2_with fail
      go_ret
      exact ⟨rB (by simp), kept_drewN K0.out _⟩
theorem fitsOp4 (w : World) (z r m k e s : Int) (h0 : 0 ≤ s) : Calls Tryd.prog 42 #[.agg #[.int .i64 4, .int .i64 z, .int .i64 r, .int .i64 m, .int .i64 k, .int .i64 e, .int .i64 s]] w fun r' w' => r' = .returned (.bool (Pl.inKind ⟨4, z, r, m, k, e, s⟩)) ∧ Kept 0 0 w w' := by
  have K0 := hide (kept_alloc w (.cells #[.int .i64 4, .int .i64 z, .int .i64 r, .int .i64 m, .int .i64 k, .int .i64 e, .int .i64 s] 36))
  rw [show Pl.inKind ⟨4, z, r, m, k, e, s⟩ = ((s == 0) && ((z == 2) || !(m == 1))) from rfl]
  cases a0 : (s == 0)
  · go_enter Tryd.func42, Tryd.ntmps42
    go_wp2_with fail
    go_quiet (fail)
    go_wp2_with fail
    go_ret
    exact ⟨rB (by simp), kept_drewN K0.out _⟩
  · cases a1 : (z == 2)
    · go_enter Tryd.func42, Tryd.ntmps42
      go_wp2_with fail
      go_quiet (fail)
      go_wp2_with fail
      go_ret
      exact ⟨rB (by simp [bne]), kept_drewN K0.out _⟩
    · go_enter Tryd.func42, Tryd.ntmps42
      go_wp2_with fail
      go_quiet (fail)
      go_wp2_with fail
      go_ret
      exact ⟨rB (by simp), kept_drewN K0.out _⟩
theorem fitsOp5 (w : World) (z r m k e s : Int) (h0 : 0 ≤ s) : Calls Tryd.prog 42 #[.agg #[.int .i64 5, .int .i64 z, .int .i64 r, .int .i64 m, .int .i64 k, .int .i64 e, .int .i64 s]] w fun r' w' => r' = .returned (.bool (Pl.inKind ⟨5, z, r, m, k, e, s⟩)) ∧ Kept 0 0 w w' := by
  have K0 := hide (kept_alloc w (.cells #[.int .i64 5, .int .i64 z, .int .i64 r, .int .i64 m, .int .i64 k, .int .i64 e, .int .i64 s] 36))
  rw [show Pl.inKind ⟨5, z, r, m, k, e, s⟩ = ((s == 0) && ((z == 2) || !(m == 1))) from rfl]
  cases a0 : (s == 0)
  · go_enter Tryd.func42, Tryd.ntmps42
    go_wp2_with fail
    go_quiet (fail)
    go_wp2_with fail
    go_ret
    exact ⟨rB (by simp), kept_drewN K0.out _⟩
  · cases a1 : (z == 2)
    · go_enter Tryd.func42, Tryd.ntmps42
      go_wp2_with fail
      go_quiet (fail)
      go_wp2_with fail
      go_ret
      exact ⟨rB (by simp [bne]), kept_drewN K0.out _⟩
    · go_enter Tryd.func42, Tryd.ntmps42
      go_wp2_with fail
      go_quiet (fail)
      go_wp2_with fail
      go_ret
      exact ⟨rB (by simp), kept_drewN K0.out _⟩
theorem fitsOp6 (w : World) (z r m k e s : Int) (h0 : 0 ≤ s) : Calls Tryd.prog 42 #[.agg #[.int .i64 6, .int .i64 z, .int .i64 r, .int .i64 m, .int .i64 k, .int .i64 e, .int .i64 s]] w fun r' w' => r' = .returned (.bool (Pl.inKind ⟨6, z, r, m, k, e, s⟩)) ∧ Kept 0 0 w w' := by
  have K0 := hide (kept_alloc w (.cells #[.int .i64 6, .int .i64 z, .int .i64 r, .int .i64 m, .int .i64 k, .int .i64 e, .int .i64 s] 36))
  rw [show Pl.inKind ⟨6, z, r, m, k, e, s⟩ = ((s == 0) && ((z == 2) || !(m == 1))) from rfl]
  cases a0 : (s == 0)
  · go_enter Tryd.func42, Tryd.ntmps42
    go_wp2_with fail
    go_quiet (fail)
    go_wp2_with fail
    go_ret
    exact ⟨rB (by simp), kept_drewN K0.out _⟩
  · cases a1 : (z == 2)
    · go_enter Tryd.func42, Tryd.ntmps42
      go_wp2_with fail
      go_quiet (fail)
      go_wp2_with fail
      go_ret
      exact ⟨rB (by simp [bne]), kept_drewN K0.out _⟩
    · go_enter Tryd.func42, Tryd.ntmps42
      go_wp2_with fail
      go_quiet (fail)
      go_wp2_with fail
      go_ret
      exact ⟨rB (by simp), kept_drewN K0.out _⟩
theorem fitsOp7 (w : World) (z r m k e s : Int) (h0 : 0 ≤ s) : Calls Tryd.prog 42 #[.agg #[.int .i64 7, .int .i64 z, .int .i64 r, .int .i64 m, .int .i64 k, .int .i64 e, .int .i64 s]] w fun r' w' => r' = .returned (.bool (Pl.inKind ⟨7, z, r, m, k, e, s⟩)) ∧ Kept 0 0 w w' := by
  have K0 := hide (kept_alloc w (.cells #[.int .i64 7, .int .i64 z, .int .i64 r, .int .i64 m, .int .i64 k, .int .i64 e, .int .i64 s] 36))
  rw [show Pl.inKind ⟨7, z, r, m, k, e, s⟩ = ((s == 0) && ((z == 2) || !(m == 1))) from rfl]
  cases a0 : (s == 0)
  · go_enter Tryd.func42, Tryd.ntmps42
    go_wp2_with fail
    go_quiet (fail)
    go_wp2_with fail
    go_ret
    exact ⟨rB (by simp), kept_drewN K0.out _⟩
  · cases a1 : (z == 2)
    · go_enter Tryd.func42, Tryd.ntmps42
      go_wp2_with fail
      go_quiet (fail)
      go_wp2_with fail
      go_ret
      exact ⟨rB (by simp [bne]), kept_drewN K0.out _⟩
    · go_enter Tryd.func42, Tryd.ntmps42
      go_wp2_with fail
      go_quiet (fail)
      go_wp2_with fail
      go_ret
      exact ⟨rB (by simp), kept_drewN K0.out _⟩
theorem fitsOp8 (w : World) (z r m k e s : Int) (h0 : 0 ≤ s) : Calls Tryd.prog 42 #[.agg #[.int .i64 8, .int .i64 z, .int .i64 r, .int .i64 m, .int .i64 k, .int .i64 e, .int .i64 s]] w fun r' w' => r' = .returned (.bool (Pl.inKind ⟨8, z, r, m, k, e, s⟩)) ∧ Kept 0 0 w w' := by
  have K0 := hide (kept_alloc w (.cells #[.int .i64 8, .int .i64 z, .int .i64 r, .int .i64 m, .int .i64 k, .int .i64 e, .int .i64 s] 36))
  rw [show Pl.inKind ⟨8, z, r, m, k, e, s⟩ = ((s == 0) && ((z == 2) || !(m == 1))) from rfl]
  cases a0 : (s == 0)
  · go_enter Tryd.func42, Tryd.ntmps42
    go_wp2_with fail
    go_quiet (fail)
    go_wp2_with fail
    go_ret
    exact ⟨rB (by simp), kept_drewN K0.out _⟩
  · cases a1 : (z == 2)
    · go_enter Tryd.func42, Tryd.ntmps42
      go_wp2_with fail
      go_quiet (fail)
      go_wp2_with fail
      go_ret
      exact ⟨rB (by simp [bne]), kept_drewN K0.out _⟩
    · go_enter Tryd.func42, Tryd.ntmps42
      go_wp2_with fail
      go_quiet (fail)
      go_wp2_with fail
      go_ret
      exact ⟨rB (by simp), kept_drewN K0.out _⟩
theorem fitsOp9 (w : World) (z r m k e s : Int) (h0 : 0 ≤ s) : Calls Tryd.prog 42 #[.agg #[.int .i64 9, .int .i64 z, .int .i64 r, .int .i64 m, .int .i64 k, .int .i64 e, .int .i64 s]] w fun r' w' => r' = .returned (.bool (Pl.inKind ⟨9, z, r, m, k, e, s⟩)) ∧ Kept 0 0 w w' := by
  have K0 := hide (kept_alloc w (.cells #[.int .i64 9, .int .i64 z, .int .i64 r, .int .i64 m, .int .i64 k, .int .i64 e, .int .i64 s] 36))
  rw [show Pl.inKind ⟨9, z, r, m, k, e, s⟩ = ((z == 2) && (s == 0)) from rfl]
  cases a0 : (z == 2)
  · go_enter Tryd.func42, Tryd.ntmps42
    go_wp2_with fail
    go_quiet (fail)
    go_wp2_with fail
    go_ret
    exact ⟨rB (by simp), kept_drewN K0.out _⟩
  · go_enter Tryd.func42, Tryd.ntmps42
    go_wp2_with fail
    go_quiet (fail)
    go_wp2_with fail
    go_ret
    exact ⟨rB (by simp), kept_drewN K0.out _⟩
theorem fitsOp10 (w : World) (z r m k e s : Int) (h0 : 0 ≤ s) : Calls Tryd.prog 42 #[.agg #[.int .i64 10, .int .i64 z, .int .i64 r, .int .i64 m, .int .i64 k, .int .i64 e, .int .i64 s]] w fun r' w' => r' = .returned (.bool (Pl.inKind ⟨10, z, r, m, k, e, s⟩)) ∧ Kept 0 0 w w' := by
  have K0 := hide (kept_alloc w (.cells #[.int .i64 10, .int .i64 z, .int .i64 r, .int .i64 m, .int .i64 k, .int .i64 e, .int .i64 s] 36))
  rw [show Pl.inKind ⟨10, z, r, m, k, e, s⟩ = (((z == 2) && (s == 0)) && Pl.plainM m) from rfl]
  cases a0 : (z == 2)
  · go_enter Tryd.func42, Tryd.ntmps42
    go_wp2_with fail
    go_quiet (fail)
    go_wp2_with fail
    go_ret
    exact ⟨rB (by simp), kept_drewN K0.out _⟩
  · cases a1 : (s == 0)
    · go_enter Tryd.func42, Tryd.ntmps42
      go_wp2_with fail
      go_quiet (fail)
      go_wp2_with fail
      go_ret
      exact ⟨rB (by simp), kept_drewN K0.out _⟩
    · go_enter Tryd.func42, Tryd.ntmps42
      go_wp2_with fail
      go_quiet (fail)
      go_wp2_with (go_at_call 66; refine (isPlain _ _).mono ?_; rintro e9 w9 ⟨rfl, hw⟩; have hw2 := hw.symm; clear hw; subst hw2)
      go_ret
      exact ⟨rB (by simp), kept_drewN K0.out _⟩
theorem fitsOp11 (w : World) (z r m k e s : Int) (h0 : 0 ≤ s) : Calls Tryd.prog 42 #[.agg #[.int .i64 11, .int .i64 z, .int .i64 r, .int .i64 m, .int .i64 k, .int .i64 e, .int .i64 s]] w fun r' w' => r' = .returned (.bool (Pl.inKind ⟨11, z, r, m, k, e, s⟩)) ∧ Kept 0 0 w w' := by
  have K0 := hide (kept_alloc w (.cells #[.int .i64 11, .int .i64 z, .int .i64 r, .int .i64 m, .int .i64 k, .int .i64 e, .int .i64 s] 36))
  rw [show Pl.inKind ⟨11, z, r, m, k, e, s⟩ = (((r == 0) && decide (s ≤ 3)) && ((m == 0) || Pl.memM m)) from rfl]
  cases a0 : (r == 0)
  · go_enter Tryd.func42, Tryd.ntmps42
    go_wp2_with fail
    go_quiet (fail)
    go_wp2_with fail
    go_ret
    exact ⟨rB (by simp), kept_drewN K0.out _⟩
  · cases a1 : decide (s ≤ 3)
    · go_enter Tryd.func42, Tryd.ntmps42
      go_wp2_with fail
      go_quiet (fail)
      go_wp2_with fail
      go_ret
      exact ⟨rB (by simp), kept_drewN K0.out _⟩
    · go_enter Tryd.func42, Tryd.ntmps42
      go_wp2_with fail
      go_quiet (fail)
      go_wp2_with (go_at_call 65; refine (canTake _ _).mono ?_; rintro e9 w9 ⟨rfl, hw⟩; have hw2 := hw.symm; clear hw; subst hw2)
      go_ret
      exact ⟨rB (by simp), kept_drewN K0.out _⟩
theorem fitsOp12 (w : World) (z r m k e s : Int) (h0 : 0 ≤ s) : Calls Tryd.prog 42 #[.agg #[.int .i64 12, .int .i64 z, .int .i64 r, .int .i64 m, .int .i64 k, .int .i64 e, .int .i64 s]] w fun r' w' => r' = .returned (.bool (Pl.inKind ⟨12, z, r, m, k, e, s⟩)) ∧ Kept 0 0 w w' := by
  have K0 := hide (kept_alloc w (.cells #[.int .i64 12, .int .i64 z, .int .i64 r, .int .i64 m, .int .i64 k, .int .i64 e, .int .i64 s] 36))
  rw [show Pl.inKind ⟨12, z, r, m, k, e, s⟩ = ((m == 0)) from rfl]
  go_enter Tryd.func42, Tryd.ntmps42
  go_wp2_with fail
  go_quiet (fail)
  go_wp2_with fail
  go_ret
  exact ⟨rB (by simp), kept_drewN K0.out _⟩
theorem fitsOp13 (w : World) (z r m k e s : Int) (h0 : 0 ≤ s) : Calls Tryd.prog 42 #[.agg #[.int .i64 13, .int .i64 z, .int .i64 r, .int .i64 m, .int .i64 k, .int .i64 e, .int .i64 s]] w fun r' w' => r' = .returned (.bool (Pl.inKind ⟨13, z, r, m, k, e, s⟩)) ∧ Kept 0 0 w w' := by
  have K0 := hide (kept_alloc w (.cells #[.int .i64 13, .int .i64 z, .int .i64 r, .int .i64 m, .int .i64 k, .int .i64 e, .int .i64 s] 36))
  rw [show Pl.inKind ⟨13, z, r, m, k, e, s⟩ = (((z == 2) && decide (r ≤ 1)) && (m == 7)) from rfl]
  cases a0 : (z == 2)
  · go_enter Tryd.func42, Tryd.ntmps42
    go_wp2_with fail
    go_quiet (fail)
    go_wp2_with fail
    go_ret
    exact ⟨rB (by simp), kept_drewN K0.out _⟩
  · cases a1 : decide (r ≤ 1)
    · go_enter Tryd.func42, Tryd.ntmps42
      go_wp2_with fail
      go_quiet (fail)
      go_wp2_with fail
      go_ret
      exact ⟨rB (by simp), kept_drewN K0.out _⟩
    · go_enter Tryd.func42, Tryd.ntmps42
      go_wp2_with fail
      go_quiet (fail)
      go_wp2_with fail
      go_ret
      exact ⟨rB (by simp), kept_drewN K0.out _⟩
theorem fitsOp14 (w : World) (z r m k e s : Int) (h0 : 0 ≤ s) : Calls Tryd.prog 42 #[.agg #[.int .i64 14, .int .i64 z, .int .i64 r, .int .i64 m, .int .i64 k, .int .i64 e, .int .i64 s]] w fun r' w' => r' = .returned (.bool (Pl.inKind ⟨14, z, r, m, k, e, s⟩)) ∧ Kept 0 0 w w' := by
  have K0 := hide (kept_alloc w (.cells #[.int .i64 14, .int .i64 z, .int .i64 r, .int .i64 m, .int .i64 k, .int .i64 e, .int .i64 s] 36))
  rw [show Pl.inKind ⟨14, z, r, m, k, e, s⟩ = ((((z == 2) && (r == 0)) && decide (s ≤ 1)) && Pl.plainM m) from rfl]
  cases a0 : (z == 2)
  · go_enter Tryd.func42, Tryd.ntmps42
    go_wp2_with fail
    go_quiet (fail)
    go_wp2_with fail
    go_ret
    exact ⟨rB (by simp), kept_drewN K0.out _⟩
  · cases a1 : (r == 0)
    · go_enter Tryd.func42, Tryd.ntmps42
      go_wp2_with fail
      go_quiet (fail)
      go_wp2_with fail
      go_ret
      exact ⟨rB (by simp), kept_drewN K0.out _⟩
    · cases a2 : decide (s ≤ 1)
      · go_enter Tryd.func42, Tryd.ntmps42
        go_wp2_with fail
        go_quiet (fail)
        go_wp2_with fail
        go_ret
        exact ⟨rB (by simp), kept_drewN K0.out _⟩
      · go_enter Tryd.func42, Tryd.ntmps42
        go_wp2_with fail
        go_quiet (fail)
        go_wp2_with (go_at_call 66; refine (isPlain _ _).mono ?_; rintro e9 w9 ⟨rfl, hw⟩; have hw2 := hw.symm; clear hw; subst hw2)
        go_ret
        exact ⟨rB (by simp), kept_drewN K0.out _⟩
theorem fitsOp15 (w : World) (z r m k e s : Int) (h0 : 0 ≤ s) : Calls Tryd.prog 42 #[.agg #[.int .i64 15, .int .i64 z, .int .i64 r, .int .i64 m, .int .i64 k, .int .i64 e, .int .i64 s]] w fun r' w' => r' = .returned (.bool (Pl.inKind ⟨15, z, r, m, k, e, s⟩)) ∧ Kept 0 0 w w' := by
  have K0 := hide (kept_alloc w (.cells #[.int .i64 15, .int .i64 z, .int .i64 r, .int .i64 m, .int .i64 k, .int .i64 e, .int .i64 s] 36))
  rw [show Pl.inKind ⟨15, z, r, m, k, e, s⟩ = (bif s == 3 then ((z == 2) && (r == 0)) && Pl.nowO m e else (((z == 2) && decide (s ≤ 6)) && Pl.zeroO m k e) && (decide (3 < s) || (r == 0))) from rfl]
  cases a0 : (z == 2)
  · go_enter Tryd.func42, Tryd.ntmps42
    go_wp2_with fail
    go_quiet (fail)
    go_wp2_with fail
    go_ret
    exact ⟨rB (by cases hs : (s == 3) <;> simp), kept_drewN K0.out _⟩
  · go_enter Tryd.func42, Tryd.ntmps42
    go_wp2_with fail
    go_quiet (fail)
    go_wp2_with (go_at_call 67; refine (fitsFlow _ 15 z r m k e s h0).mono ?_; rintro e9 w2 ⟨rfl, k2⟩)
    go_ret
    exact ⟨rB (by cases hs : (s == 3) <;> simp), (kept_drewN K0.out _).trans k2⟩
theorem fitsOp16 (w : World) (z r m k e s : Int) (h0 : 0 ≤ s) : Calls Tryd.prog 42 #[.agg #[.int .i64 16, .int .i64 z, .int .i64 r, .int .i64 m, .int .i64 k, .int .i64 e, .int .i64 s]] w fun r' w' => r' = .returned (.bool (Pl.inKind ⟨16, z, r, m, k, e, s⟩)) ∧ Kept 0 0 w w' := by
  have K0 := hide (kept_alloc w (.cells #[.int .i64 16, .int .i64 z, .int .i64 r, .int .i64 m, .int .i64 k, .int .i64 e, .int .i64 s] 36))
  rw [show Pl.inKind ⟨16, z, r, m, k, e, s⟩ = (((z == 2) && (s == 0)) && !(m == 1)) from rfl]
  cases a0 : (z == 2)
  · go_enter Tryd.func42, Tryd.ntmps42
    go_wp2_with fail
    go_quiet (fail)
    go_wp2_with fail
    go_ret
    exact ⟨rB (by simp), kept_drewN K0.out _⟩
  · cases a1 : (s == 0)
    · go_enter Tryd.func42, Tryd.ntmps42
      go_wp2_with fail
      go_quiet (fail)
      go_wp2_with fail
      go_ret
      exact ⟨rB (by simp), kept_drewN K0.out _⟩
    · go_enter Tryd.func42, Tryd.ntmps42
      go_wp2_with fail
      go_quiet (fail)
      go_wp2_with fail
      go_ret
      exact ⟨rB (by simp [bne]), kept_drewN K0.out _⟩
theorem fitsOp17 (w : World) (z r m k e s : Int) (h0 : 0 ≤ s) : Calls Tryd.prog 42 #[.agg #[.int .i64 17, .int .i64 z, .int .i64 r, .int .i64 m, .int .i64 k, .int .i64 e, .int .i64 s]] w fun r' w' => r' = .returned (.bool (Pl.inKind ⟨17, z, r, m, k, e, s⟩)) ∧ Kept 0 0 w w' := by
  have K0 := hide (kept_alloc w (.cells #[.int .i64 17, .int .i64 z, .int .i64 r, .int .i64 m, .int .i64 k, .int .i64 e, .int .i64 s] 36))
  rw [show Pl.inKind ⟨17, z, r, m, k, e, s⟩ = (((z == 2) && (s == 0)) && !(m == 1)) from rfl]
  cases a0 : (z == 2)
  · go_enter Tryd.func42, Tryd.ntmps42
    go_wp2_with fail
    go_quiet (fail)
    go_wp2_with fail
    go_ret
    exact ⟨rB (by simp), kept_drewN K0.out _⟩
  · cases a1 : (s == 0)
    · go_enter Tryd.func42, Tryd.ntmps42
      go_wp2_with fail
      go_quiet (fail)
      go_wp2_with fail
      go_ret
      exact ⟨rB (by simp), kept_drewN K0.out _⟩
    · go_enter Tryd.func42, Tryd.ntmps42
      go_wp2_with fail
      go_quiet (fail)
      go_wp2_with fail
      go_ret
      exact ⟨rB (by simp [bne]), kept_drewN K0.out _⟩
theorem fitsOp18 (w : World) (z r m k e s : Int) (h0 : 0 ≤ s) : Calls Tryd.prog 42 #[.agg #[.int .i64 18, .int .i64 z, .int .i64 r, .int .i64 m, .int .i64 k, .int .i64 e, .int .i64 s]] w fun r' w' => r' = .returned (.bool (Pl.inKind ⟨18, z, r, m, k, e, s⟩)) ∧ Kept 0 0 w w' := by
  have K0 := hide (kept_alloc w (.cells #[.int .i64 18, .int .i64 z, .int .i64 r, .int .i64 m, .int .i64 k, .int .i64 e, .int .i64 s] 36))
  rw [show Pl.inKind ⟨18, z, r, m, k, e, s⟩ = (((!(z == 2)) && decide (s ≤ 1)) && (m == 0)) from rfl]
  cases a0 : (z == 2)
  · cases a1 : decide (s ≤ 1)
    · go_enter Tryd.func42, Tryd.ntmps42
      go_wp2_with fail
      go_quiet (fail)
      go_wp2_with fail
      go_ret
      exact ⟨rB (by simp), kept_drewN K0.out _⟩
    · go_enter Tryd.func42, Tryd.ntmps42
      go_wp2_with fail
      go_quiet (fail)
      go_wp2_with fail
      go_ret
      exact ⟨rB (by simp), kept_drewN K0.out _⟩
  · go_enter Tryd.func42, Tryd.ntmps42
    go_wp2_with fail
    go_quiet (fail)
    go_wp2_with fail
    go_ret
    exact ⟨rB (by simp), kept_drewN K0.out _⟩
theorem fitsOp19 (w : World) (z r m k e s : Int) (h0 : 0 ≤ s) : Calls Tryd.prog 42 #[.agg #[.int .i64 19, .int .i64 z, .int .i64 r, .int .i64 m, .int .i64 k, .int .i64 e, .int .i64 s]] w fun r' w' => r' = .returned (.bool (Pl.inKind ⟨19, z, r, m, k, e, s⟩)) ∧ Kept 0 0 w w' := by
  have K0 := hide (kept_alloc w (.cells #[.int .i64 19, .int .i64 z, .int .i64 r, .int .i64 m, .int .i64 k, .int .i64 e, .int .i64 s] 36))
  rw [show Pl.inKind ⟨19, z, r, m, k, e, s⟩ = ((z == 2) && ((((s == 0) && (r == 0)) && Pl.nowO m e) || ((s == 1) && Pl.zeroO m k e))) from rfl]
  cases a0 : (z == 2)
  · go_enter Tryd.func42, Tryd.ntmps42
    go_wp2_with fail
    go_quiet (fail)
    go_wp2_with fail
    go_ret
    exact ⟨rB (by simp), kept_drewN K0.out _⟩
  · go_enter Tryd.func42, Tryd.ntmps42
    go_wp2_with fail
    go_quiet (fail)
    go_wp2_with (go_at_call 68; refine (fitsStatus _ 19 z r m k e s).mono ?_; rintro e9 w2 ⟨rfl, k2⟩)
    go_ret
    exact ⟨rB (by simp [Bool.and_assoc]), (kept_drewN K0.out _).trans k2⟩
theorem fitsOpNo (w : World) (op z r m k e s : Int) (h : op < 1 ∨ 19 < op) : Calls Tryd.prog 42 #[.agg #[.int .i64 op, .int .i64 z, .int .i64 r, .int .i64 m, .int .i64 k, .int .i64 e, .int .i64 s]] w fun r' w' => r' = .returned (.bool (Pl.inKind ⟨op, z, r, m, k, e, s⟩)) ∧ Kept 0 0 w w' := by
  have K0 := hide (kept_alloc w (.cells #[.int .i64 op, .int .i64 z, .int .i64 r, .int .i64 m, .int .i64 k, .int .i64 e, .int .i64 s] 36))
  have G : Hid (Pl.inKind ⟨op, z, r, m, k, e, s⟩ = false) := hide (by
    unfold Pl.inKind
    simp only
    have n1 : (op == 1) = false := by simp; omega
    have n2 : (op == 2) = false := by simp; omega
    have n3 : (op == 3) = false := by simp; omega
    have n4 : (op == 4) = false := by simp; omega
    have n5 : (op == 5) = false := by simp; omega
    have n6 : (op == 6) = false := by simp; omega
    have n7 : (op == 7) = false := by simp; omega
    have n8 : (op == 8) = false := by simp; omega
    have n9 : (op == 9) = false := by simp; omega
    have n10 : (op == 10) = false := by simp; omega
    have n11 : (op == 11) = false := by simp; omega
    have n12 : (op == 12) = false := by simp; omega
    have n13 : (op == 13) = false := by simp; omega
    have n14 : (op == 14) = false := by simp; omega
    have n15 : (op == 15) = false := by simp; omega
    have n16 : (op == 16) = false := by simp; omega
    have n17 : (op == 17) = false := by simp; omega
    have n18 : (op == 18) = false := by simp; omega
    have n19 : (op == 19) = false := by simp; omega
    rw [n1, n3, n4, n5, n6, n7, n8, n2, n9, n10, n11, n12, n13, n14, n16, n17, n18, n19, n15]
    rfl)
  go_enter Tryd.func42, Tryd.ntmps42
  go_wp2_with fail
  go_quiet (fail)
  go_wp2_with fail
  go_ret
  exact ⟨rB G.out.symm, kept_drewN K0.out _⟩
theorem fitsOp (w : World) (op z r m k e s : Int) (h0 : 0 ≤ s) : Calls Tryd.prog 42 #[.agg #[.int .i64 op, .int .i64 z, .int .i64 r, .int .i64 m, .int .i64 k, .int .i64 e, .int .i64 s]] w fun r' w' => r' = .returned (.bool (Pl.inKind ⟨op, z, r, m, k, e, s⟩)) ∧ Kept 0 0 w w' := by
  by_cases h : op < 1 ∨ 19 < op
  · exact fitsOpNo w op z r m k e s h
  · have hs : op = 1 ∨ op = 2 ∨ op = 3 ∨ op = 4 ∨ op = 5 ∨ op = 6 ∨ op = 7 ∨ op = 8 ∨ op = 9 ∨ op = 10 ∨ op = 11 ∨ op = 12 ∨ op = 13 ∨ op = 14 ∨ op = 15 ∨ op = 16 ∨ op = 17 ∨ op = 18 ∨ op = 19 := by omega
    rcases hs with rfl | rfl | rfl | rfl | rfl | rfl | rfl | rfl | rfl | rfl | rfl | rfl | rfl | rfl | rfl | rfl | rfl | rfl | rfl
    · exact fitsOp1 w z r m k e s h0
    · exact fitsOp2 w z r m k e s h0
    · exact fitsOp3 w z r m k e s h0
    · exact fitsOp4 w z r m k e s h0
    · exact fitsOp5 w z r m k e s h0
    · exact fitsOp6 w z r m k e s h0
    · exact fitsOp7 w z r m k e s h0
    · exact fitsOp8 w z r m k e s h0
    · exact fitsOp9 w z r m k e s h0
    · exact fitsOp10 w z r m k e s h0
    · exact fitsOp11 w z r m k e s h0
    · exact fitsOp12 w z r m k e s h0
    · exact fitsOp13 w z r m k e s h0
    · exact fitsOp14 w z r m k e s h0
    · exact fitsOp15 w z r m k e s h0
    · exact fitsOp16 w z r m k e s h0
    · exact fitsOp17 w z r m k e s h0
    · exact fitsOp18 w z r m k e s h0
    · exact fitsOp19 w z r m k e s h0
end Go.Proofs.YtlbnllhabdnjjaaDoor
namespace Go.Proofs.YtlbnllhabdnjjaaDoor
open Go.RowKit
set_option linter.unusedVariables false
theorem implGoodIns (w : World) (op z r m k e s : Int) (wfop : (Lit.int .i64 op).wf = true) (wfz : (Lit.int .i64 z).wf = true) (wfr : (Lit.int .i64 r).wf = true) (wfm : (Lit.int .i64 m).wf = true) (wfk : (Lit.int .i64 k).wf = true) (wfe : (Lit.int .i64 e).wf = true) (wfs : (Lit.int .i64 s).wf = true) : Calls Tryd.prog 20 #[.agg #[.int .i64 op, .int .i64 z, .int .i64 r, .int .i64 m, .int .i64 k, .int .i64 e, .int .i64 s]] w fun r' w' => r' = .returned (.bool (Pl.inOk ⟨op, z, r, m, k, e, s⟩)) ∧ Kept 0 0 w w' := by
  have K0 := hide (kept_alloc w (.cells #[.int .i64 op, .int .i64 z, .int .i64 r, .int .i64 m, .int .i64 k, .int .i64 e, .int .i64 s] 36))
  have B0 := hide (Blk.new w #[.int .i64 op, .int .i64 z, .int .i64 r, .int .i64 m, .int .i64 k, .int .i64 e, .int .i64 s] 36)
  rw [Pl.ok_of_fits]
  simp only
  cases h1 : Pl.fits ⟨op, z, r, m, k, e, s⟩
  · go_enter Tryd.func20, Tryd.ntmps20
    go_wp2_with (go_at_call 39; refine (fitsWords _ op z r m k e s).mono ?_; rw [h1]; rintro e9 w1 ⟨rfl, k1⟩)
    go_ret
    exact ⟨rB (by simp), K0.out.trans k1⟩
  · have h0 : 0 ≤ s := ((Pl.fits_iff _).1 h1).2.2.2.2.2.1.1
    cases h2 : Pl.opOk m k e
    · go_enter Tryd.func20, Tryd.ntmps20
      go_wp2_with (first | (go_at_call 39; refine (fitsWords _ op z r m k e s).mono ?_; rw [h1]; rintro e9 w1 ⟨rfl, k1⟩; have B1 := hide (B0.out.kept0 k1); have K1 := hide (K0.out.trans k1); obtain ⟨b0, b1, b2, b3, b4, b5, b6⟩ := B1.out.c7; clear k1) | (go_at_call 40; refine (implGoodOperand _ m k e wfm wfk wfe).mono ?_; rw [h2]; rintro e9 w2 ⟨rfl, k2⟩; have B2 := hide (B1.out.kept0 k2); have K2 := hide (K1.out.trans k2); obtain ⟨c0, c1, c2, c3, c4, c5, c6⟩ := B2.out.c7; clear k2))
      go_ret
      exact ⟨rB (by simp), K2.out⟩
    · cases h3 : Pl.fitZ ⟨op, z, r, m, k, e, s⟩
      · go_enter Tryd.func20, Tryd.ntmps20
        go_wp2_with (first | (go_at_call 39; refine (fitsWords _ op z r m k e s).mono ?_; rw [h1]; rintro e9 w1 ⟨rfl, k1⟩; have B1 := hide (B0.out.kept0 k1); have K1 := hide (K0.out.trans k1); obtain ⟨b0, b1, b2, b3, b4, b5, b6⟩ := B1.out.c7; clear k1) | (go_at_call 40; refine (implGoodOperand _ m k e wfm wfk wfe).mono ?_; rw [h2]; rintro e9 w2 ⟨rfl, k2⟩; have B2 := hide (B1.out.kept0 k2); have K2 := hide (K1.out.trans k2); obtain ⟨c0, c1, c2, c3, c4, c5, c6⟩ := B2.out.c7; clear k2) | (go_at_call 41; refine (fitsSize _ op z r m k e s wfe).mono ?_; rw [h3]; rintro e9 w3 ⟨rfl, k3⟩; have B3 := hide (B2.out.kept0 k3); have K3 := hide (K2.out.trans k3); obtain ⟨d0, d1, d2, d3, d4, d5, d6⟩ := B3.out.c7; clear k3))
        go_ret
        exact ⟨rB (by simp), K3.out⟩
      · go_enter Tryd.func20, Tryd.ntmps20
        go_wp2_with (first | (go_at_call 39; refine (fitsWords _ op z r m k e s).mono ?_; rw [h1]; rintro e9 w1 ⟨rfl, k1⟩; have B1 := hide (B0.out.kept0 k1); have K1 := hide (K0.out.trans k1); obtain ⟨b0, b1, b2, b3, b4, b5, b6⟩ := B1.out.c7; clear k1) | (go_at_call 40; refine (implGoodOperand _ m k e wfm wfk wfe).mono ?_; rw [h2]; rintro e9 w2 ⟨rfl, k2⟩; have B2 := hide (B1.out.kept0 k2); have K2 := hide (K1.out.trans k2); obtain ⟨c0, c1, c2, c3, c4, c5, c6⟩ := B2.out.c7; clear k2) | (go_at_call 41; refine (fitsSize _ op z r m k e s wfe).mono ?_; rw [h3]; rintro e9 w3 ⟨rfl, k3⟩; have B3 := hide (B2.out.kept0 k3); have K3 := hide (K2.out.trans k3); obtain ⟨d0, d1, d2, d3, d4, d5, d6⟩ := B3.out.c7; clear k3) | (go_at_call 42; refine (fitsOp _ op z r m k e s h0).mono ?_; rintro e9 w4 ⟨rfl, k4⟩; have B4 := hide (B3.out.kept0 k4); have K4 := hide (K3.out.trans k4); clear k4))
        go_ret
        exact ⟨rB (by simp), K4.out⟩
end Go.Proofs.YtlbnllhabdnjjaaDoor
