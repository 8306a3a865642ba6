/- What the program asks of an instruction by its operation. What the program's GoodIns answers, for every argument. What the program's IsPrivileged, LongIns and EncodeIns answer, for every argument. What the program's EncodeAll answers, for every list. The law on EncodeAll: of whatever list, its Go function returns true, and no block that was there has turned. Instructions that came in to a law, and lists of them: opened out of a law's argument. -/
import Derived.Test.YtmkcbgnldnefmaaEA5
import Derived.BigQuiet
import Derived.Deep.QuietTactic
import Derived.Carry
import Derived.MapKept
import Derived.Test.YtmkcbgnldnefmaaEA4
import Derived.Test.YtmkcbgnldnefmaaEA1
import Derived.Lib.SmallJoins
import Derived.Deep.Slices
import Derived.ProofKit
import Derived.OpenShut
namespace Go.Proofs.Ytmkcbgnldnefmaa
open Go.RowKit
set_option linter.unusedVariables false
theorem fitsOp1 (w : World) (z r m k e s : Int) (h0 : 0 ≤ s) : Calls Try.prog 75 #[.agg (inA 1 z r m k e s)] w fun r' w' => r' = .returned (.bool (Pl.inKind ⟨1, z, r, m, k, e, s⟩)) ∧ Kept 0 0 w w' := by
  have K0 := hide (kept_alloc w (.cells (inA 1 z r m k e s) 55))
  rw [show Pl.inKind ⟨1, z, r, m, k, e, s⟩ = ((s == 0) && ((z == 2) || !(m == 1))) from rfl]
  cases a0 : (s == 0)
  · go_enter Try.func75, Try.ntmps75
    go_wp2_with fail
    go_quiet (fail)
    go_wp2_with fail
    go_ret
    exact ⟨rB (by simp), kept_drewN K0.out _⟩
  · cases a1 : (z == 2)
    · go_enter Try.func75, Try.ntmps75
      go_wp2_with fail
      go_quiet (fail)
      go_wp2_with fail
      go_ret
      exact ⟨rB (by simp [bne]), kept_drewN K0.out _⟩
    · go_enter Try.func75, Try.ntmps75
      go_wp2_with fail
      go_quiet (fail)
      go_wp2_with fail
      go_ret
      exact ⟨rB (by simp), kept_drewN K0.out _⟩
theorem fitsOp2 (w : World) (z r m k e s : Int) (h0 : 0 ≤ s) : Calls Try.prog 75 #[.agg (inA 2 z r m k e s)] w fun r' w' => r' = .returned (.bool (Pl.inKind ⟨2, z, r, m, k, e, s⟩)) ∧ Kept 0 0 w w' := by
  have K0 := hide (kept_alloc w (.cells (inA 2 z r m k e s) 55))
  rw [show Pl.inKind ⟨2, z, r, m, k, e, s⟩ = ((s == 0) && ((m == 0) || Pl.memM m)) from rfl]
  cases a0 : (s == 0)
  · go_enter Try.func75, Try.ntmps75
    go_wp2_with fail
    go_quiet (fail)
    go_wp2_with fail
    go_ret
    exact ⟨rB (by simp), kept_drewN K0.out _⟩
  · go_enter Try.func75, Try.ntmps75
    go_wp2_with fail
    go_quiet (fail)
    go_wp2_with (go_at_call 91; refine st (canTake _ _) ?_)
    go_ret
    exact ⟨rB (by simp), kept_drewN K0.out _⟩
theorem fitsOp3 (w : World) (z r m k e s : Int) (h0 : 0 ≤ s) : Calls Try.prog 75 #[.agg (inA 3 z r m k e s)] w fun r' w' => r' = .returned (.bool (Pl.inKind ⟨3, z, r, m, k, e, s⟩)) ∧ Kept 0 0 w w' := by
  have K0 := hide (kept_alloc w (.cells (inA 3 z r m k e s) 55))
  rw [show Pl.inKind ⟨3, z, r, m, k, e, s⟩ = ((s == 0) && ((z == 2) || !(m == 1))) from rfl]
  cases a0 : (s == 0)
  · go_enter Try.func75, Try.ntmps75
    go_wp2_with fail
    go_quiet (fail)
    go_wp2_with fail
    go_ret
    exact ⟨rB (by simp), kept_drewN K0.out _⟩
  · cases a1 : (z == 2)
    · go_enter Try.func75, Try.ntmps75
      go_wp2_with fail
      go_quiet (fail)
      go_wp2_with fail
      go_ret
      exact ⟨rB (by simp [bne]), kept_drewN K0.out _⟩
    · go_enter Try.func75, Try.ntmps75
      go_wp2_with fail
      go_quiet (fail)
      go_wp2_with fail
      go_ret
      exact ⟨rB (by simp), kept_drewN K0.out _⟩
theorem fitsOp4 (w : World) (z r m k e s : Int) (h0 : 0 ≤ s) : Calls Try.prog 75 #[.agg (inA 4 z r m k e s)] w fun r' w' => r' = .returned (.bool (Pl.inKind ⟨4, z, r, m, k, e, s⟩)) ∧ Kept 0 0 w w' := by
  have K0 := hide (kept_alloc w (.cells (inA 4 z r m k e s) 55))
  rw [show Pl.inKind ⟨4, z, r, m, k, e, s⟩ = ((s == 0) && ((z == 2) || !(m == 1))) from rfl]
  cases a0 : (s == 0)
  · go_enter Try.func75, Try.ntmps75
    go_wp2_with fail
    go_quiet (fail)
    go_wp2_with fail
    go_ret
    exact ⟨rB (by simp), kept_drewN K0.out _⟩
  · cases a1 : (z == 2)
    · go_enter Try.func75, Try.ntmps75
      go_wp2_with fail
      go_quiet (fail)
      go_wp2_with fail
      go_ret
      exact ⟨rB (by simp [bne]), kept_drewN K0.out _⟩
    · go_enter Try.func75, Try.ntmps75
      go_wp2_with fail
      go_quiet (fail)
      go_wp2_with fail
      go_ret
      exact ⟨rB (by simp), kept_drewN K0.out _⟩
theorem fitsOp5 (w : World) (z r m k e s : Int) (h0 : 0 ≤ s) : Calls Try.prog 75 #[.agg (inA 5 z r m k e s)] w fun r' w' => r' = .returned (.bool (Pl.inKind ⟨5, z, r, m, k, e, s⟩)) ∧ Kept 0 0 w w' := by
  have K0 := hide (kept_alloc w (.cells (inA 5 z r m k e s) 55))
  rw [show Pl.inKind ⟨5, z, r, m, k, e, s⟩ = ((s == 0) && ((z == 2) || !(m == 1))) from rfl]
  cases a0 : (s == 0)
  · go_enter Try.func75, Try.ntmps75
    go_wp2_with fail
    go_quiet (fail)
    go_wp2_with fail
    go_ret
    exact ⟨rB (by simp), kept_drewN K0.out _⟩
  · cases a1 : (z == 2)
    · go_enter Try.func75, Try.ntmps75
      go_wp2_with fail
      go_quiet (fail)
      go_wp2_with fail
      go_ret
      exact ⟨rB (by simp [bne]), kept_drewN K0.out _⟩
    · go_enter Try.func75, Try.ntmps75
      go_wp2_with fail
      go_quiet (fail)
      go_wp2_with fail
      go_ret
      exact ⟨rB (by simp), kept_drewN K0.out _⟩
theorem fitsOp6 (w : World) (z r m k e s : Int) (h0 : 0 ≤ s) : Calls Try.prog 75 #[.agg (inA 6 z r m k e s)] w fun r' w' => r' = .returned (.bool (Pl.inKind ⟨6, z, r, m, k, e, s⟩)) ∧ Kept 0 0 w w' := by
  have K0 := hide (kept_alloc w (.cells (inA 6 z r m k e s) 55))
  rw [show Pl.inKind ⟨6, z, r, m, k, e, s⟩ = ((s == 0) && ((z == 2) || !(m == 1))) from rfl]
  cases a0 : (s == 0)
  · go_enter Try.func75, Try.ntmps75
    go_wp2_with fail
    go_quiet (fail)
    go_wp2_with fail
    go_ret
    exact ⟨rB (by simp), kept_drewN K0.out _⟩
  · cases a1 : (z == 2)
    · go_enter Try.func75, Try.ntmps75
      go_wp2_with fail
      go_quiet (fail)
      go_wp2_with fail
      go_ret
      exact ⟨rB (by simp [bne]), kept_drewN K0.out _⟩
    · go_enter Try.func75, Try.ntmps75
      go_wp2_with fail
      go_quiet (fail)
      go_wp2_with fail
      go_ret
      exact ⟨rB (by simp), kept_drewN K0.out _⟩
theorem fitsOp7 (w : World) (z r m k e s : Int) (h0 : 0 ≤ s) : Calls Try.prog 75 #[.agg (inA 7 z r m k e s)] w fun r' w' => r' = .returned (.bool (Pl.inKind ⟨7, z, r, m, k, e, s⟩)) ∧ Kept 0 0 w w' := by
  have K0 := hide (kept_alloc w (.cells (inA 7 z r m k e s) 55))
  rw [show Pl.inKind ⟨7, z, r, m, k, e, s⟩ = ((s == 0) && ((z == 2) || !(m == 1))) from rfl]
  cases a0 : (s == 0)
  · go_enter Try.func75, Try.ntmps75
    go_wp2_with fail
    go_quiet (fail)
    go_wp2_with fail
    go_ret
    exact ⟨rB (by simp), kept_drewN K0.out _⟩
  · cases a1 : (z == 2)
    · go_enter Try.func75, Try.ntmps75
      go_wp2_with fail
      go_quiet (fail)
      go_wp2_with fail
      go_ret
      exact ⟨rB (by simp [bne]), kept_drewN K0.out _⟩
    · go_enter Try.func75, Try.ntmps75
      go_wp2_with fail
      go_quiet (fail)
      go_wp2_with fail
      go_ret
      exact ⟨rB (by simp), kept_drewN K0.out _⟩
theorem fitsOp8 (w : World) (z r m k e s : Int) (h0 : 0 ≤ s) : Calls Try.prog 75 #[.agg (inA 8 z r m k e s)] w fun r' w' => r' = .returned (.bool (Pl.inKind ⟨8, z, r, m, k, e, s⟩)) ∧ Kept 0 0 w w' := by
  have K0 := hide (kept_alloc w (.cells (inA 8 z r m k e s) 55))
  rw [show Pl.inKind ⟨8, z, r, m, k, e, s⟩ = ((s == 0) && ((z == 2) || !(m == 1))) from rfl]
  cases a0 : (s == 0)
  · go_enter Try.func75, Try.ntmps75
    go_wp2_with fail
    go_quiet (fail)
    go_wp2_with fail
    go_ret
    exact ⟨rB (by simp), kept_drewN K0.out _⟩
  · cases a1 : (z == 2)
    · go_enter Try.func75, Try.ntmps75
      go_wp2_with fail
      go_quiet (fail)
      go_wp2_with fail
      go_ret
      exact ⟨rB (by simp [bne]), kept_drewN K0.out _⟩
    · go_enter Try.func75, Try.ntmps75
      go_wp2_with fail
      go_quiet (fail)
      go_wp2_with fail
      go_ret
      exact ⟨rB (by simp), kept_drewN K0.out _⟩
theorem fitsOp9 (w : World) (z r m k e s : Int) (h0 : 0 ≤ s) : Calls Try.prog 75 #[.agg (inA 9 z r m k e s)] w fun r' w' => r' = .returned (.bool (Pl.inKind ⟨9, z, r, m, k, e, s⟩)) ∧ Kept 0 0 w w' := by
  have K0 := hide (kept_alloc w (.cells (inA 9 z r m k e s) 55))
  rw [show Pl.inKind ⟨9, z, r, m, k, e, s⟩ = ((z == 2) && (s == 0)) from rfl]
  cases a0 : (z == 2)
  · go_enter Try.func75, Try.ntmps75
    go_wp2_with fail
    go_quiet (fail)
    go_wp2_with fail
    go_ret
    exact ⟨rB (by simp), kept_drewN K0.out _⟩
  · go_enter Try.func75, Try.ntmps75
    go_wp2_with fail
    go_quiet (fail)
    go_wp2_with fail
    go_ret
    exact ⟨rB (by simp), kept_drewN K0.out _⟩
theorem fitsOp10 (w : World) (z r m k e s : Int) (h0 : 0 ≤ s) : Calls Try.prog 75 #[.agg (inA 10 z r m k e s)] w fun r' w' => r' = .returned (.bool (Pl.inKind ⟨10, z, r, m, k, e, s⟩)) ∧ Kept 0 0 w w' := by
  have K0 := hide (kept_alloc w (.cells (inA 10 z r m k e s) 55))
  rw [show Pl.inKind ⟨10, z, r, m, k, e, s⟩ = (((z == 2) && (s == 0)) && Pl.plainM m) from rfl]
  cases a0 : (z == 2)
  · go_enter Try.func75, Try.ntmps75
    go_wp2_with fail
    go_quiet (fail)
    go_wp2_with fail
    go_ret
    exact ⟨rB (by simp), kept_drewN K0.out _⟩
  · cases a1 : (s == 0)
    · go_enter Try.func75, Try.ntmps75
      go_wp2_with fail
      go_quiet (fail)
      go_wp2_with fail
      go_ret
      exact ⟨rB (by simp), kept_drewN K0.out _⟩
    · go_enter Try.func75, Try.ntmps75
      go_wp2_with fail
      go_quiet (fail)
      go_wp2_with (go_at_call 92; refine st (isPlain _ _) ?_)
      go_ret
      exact ⟨rB (by simp), kept_drewN K0.out _⟩
theorem fitsOp11 (w : World) (z r m k e s : Int) (h0 : 0 ≤ s) : Calls Try.prog 75 #[.agg (inA 11 z r m k e s)] w fun r' w' => r' = .returned (.bool (Pl.inKind ⟨11, z, r, m, k, e, s⟩)) ∧ Kept 0 0 w w' := by
  have K0 := hide (kept_alloc w (.cells (inA 11 z r m k e s) 55))
  rw [show Pl.inKind ⟨11, z, r, m, k, e, s⟩ = (((r == 0) && decide (s ≤ 3)) && ((m == 0) || Pl.memM m)) from rfl]
  cases a0 : (r == 0)
  · go_enter Try.func75, Try.ntmps75
    go_wp2_with fail
    go_quiet (fail)
    go_wp2_with fail
    go_ret
    exact ⟨rB (by simp), kept_drewN K0.out _⟩
  · cases a1 : decide (s ≤ 3)
    · go_enter Try.func75, Try.ntmps75
      go_wp2_with fail
      go_quiet (fail)
      go_wp2_with fail
      go_ret
      exact ⟨rB (by simp), kept_drewN K0.out _⟩
    · go_enter Try.func75, Try.ntmps75
      go_wp2_with fail
      go_quiet (fail)
      go_wp2_with (go_at_call 91; refine st (canTake _ _) ?_)
      go_ret
      exact ⟨rB (by simp), kept_drewN K0.out _⟩
theorem fitsOp12 (w : World) (z r m k e s : Int) (h0 : 0 ≤ s) : Calls Try.prog 75 #[.agg (inA 12 z r m k e s)] w fun r' w' => r' = .returned (.bool (Pl.inKind ⟨12, z, r, m, k, e, s⟩)) ∧ Kept 0 0 w w' := by
  have K0 := hide (kept_alloc w (.cells (inA 12 z r m k e s) 55))
  rw [show Pl.inKind ⟨12, z, r, m, k, e, s⟩ = ((m == 0)) from rfl]
  go_enter Try.func75, Try.ntmps75
  go_wp2_with fail
  go_quiet (fail)
  go_wp2_with fail
  go_ret
  exact ⟨rB (by simp), kept_drewN K0.out _⟩
theorem fitsOp13 (w : World) (z r m k e s : Int) (h0 : 0 ≤ s) : Calls Try.prog 75 #[.agg (inA 13 z r m k e s)] w fun r' w' => r' = .returned (.bool (Pl.inKind ⟨13, z, r, m, k, e, s⟩)) ∧ Kept 0 0 w w' := by
  have K0 := hide (kept_alloc w (.cells (inA 13 z r m k e s) 55))
  rw [show Pl.inKind ⟨13, z, r, m, k, e, s⟩ = (((z == 2) && decide (r ≤ 1)) && (m == 7)) from rfl]
  cases a0 : (z == 2)
  · go_enter Try.func75, Try.ntmps75
    go_wp2_with fail
    go_quiet (fail)
    go_wp2_with fail
    go_ret
    exact ⟨rB (by simp), kept_drewN K0.out _⟩
  · cases a1 : decide (r ≤ 1)
    · go_enter Try.func75, Try.ntmps75
      go_wp2_with fail
      go_quiet (fail)
      go_wp2_with fail
      go_ret
      exact ⟨rB (by simp), kept_drewN K0.out _⟩
    · go_enter Try.func75, Try.ntmps75
      go_wp2_with fail
      go_quiet (fail)
      go_wp2_with fail
      go_ret
      exact ⟨rB (by simp), kept_drewN K0.out _⟩
theorem fitsOp14 (w : World) (z r m k e s : Int) (h0 : 0 ≤ s) : Calls Try.prog 75 #[.agg (inA 14 z r m k e s)] w fun r' w' => r' = .returned (.bool (Pl.inKind ⟨14, z, r, m, k, e, s⟩)) ∧ Kept 0 0 w w' := by
  have K0 := hide (kept_alloc w (.cells (inA 14 z r m k e s) 55))
  rw [show Pl.inKind ⟨14, z, r, m, k, e, s⟩ = ((((z == 2) && (r == 0)) && decide (s ≤ 1)) && Pl.plainM m) from rfl]
  cases a0 : (z == 2)
  · go_enter Try.func75, Try.ntmps75
    go_wp2_with fail
    go_quiet (fail)
    go_wp2_with fail
    go_ret
    exact ⟨rB (by simp), kept_drewN K0.out _⟩
  · cases a1 : (r == 0)
    · go_enter Try.func75, Try.ntmps75
      go_wp2_with fail
      go_quiet (fail)
      go_wp2_with fail
      go_ret
      exact ⟨rB (by simp), kept_drewN K0.out _⟩
    · cases a2 : decide (s ≤ 1)
      · go_enter Try.func75, Try.ntmps75
        go_wp2_with fail
        go_quiet (fail)
        go_wp2_with fail
        go_ret
        exact ⟨rB (by simp), kept_drewN K0.out _⟩
      · go_enter Try.func75, Try.ntmps75
        go_wp2_with fail
        go_quiet (fail)
        go_wp2_with (go_at_call 92; refine st (isPlain _ _) ?_)
        go_ret
        exact ⟨rB (by simp), kept_drewN K0.out _⟩
theorem fitsOp15 (w : World) (z r m k e s : Int) (h0 : 0 ≤ s) : Calls Try.prog 75 #[.agg (inA 15 z r m k e s)] w fun r' w' => r' = .returned (.bool (Pl.inKind ⟨15, z, r, m, k, e, s⟩)) ∧ Kept 0 0 w w' := by
  have K0 := hide (kept_alloc w (.cells (inA 15 z r m k e s) 55))
  rw [show Pl.inKind ⟨15, z, r, m, k, e, s⟩ = (bif s == 3 then ((z == 2) && (r == 0)) && Pl.nowO m e else (((z == 2) && decide (s ≤ 6)) && Pl.zeroO m k e) && (decide (3 < s) || (r == 0))) from rfl]
  cases a0 : (z == 2)
  · go_enter Try.func75, Try.ntmps75
    go_wp2_with fail
    go_quiet (fail)
    go_wp2_with fail
    go_ret
    exact ⟨rB (by cases hs : (s == 3) <;> simp), kept_drewN K0.out _⟩
  · go_enter Try.func75, Try.ntmps75
    go_wp2_with fail
    go_quiet (fail)
    go_wp2_with (go_at_call 93; refine (fitsFlow _ 15 z r m k e s h0).mono ?_; rintro e9 w2 ⟨rfl, k2⟩)
    go_ret
    exact ⟨rB (by cases hs : (s == 3) <;> simp), (kept_drewN K0.out _).trans k2⟩
theorem fitsOp16 (w : World) (z r m k e s : Int) (h0 : 0 ≤ s) : Calls Try.prog 75 #[.agg (inA 16 z r m k e s)] w fun r' w' => r' = .returned (.bool (Pl.inKind ⟨16, z, r, m, k, e, s⟩)) ∧ Kept 0 0 w w' := by
  have K0 := hide (kept_alloc w (.cells (inA 16 z r m k e s) 55))
  rw [show Pl.inKind ⟨16, z, r, m, k, e, s⟩ = (((z == 2) && (s == 0)) && !(m == 1)) from rfl]
  cases a0 : (z == 2)
  · go_enter Try.func75, Try.ntmps75
    go_wp2_with fail
    go_quiet (fail)
    go_wp2_with fail
    go_ret
    exact ⟨rB (by simp), kept_drewN K0.out _⟩
  · cases a1 : (s == 0)
    · go_enter Try.func75, Try.ntmps75
      go_wp2_with fail
      go_quiet (fail)
      go_wp2_with fail
      go_ret
      exact ⟨rB (by simp), kept_drewN K0.out _⟩
    · go_enter Try.func75, Try.ntmps75
      go_wp2_with fail
      go_quiet (fail)
      go_wp2_with fail
      go_ret
      exact ⟨rB (by simp [bne]), kept_drewN K0.out _⟩
theorem fitsOp17 (w : World) (z r m k e s : Int) (h0 : 0 ≤ s) : Calls Try.prog 75 #[.agg (inA 17 z r m k e s)] w fun r' w' => r' = .returned (.bool (Pl.inKind ⟨17, z, r, m, k, e, s⟩)) ∧ Kept 0 0 w w' := by
  have K0 := hide (kept_alloc w (.cells (inA 17 z r m k e s) 55))
  rw [show Pl.inKind ⟨17, z, r, m, k, e, s⟩ = (((z == 2) && (s == 0)) && !(m == 1)) from rfl]
  cases a0 : (z == 2)
  · go_enter Try.func75, Try.ntmps75
    go_wp2_with fail
    go_quiet (fail)
    go_wp2_with fail
    go_ret
    exact ⟨rB (by simp), kept_drewN K0.out _⟩
  · cases a1 : (s == 0)
    · go_enter Try.func75, Try.ntmps75
      go_wp2_with fail
      go_quiet (fail)
      go_wp2_with fail
      go_ret
      exact ⟨rB (by simp), kept_drewN K0.out _⟩
    · go_enter Try.func75, Try.ntmps75
      go_wp2_with fail
      go_quiet (fail)
      go_wp2_with fail
      go_ret
      exact ⟨rB (by simp [bne]), kept_drewN K0.out _⟩
theorem fitsOp18 (w : World) (z r m k e s : Int) (h0 : 0 ≤ s) : Calls Try.prog 75 #[.agg (inA 18 z r m k e s)] w fun r' w' => r' = .returned (.bool (Pl.inKind ⟨18, z, r, m, k, e, s⟩)) ∧ Kept 0 0 w w' := by
  have K0 := hide (kept_alloc w (.cells (inA 18 z r m k e s) 55))
  rw [show Pl.inKind ⟨18, z, r, m, k, e, s⟩ = (((!(z == 2)) && decide (s ≤ 1)) && (m == 0)) from rfl]
  cases a0 : (z == 2)
  · cases a1 : decide (s ≤ 1)
    · go_enter Try.func75, Try.ntmps75
      go_wp2_with fail
      go_quiet (fail)
      go_wp2_with fail
      go_ret
      exact ⟨rB (by simp), kept_drewN K0.out _⟩
    · go_enter Try.func75, Try.ntmps75
      go_wp2_with fail
      go_quiet (fail)
      go_wp2_with fail
      go_ret
      exact ⟨rB (by simp), kept_drewN K0.out _⟩
  · go_enter Try.func75, Try.ntmps75
    go_wp2_with fail
    go_quiet (fail)
    go_wp2_with fail
    go_ret
    exact ⟨rB (by simp), kept_drewN K0.out _⟩
theorem fitsOp19 (w : World) (z r m k e s : Int) (h0 : 0 ≤ s) : Calls Try.prog 75 #[.agg (inA 19 z r m k e s)] w fun r' w' => r' = .returned (.bool (Pl.inKind ⟨19, z, r, m, k, e, s⟩)) ∧ Kept 0 0 w w' := by
  have K0 := hide (kept_alloc w (.cells (inA 19 z r m k e s) 55))
  rw [show Pl.inKind ⟨19, z, r, m, k, e, s⟩ = ((z == 2) && ((((s == 0) && (r == 0)) && Pl.nowO m e) || ((s == 1) && Pl.zeroO m k e))) from rfl]
  cases a0 : (z == 2)
  · go_enter Try.func75, Try.ntmps75
    go_wp2_with fail
    go_quiet (fail)
    go_wp2_with fail
    go_ret
    exact ⟨rB (by simp), kept_drewN K0.out _⟩
  · go_enter Try.func75, Try.ntmps75
    go_wp2_with fail
    go_quiet (fail)
    go_wp2_with (go_at_call 94; refine (fitsStatus _ 19 z r m k e s).mono ?_; rintro e9 w2 ⟨rfl, k2⟩)
    go_ret
    exact ⟨rB (by simp [Bool.and_assoc]), (kept_drewN K0.out _).trans k2⟩
theorem fitsOpNo (w : World) (op z r m k e s : Int) (h : op < 1 ∨ 19 < op) : Calls Try.prog 75 #[.agg (inA op z r m k e s)] w fun r' w' => r' = .returned (.bool (Pl.inKind ⟨op, z, r, m, k, e, s⟩)) ∧ Kept 0 0 w w' := by
  have K0 := hide (kept_alloc w (.cells (inA op z r m k e s) 55))
  have G : Hid (Pl.inKind ⟨op, z, r, m, k, e, s⟩ = false) := hide (by
    unfold Pl.inKind
    simp only
    have n1 : (op == 1) = false := by simp; omega
    have n2 : (op == 2) = false := by simp; omega
    have n3 : (op == 3) = false := by simp; omega
    have n4 : (op == 4) = false := by simp; omega
    have n5 : (op == 5) = false := by simp; omega
    have n6 : (op == 6) = false := by simp; omega
    have n7 : (op == 7) = false := by simp; omega
    have n8 : (op == 8) = false := by simp; omega
    have n9 : (op == 9) = false := by simp; omega
    have n10 : (op == 10) = false := by simp; omega
    have n11 : (op == 11) = false := by simp; omega
    have n12 : (op == 12) = false := by simp; omega
    have n13 : (op == 13) = false := by simp; omega
    have n14 : (op == 14) = false := by simp; omega
    have n15 : (op == 15) = false := by simp; omega
    have n16 : (op == 16) = false := by simp; omega
    have n17 : (op == 17) = false := by simp; omega
    have n18 : (op == 18) = false := by simp; omega
    have n19 : (op == 19) = false := by simp; omega
    rw [n1, n3, n4, n5, n6, n7, n8, n2, n9, n10, n11, n12, n13, n14, n16, n17, n18, n19, n15]
    rfl)
  go_enter Try.func75, Try.ntmps75
  go_wp2_with fail
  go_quiet (fail)
  go_wp2_with fail
  go_ret
  exact ⟨rB G.out.symm, kept_drewN K0.out _⟩
theorem fitsOp (w : World) (op z r m k e s : Int) (h0 : 0 ≤ s) : Calls Try.prog 75 #[.agg (inA op z r m k e s)] w fun r' w' => r' = .returned (.bool (Pl.inKind ⟨op, z, r, m, k, e, s⟩)) ∧ Kept 0 0 w w' := by
  by_cases h : op < 1 ∨ 19 < op
  · exact fitsOpNo w op z r m k e s h
  · have hs : op = 1 ∨ op = 2 ∨ op = 3 ∨ op = 4 ∨ op = 5 ∨ op = 6 ∨ op = 7 ∨ op = 8 ∨ op = 9 ∨ op = 10 ∨ op = 11 ∨ op = 12 ∨ op = 13 ∨ op = 14 ∨ op = 15 ∨ op = 16 ∨ op = 17 ∨ op = 18 ∨ op = 19 := by omega
    rcases hs with rfl | rfl | rfl | rfl | rfl | rfl | rfl | rfl | rfl | rfl | rfl | rfl | rfl | rfl | rfl | rfl | rfl | rfl | rfl
    · exact fitsOp1 w z r m k e s h0
    · exact fitsOp2 w z r m k e s h0
    · exact fitsOp3 w z r m k e s h0
    · exact fitsOp4 w z r m k e s h0
    · exact fitsOp5 w z r m k e s h0
    · exact fitsOp6 w z r m k e s h0
    · exact fitsOp7 w z r m k e s h0
    · exact fitsOp8 w z r m k e s h0
    · exact fitsOp9 w z r m k e s h0
    · exact fitsOp10 w z r m k e s h0
    · exact fitsOp11 w z r m k e s h0
    · exact fitsOp12 w z r m k e s h0
    · exact fitsOp13 w z r m k e s h0
    · exact fitsOp14 w z r m k e s h0
    · exact fitsOp15 w z r m k e s h0
    · exact fitsOp16 w z r m k e s h0
    · exact fitsOp17 w z r m k e s h0
    · exact fitsOp18 w z r m k e s h0
    · exact fitsOp19 w z r m k e s h0
end Go.Proofs.Ytmkcbgnldnefmaa

namespace Go.Proofs.Ytmkcbgnldnefmaa
open Go.RowKit
set_option linter.unusedVariables false
theorem implGoodIns (w : World) (op z r m k e s : Int) (wfop : (Lit.int .i64 op).wf = true) (wfz : (Lit.int .i64 z).wf = true) (wfr : (Lit.int .i64 r).wf = true) (wfm : (Lit.int .i64 m).wf = true) (wfk : (Lit.int .i64 k).wf = true) (wfe : (Lit.int .i64 e).wf = true) (wfs : (Lit.int .i64 s).wf = true) : Calls Try.prog 50 #[.agg (inA op z r m k e s)] w fun r' w' => r' = .returned (.bool (Pl.inOk ⟨op, z, r, m, k, e, s⟩)) ∧ Kept 0 0 w w' := by
  have K0 := hide (kept_alloc w (.cells (inA op z r m k e s) 55))
  have B0 := hide (Blk.new w (inA op z r m k e s) 55)
  rw [Pl.ok_of_fits]
  simp only
  cases h1 : Pl.fits ⟨op, z, r, m, k, e, s⟩
  · go_enter Try.func50, Try.ntmps50
    go_wp2_with (go_at_call 72; refine (fitsWords _ op z r m k e s).mono ?_; rw [h1]; rintro e9 w1 ⟨rfl, k1⟩)
    go_ret
    exact ⟨rB (by simp), K0.out.trans k1⟩
  · have h0 : 0 ≤ s := ((Pl.fits_iff _).1 h1).2.2.2.2.2.1.1
    cases h2 : Pl.opOk m k e
    · go_enter Try.func50, Try.ntmps50
      go_wp2_with (first | (go_at_call 72; refine (fitsWords _ op z r m k e s).mono ?_; rw [h1]; rintro e9 w1 ⟨rfl, k1⟩; have B1 := hide (B0.out.kept0 k1); have K1 := hide (K0.out.trans k1); obtain ⟨b0, b1, b2, b3, b4, b5, b6⟩ := B1.out.c7; clear k1) | (go_at_call 73; refine (implGoodOperand _ m k e wfm wfk wfe).mono ?_; rw [h2]; rintro e9 w2 ⟨rfl, k2⟩; have B2 := hide (B1.out.kept0 k2); have K2 := hide (K1.out.trans k2); obtain ⟨c0, c1, c2, c3, c4, c5, c6⟩ := B2.out.c7; clear k2))
      go_ret
      exact ⟨rB (by simp), K2.out⟩
    · cases h3 : Pl.fitZ ⟨op, z, r, m, k, e, s⟩
      · go_enter Try.func50, Try.ntmps50
        go_wp2_with (first | (go_at_call 72; refine (fitsWords _ op z r m k e s).mono ?_; rw [h1]; rintro e9 w1 ⟨rfl, k1⟩; have B1 := hide (B0.out.kept0 k1); have K1 := hide (K0.out.trans k1); obtain ⟨b0, b1, b2, b3, b4, b5, b6⟩ := B1.out.c7; clear k1) | (go_at_call 73; refine (implGoodOperand _ m k e wfm wfk wfe).mono ?_; rw [h2]; rintro e9 w2 ⟨rfl, k2⟩; have B2 := hide (B1.out.kept0 k2); have K2 := hide (K1.out.trans k2); obtain ⟨c0, c1, c2, c3, c4, c5, c6⟩ := B2.out.c7; clear k2) | (go_at_call 74; refine (fitsSize _ op z r m k e s wfe).mono ?_; rw [h3]; rintro e9 w3 ⟨rfl, k3⟩; have B3 := hide (B2.out.kept0 k3); have K3 := hide (K2.out.trans k3); obtain ⟨d0, d1, d2, d3, d4, d5, d6⟩ := B3.out.c7; clear k3))
        go_ret
        exact ⟨rB (by simp), K3.out⟩
      · go_enter Try.func50, Try.ntmps50
        go_wp2_with (first | (go_at_call 72; refine (fitsWords _ op z r m k e s).mono ?_; rw [h1]; rintro e9 w1 ⟨rfl, k1⟩; have B1 := hide (B0.out.kept0 k1); have K1 := hide (K0.out.trans k1); obtain ⟨b0, b1, b2, b3, b4, b5, b6⟩ := B1.out.c7; clear k1) | (go_at_call 73; refine (implGoodOperand _ m k e wfm wfk wfe).mono ?_; rw [h2]; rintro e9 w2 ⟨rfl, k2⟩; have B2 := hide (B1.out.kept0 k2); have K2 := hide (K1.out.trans k2); obtain ⟨c0, c1, c2, c3, c4, c5, c6⟩ := B2.out.c7; clear k2) | (go_at_call 74; refine (fitsSize _ op z r m k e s wfe).mono ?_; rw [h3]; rintro e9 w3 ⟨rfl, k3⟩; have B3 := hide (B2.out.kept0 k3); have K3 := hide (K2.out.trans k3); obtain ⟨d0, d1, d2, d3, d4, d5, d6⟩ := B3.out.c7; clear k3) | (go_at_call 75; refine (fitsOp _ op z r m k e s h0).mono ?_; rintro e9 w4 ⟨rfl, k4⟩; have B4 := hide (B3.out.kept0 k4); have K4 := hide (K3.out.trans k4); clear k4))
        go_ret
        exact ⟨rB (by simp), K4.out⟩
end Go.Proofs.Ytmkcbgnldnefmaa

namespace Go.Proofs.Ytmkcbgnldnefmaa
open Go.RowKit
set_option linter.unusedVariables false
set_option maxRecDepth 20000 in
set_option maxHeartbeats 4000000 in
theorem wordsOf (w : World) (op z r m k e s : Int) (h : Pl.inOk ⟨op, z, r, m, k, e, s⟩ = true) : Calls Try.prog 51 #[.agg (inA op z r m k e s)] w fun e' w' => ∃ (g c : Nat), e' = .returned (.slice (some ⟨g, 0, none⟩) (Pl.encode ⟨op, z, r, m, k, e, s⟩).length c) ∧ w.heap.size ≤ g ∧ g < w'.heap.size ∧ Own w' g (Pl.encode ⟨op, z, r, m, k, e, s⟩) ∧ Kept 0 0 w w' := by
  obtain ⟨a1, a2, a3, a4, a5, a6, a7, a8, a9, b1, b2, b3, b4, b5⟩ := Pl.modeR h
  simp only at a1 a2 a3 a4 a5 a6 a7 a8 a9 b1 b2 b3 b4 b5
  have wfm : (Lit.int .i64 m).wf = true := wfSm (by omega) (by omega)
  obtain ⟨N, hN⟩ : ∃ N, Pl.word1 ⟨op, z, r, m, k, e, s⟩ % 65536 = N := ⟨_, rfl⟩
  have HN := hide hN
  have HV : Hid (Pl.word1 ⟨op, z, r, m, k, e, s⟩ = N) := hide (by rw [← hN]; have : Pl.word1 ⟨op, z, r, m, k, e, s⟩ = op * 2048 + (z - 1) * 1024 + r * 256 + m * 32 + k * 8 + s := rfl; omega)
  have HL : Hid (Pl.lng m = Pl.extM m) := hide (by unfold Pl.lng; rw [show Pl.modeOk m = true from by simp [Pl.modeOk, Pl.within]; omega]; rfl)
  have K0 := hide (kept_alloc w (.cells (inA op z r m k e s) 55))
  have B0 := hide (Blk.new w (inA op z r m k e s) 55)
  clear hN a1 a2 a3 a4 a5 a6 a7 a8 a9 b1 b2 b3 b4 b5
  cases hE : Pl.extM m
  · have E : Hid (Pl.encode ⟨op, z, r, m, k, e, s⟩ = [N]) := hide (by simp [Pl.encode, hE, HV.out])
    go_enter Try.func51, Try.ntmps51
    go_wp2_with (first | (go_at_call 76; refine (isLong _ op z r m k e s wfm).mono ?_; rw [HL.out, hE]; rintro e9 w1 ⟨rfl, k1⟩; have B1 := hide (B0.out.kept0 k1); have K1 := hide (K0.out.trans k1); obtain ⟨c0, c1, c2, c3, c4, c5, c6⟩ := B1.out.c7; clear k1) | (go_at_call 77; refine (firstWord _ op z r m k e s).mono ?_; rw [HN.out]; rintro e9 w2 ⟨rfl, k2⟩; have K2 := hide (K1.out.trans k2); clear k2))
    go_ret
    have B2 := Blk.new w2 #[iv N] 3
    exact ⟨w2.heap.size, 1, by rw [E.out]; rfl, K2.out.size, B2.lt, by rw [E.out]; exact own_of_blk (xs := [N]) B2, kept_new K2.out _⟩
  · have E : Hid (Pl.encode ⟨op, z, r, m, k, e, s⟩ = [N, e]) := hide (by simp [Pl.encode, hE, HV.out])
    go_enter Try.func51, Try.ntmps51
    go_wp2_with (go_at_call 76; refine (isLong _ op z r m k e s wfm).mono ?_; rw [HL.out, hE]; rintro e9 w1 ⟨rfl, k1⟩; have B1 := hide (B0.out.kept0 k1); have K1 := hide (K0.out.trans k1); have s1 := hide k1.size; clear k1)
    refine wp_region_inv2 (fun A0 l A W => ∃ g : Nat, FR [5, 6, 7, 8, 9, 10, 2] A0 A ∧ Once l 0 (A.tmps[5]? = some (.agg (inA op z r m k e s))) ∧ Once l 1 (A.tmps[6]? = some (iv N)) ∧ Once l 2 (A.tmps[7]? = some (.pointer (some ⟨w.heap.size, 3, none⟩))) ∧ Once l 3 (A.tmps[8]? = some (.pointer (some ⟨w.heap.size, 5, none⟩))) ∧ Once l 4 (A.tmps[9]? = some (iv e)) ∧ Once l 5 (A.tmps[10]? = some (.slice (some ⟨g, 0, none⟩) 2 2)) ∧ Once l 6 (A.tmps[2]? = some (.slice (some ⟨g, 0, none⟩) 2 2)) ∧ Once l 5 (Blk W g #[iv N, iv e] 3 ∧ w1.heap.size ≤ g) ∧ (l.getD 6 true = true → l.getD 5 true = true) ∧ Kept 0 0 w1 W) (by kernel_rfl) (by kernel_rfl) ?start ?fin ?step
    case start => exact ⟨0, FR.refl _ _, once_start (by decide), once_start (by decide), once_start (by decide), once_start (by decide), once_start (by decide), once_start (by decide), once_start (by decide), once_start (by decide), (fun q => by rw [start_at (by decide)] at q; cases q), kept_drew (Kept.refl _ _ _)⟩
    case fin =>
      intro l A W h hl
      obtain ⟨g, hFR, o0, o1, o2, o3, o4, o5, o6, ox, o6w, hK⟩ := h
      have g6 := o6 (hl 6 (by decide))
      have QX := hide (ox (hl 5 (by decide)))
      have QQ := hide hK
      have hc9 := hFR.chain
      simp only [List.foldl] at hc9
      rw [getD_of g6] at hc9
      clear ox o6w hl hK hFR g6 o0 o1 o2 o3 o4 o5 o6
      generalize A.tmps.getD 5 undef = s5 at hc9
      generalize A.tmps.getD 6 undef = s6 at hc9
      generalize A.tmps.getD 7 undef = s7 at hc9
      generalize A.tmps.getD 8 undef = s8 at hc9
      generalize A.tmps.getD 9 undef = s9 at hc9
      generalize A.tmps.getD 10 undef = s10 at hc9
      subst hc9
      go_simp
      go_wp2_with fail
      go_ret
      have q2 := QX.out.2
      have q3 := K1.out.size
      exact ⟨g, 2, by rw [E.out]; rfl, by omega, QX.out.1.lt, by rw [E.out]; exact own_of_blk (xs := [N, e]) QX.out.1, K1.out.trans QQ.out⟩
    case step =>
      intro l A W i hI hm
      obtain ⟨g, hFR, o0, o1, o2, o3, o4, o5, o6, ox, o6w, hK⟩ := hI
      obtain ⟨hi1, hi2⟩ := ready_new hm
      have hsz : Hid (10 < A.tmps.size) := hide (by rw [hFR.size]; simp)
      have m1 : A.tmps[1]? = some (.pointer (some ⟨w.heap.size, 0, none⟩)) := (hFR.out 1 (by decide)).trans rfl
      rcases i with _ | _ | _ | _ | _ | _ | _ | i
      · have BL := hide (B1.out.kept0 hK)
        obtain ⟨x0, x1, x2, x3, x4, x5, x6⟩ := BL.out.c7
        refine wpOp_step rfl (fun KK hK2 => ?_)
        go_simp
        exact hK2 (A.put (some 5) (.agg (inA op z r m k e s))) _ ⟨g, hFR.put (by decide) _, .now (put_eq (by have hz := hsz.out; omega)), o1.q, o2.q, o3.q, o4.q, o5.q, o6.q, ox.past (by decide) id, (fun q => by rw [getD_set_ne (by decide)] at q ⊢; exact o6w q), hK⟩
      · have e0 := o0 (ready_dep hm 0 (by kernel_rfl))
        refine wpOp_step rfl (fun KK hK2 => ?_)
        go_simp
        refine (firstWord W op z r m k e s).mono ?_
        rw [HN.out]
        rintro r9 y ⟨rfl, kd⟩
        go_simp
        exact hK2 (A.put (some 6) (iv N)) _ ⟨g, hFR.put (by decide) _, o0.q, .now (put_eq (by have hz := hsz.out; omega)), o2.q, o3.q, o4.q, o5.q, o6.q, ox.past (by decide) (fun h => ⟨h.1.kept0 kd, h.2⟩), (fun q => by rw [getD_set_ne (by decide)] at q; rw [getD_set_ne (by decide)]; exact o6w q), (hK.trans kd)⟩
      · refine wpOp_step rfl (fun KK hK2 => ?_)
        go_simp
        exact hK2 (A.put (some 7) (.pointer (some ⟨w.heap.size, 3, none⟩))) _ ⟨g, hFR.put (by decide) _, o0.q, o1.q, .now (put_eq (by have hz := hsz.out; omega)), o3.q, o4.q, o5.q, o6.q, ox.past (by decide) id, (fun q => by rw [getD_set_ne (by decide)] at q ⊢; exact o6w q), hK⟩
      · have e2 := o2 (ready_dep hm 2 (by kernel_rfl))
        refine wpOp_step rfl (fun KK hK2 => ?_)
        go_simp
        exact hK2 (A.put (some 8) (.pointer (some ⟨w.heap.size, 5, none⟩))) _ ⟨g, hFR.put (by decide) _, o0.q, o1.q, o2.q, .now (put_eq (by have hz := hsz.out; omega)), o4.q, o5.q, o6.q, ox.past (by decide) id, (fun q => by rw [getD_set_ne (by decide)] at q ⊢; exact o6w q), hK⟩
      · have e3 := o3 (ready_dep hm 3 (by kernel_rfl))
        have BL := hide (B1.out.kept0 hK)
        obtain ⟨x0, x1, x2, x3, x4, x5, x6⟩ := BL.out.c7
        refine wpOp_step rfl (fun KK hK2 => ?_)
        go_simp
        exact hK2 (A.put (some 9) (iv e)) _ ⟨g, hFR.put (by decide) _, o0.q, o1.q, o2.q, o3.q, .now (put_eq (by have hz := hsz.out; omega)), o5.q, o6.q, ox.past (by decide) id, (fun q => by rw [getD_set_ne (by decide)] at q ⊢; exact o6w q), hK⟩
      · have e1 := o1 (ready_dep hm 1 (by kernel_rfl))
        have e4 := o4 (ready_dep hm 4 (by kernel_rfl))
        have n6 : ¬ l.getD 6 true = true := fun q => by have := o6w q; rw [hi2] at this; cases this
        refine wpOp_step rfl (fun KK hK2 => ?_)
        go_simp
        exact hK2 (A.put (some 10) (.slice (some ⟨W.heap.size, 0, none⟩) 2 2)) _ ⟨W.heap.size, hFR.put (by decide) _, o0.q, o1.q, o2.q, o3.q, o4.q, .now (put_eq (by have hz := hsz.out; omega)), (fun q => by rw [getD_set_ne (by decide)] at q; exact absurd q n6), .now ⟨Blk.new W _ _, hK.size⟩, (fun q => by rw [getD_set_ne (by decide)] at q; exact getD_set_eq), (kept_new hK _)⟩
      · have e5 := o5 (ready_dep hm 5 (by kernel_rfl))
        refine wpOp_step rfl (fun KK hK2 => ?_)
        go_simp
        exact hK2 (A.put (some 2) (.slice (some ⟨g, 0, none⟩) 2 2)) _ ⟨g, hFR.put (by decide) _, o0.q, o1.q, o2.q, o3.q, o4.q, o5.q, .now (put_eq (by have hz := hsz.out; omega)), ox.past (by decide) id, (fun _ => by rw [getD_set_ne (by decide)]; exact ready_dep hm 5 (by kernel_rfl)), hK⟩
      · simp at hi1
        omega
end Go.Proofs.Ytmkcbgnldnefmaa

namespace Go.Proofs.Ytmkcbgnldnefmaa
open Go.RowKit
set_option linter.unusedVariables false
theorem wfAt {ys : List Int} (h : Wide ys) {i : Nat} (hi : i < ys.length) : (Lit.int .i64 (el ys i)).wf = true := by
  have q := h i hi
  have e1 : IntKind.i64.min = -9223372036854775808 := rfl
  have e2 : IntKind.i64.max = 9223372036854775807 := rfl
  unfold el
  simp [Lit.wf]
  omega
set_option maxRecDepth 20000 in
set_option maxHeartbeats 4000000 in
theorem implEncodeAllC (w : World) (a : Option Addr) (ca n : Nat) (ys : List Int) (ha : Came w a ys) (ly : ys.length = 7 * n) (bx : n ≤ 2000000) : Calls Try.prog 26 #[.slice a n ca] w fun e' w' => ∃ (b : Option Addr) (c : Nat), e' = .returned (.tuple #[.slice b (Pl.eaV ys n).length c, .bool (Pl.eaOk ys n)]) ∧ SlotIn w' w.heap.size w'.heap.size b (Pl.eaV ys n) ∧ Kept 0 0 w w' ∧ (Pl.eaV ys n).length ≤ c := by
  have HA := hide ha
  have HY := hide ly
  clear ha ly
  obtain ⟨i, hi0, hz0, hz1, hz2⟩ := info_parts Try.info3
  cases h40 : decide ((40 : Int) < (n : Int))
  · go_enter Try.func26, Try.ntmps26
    go_wp2_with fail
    go_loopw [4, 6, 12] (fun v _ j wr => ∃ k : Nat, k ≤ n ∧ j = .int .i64 k ∧ Pl.allIn ys k = true ∧ wr.ownsRow w.heap.size 3 1 v (Pl.encTo ys k).length ((Pl.encTo ys k).map (Value.int .i64)) ∧ Kept 0 0 w wr) (fun _ _ j _ => n - (intOf j).toNat)
    case atStart => exact ⟨0, Nat.zero_le _, rfl, rfl, World.ownsRow_nil _ _ _ _, Kept.refl _ _ _⟩
    case round =>
      obtain ⟨k, hk, rfl, hall, hown, hkept⟩ := hrel
      have HK := hide hkept
      have HO := hide hown
      have HL := hide hall
      have hel := Pl.encTo_len ys k
      have hel2 := Pl.encode_len (Pl.inAt ys k)
      clear hkept hown hall
      by_cases hlt : k < n
      · obtain ⟨g1, o1, rfl, p0, p1, p2, p3, p4, p5, p6⟩ := (HA.out.1.keptS HK.out).at7 HY.out hlt
        have hyl := HY.out
        have wa0 : (Lit.int .i64 (el ys (k * 7))).wf = true := wfAt HA.out.2 (by omega)
        have wa1 : (Lit.int .i64 (el ys (k * 7 + 1))).wf = true := wfAt HA.out.2 (by omega)
        have wa2 : (Lit.int .i64 (el ys (k * 7 + 2))).wf = true := wfAt HA.out.2 (by omega)
        have wa3 : (Lit.int .i64 (el ys (k * 7 + 3))).wf = true := wfAt HA.out.2 (by omega)
        have wa4 : (Lit.int .i64 (el ys (k * 7 + 4))).wf = true := wfAt HA.out.2 (by omega)
        have wa5 : (Lit.int .i64 (el ys (k * 7 + 5))).wf = true := wfAt HA.out.2 (by omega)
        have wa6 : (Lit.int .i64 (el ys (k * 7 + 6))).wf = true := wfAt HA.out.2 (by omega)
        clear hyl
        have B0 := hide (Blk.new wr #[.int .i64 (el ys (k * 7)), .int .i64 (el ys (k * 7 + 1)), .int .i64 (el ys (k * 7 + 2)), .int .i64 (el ys (k * 7 + 3)), .int .i64 (el ys (k * 7 + 4)), .int .i64 (el ys (k * 7 + 5)), .int .i64 (el ys (k * 7 + 6))] 55)
        cases hb : Pl.inOk (Pl.inAt ys k)
        · have E : Hid (Pl.eaOk ys n = false) := hide (by unfold Pl.eaOk; rw [Pl.allIn_no hlt hb]; rfl)
          go_wp2_with (first | (go_at_call 50; refine (implGoodIns _ (el ys (k * 7)) (el ys (k * 7 + 1)) (el ys (k * 7 + 2)) (el ys (k * 7 + 3)) (el ys (k * 7 + 4)) (el ys (k * 7 + 5)) (el ys (k * 7 + 6)) wa0 wa1 wa2 wa3 wa4 wa5 wa6).mono ?_; rw [show Pl.inOk ⟨el ys (k * 7), el ys (k * 7 + 1), el ys (k * 7 + 2), el ys (k * 7 + 3), el ys (k * 7 + 4), el ys (k * 7 + 5), el ys (k * 7 + 6)⟩ = Pl.inOk (Pl.inAt ys k) from rfl, hb]; rintro e9 w2 ⟨rfl, k2⟩; have B2 := hide (B0.out.kept0 k2); have K2 := hide ((kept_new HK.out _).trans k2); have k9 := hide (undo (kept_alloc wr _) k2); obtain ⟨c0, c1, c2, c3, c4, c5, c6⟩ := B2.out.c7; clear k2))
          go_ret2
          exact ⟨none, 0, by simp [Pl.eaV, E.out], .inl ⟨rfl, by simp [Pl.eaV, E.out]⟩, K2.out, by simp [Pl.eaV, E.out]⟩
        · obtain ⟨ZL, hZL⟩ : ∃ ZL, ZL = Pl.encode (Pl.inAt ys k) := ⟨_, rfl⟩
          go_wp2_with (first | (go_at_call 50; refine (implGoodIns _ (el ys (k * 7)) (el ys (k * 7 + 1)) (el ys (k * 7 + 2)) (el ys (k * 7 + 3)) (el ys (k * 7 + 4)) (el ys (k * 7 + 5)) (el ys (k * 7 + 6)) wa0 wa1 wa2 wa3 wa4 wa5 wa6).mono ?_; rw [show Pl.inOk ⟨el ys (k * 7), el ys (k * 7 + 1), el ys (k * 7 + 2), el ys (k * 7 + 3), el ys (k * 7 + 4), el ys (k * 7 + 5), el ys (k * 7 + 6)⟩ = Pl.inOk (Pl.inAt ys k) from rfl, hb]; rintro e9 w2 ⟨rfl, k2⟩; have B2 := hide (B0.out.kept0 k2); have K2 := hide ((kept_new HK.out _).trans k2); have k9 := hide (undo (kept_alloc wr _) k2); obtain ⟨c0, c1, c2, c3, c4, c5, c6⟩ := B2.out.c7; clear k2) | (go_at_call 51; refine (wordsOf _ (el ys (k * 7)) (el ys (k * 7 + 1)) (el ys (k * 7 + 2)) (el ys (k * 7 + 3)) (el ys (k * 7 + 4)) (el ys (k * 7 + 5)) (el ys (k * 7 + 6)) hb).mono ?_; rintro e9 w3 ⟨g, c, rfl, hg1, hg2, hO, k3⟩; have K3 := hide (K2.out.trans k3); have OE := hide hO; have O3 := hide (HO.out.kept (k9.out.trans k3).grown (Classical.em _)); have s3 := K3.out.size; clear hg1 hg2 hO k3) | (at_builtin; refine wpList_append_own _ rfl _ _ 22 rfl w.heap.size 3 i (.int .i64 0) 1 8 Try.underlying22 hi0 hz0 hz1 hz2 rfl (by decide) _ _ _ rfl O3.out ⟨g, 0, none⟩ (Pl.encode (Pl.inAt ys k)).length c ((Pl.encode (Pl.inAt ys k)).map (Value.int .i64)) rfl ?c0 ?c1 ?c2 ?c3 ?c4 ?c5 ?_))
          case c0 => simp
          case c1 => exact news_own OE.out
          case c2 => exact news_one
          case c3 => unfold maxLen; omega
          case c4 => omega
          case c5 => omega
          intro v' w4 hown' hgr _
          have HO4 := hide hown'
          have K4 := hide (kept_over K3.out (kept_row (lo := w.heap.size) (hi := w3.heap.size) hgr (fun g hg => O3.out.lt g hg)) (Nat.le_refl _))
          clear hown' hgr
          go_wp2_with fail
          go_roundw
          case rel => exact ⟨k + 1, by omega, by go_num, by unfold Pl.allIn; rw [HL.out, hb]; rfl, by unfold Pl.encTo; rw [List.length_append, List.map_append]; exact HO4.out, K4.out⟩
          case measure => simp [intOf]; omega
      · obtain rfl : k = n := by omega
        have E : Hid (Pl.eaOk ys k = true) := hide (by unfold Pl.eaOk; rw [HL.out]; simp at h40; simp; omega)
        have EV : Hid (Pl.eaV ys k = Pl.encTo ys k) := hide (by simp [Pl.eaV, E.out])
        obtain ⟨b, cb, rfl, hS, hC⟩ := slotIn_rowC HO.out
        go_wp2_with fail
        go_ret2
        exact ⟨b, cb, by rw [EV.out, E.out]; rfl, by rw [EV.out]; exact hS, HK.out, by rw [EV.out]; exact hC⟩
  · have E : Hid (Pl.eaOk ys n = false) := hide (by unfold Pl.eaOk; simp at h40; simp; omega)
    go_enter Try.func26, Try.ntmps26
    go_wp2_with fail
    go_ret2
    exact ⟨none, 0, by simp [Pl.eaV, E.out], .inl ⟨rfl, by simp [Pl.eaV, E.out]⟩, Kept.refl _ _ _, by simp [Pl.eaV, E.out]⟩
theorem implEncodeAll (w : World) (a : Option Addr) (ca n : Nat) (ys : List Int) (ha : Came w a ys) (ly : ys.length = 7 * n) (bx : n ≤ 2000000) : Calls Try.prog 26 #[.slice a n ca] w fun e' w' => ∃ (b : Option Addr) (c : Nat), e' = .returned (.tuple #[.slice b (Pl.eaV ys n).length c, .bool (Pl.eaOk ys n)]) ∧ SlotIn w' w.heap.size w'.heap.size b (Pl.eaV ys n) ∧ Kept 0 0 w w' := by
  refine (implEncodeAllC w a ca n ys ha ly bx).mono ?_
  rintro e w' ⟨b, c, h1, h2, h3, _⟩
  exact ⟨b, c, h1, h2, h3⟩
end Go.Proofs.Ytmkcbgnldnefmaa

namespace Go.Proofs.Ytmkcbgnldnefmaa
open Go.RowKit
set_option linter.unusedVariables false
theorem ea_len (ys : List Int) (n : Nat) : (Pl.eaV ys n).length ≤ 2000000 := by
  unfold Pl.eaV
  split
  · rename_i h
    simp [Pl.eaOk] at h
    have := Pl.encTo_len ys n
    omega
  · simp
set_option maxRecDepth 100000 in
set_option maxHeartbeats 8000000 in
theorem lawEncodeAll (a : Option Addr) (n ca : Nat) (ys : List Int) (w : World) (hx : Came w a ys) (ly : ys.length = 7 * n) (lm : n ≤ 9223372036854775807) :
    Calls Try.prog 6 #[.slice a n ca] w fun r' w' => r' = .returned (.bool true) ∧ Below w.heap.size w w' := by
  have HX := hide hx
  have HL := hide ly
  clear hx ly
  by_cases hb : (1048576 : Int) - (n : Int) < 0
  · have hsz : (if (1048576 : Int) - (n : Int) < 0 then (-1 : Int) else 1048576 - (n : Int)) = -1 := if_pos hb
    go_enter Try.func6, Try.ntmps6
    go_wp2_with fail
    refine (szInsS _ a ca n 1048576 lm (by decide) (by decide)).mono ?_
    rintro r9 w' ⟨rfl, hw⟩
    have hw2 := hw.symm
    clear hw
    subst hw2
    rw [hsz]
    go_wp2_with fail
    go_ret
    exact ⟨rfl, Below.refl _ _⟩
  · obtain ⟨LF, hLF⟩ : ∃ LF : Int, LF = 1048576 - (n : Int) := ⟨_, rfl⟩
    have hsz : (if (1048576 : Int) - (n : Int) < 0 then (-1 : Int) else 1048576 - (n : Int)) = LF := (if_neg hb).trans hLF.symm
    have bx : n ≤ 2000000 := by omega
    have q9 : 0 ≤ LF := by omega
    have q8 : LF ≤ 2000000 := by omega
    clear hb hLF
    have bl := ea_len ys n
    generalize hLl : Pl.eaV ys n = L at bl
    generalize hKk : Pl.eaOk ys n = OK
    have HLL := hide hLl
    have HKK := hide hKk
    clear hLl hKk
    have Bel := hide (Below.refl w.heap.size w)
    go_enter Try.func6, Try.ntmps6
    go_wp2_with fail
    refine (szInsS _ a ca n 1048576 lm (by decide) (by decide)).mono ?_
    rintro r9 w' ⟨rfl, hw⟩
    have hw2 := hw.symm
    clear hw
    subst hw2
    rw [hsz]
    go_wp2_with fail
    refine (toInsS _ a ca n ys (HX.out.below Bel.out).1 HL.out bx).mono ?_
    rintro r9 w1 ⟨rfl, o9, l9, gr⟩
    have k9 := kept_grown gr
    have Beln := hide (below_kept Bel.out k9 (by omega))
    clear Bel
    have Bel := Beln
    clear Beln
    have nw1 := k9.size
    have mw1 := l9
    have O1 := hide o9
    clear k9 gr o9 l9
    go_wp2_with fail
    refine (specEncodeAll _ _ n n ys O1.out.row HL.out bx).mono ?_
    rw [HLL.out, HKK.out]
    rintro r9 w2 ⟨d0, e0, rfl, s9, k9⟩
    clear O1
    have Beln := hide (below_kept Bel.out k9 (by omega))
    clear Bel
    have Bel := Beln
    clear Beln
    have nw2 := k9.size
    have S0 := hide s9
    clear k9 s9
    go_wp2_with fail
    refine (toInsS _ a ca n ys (HX.out.below Bel.out).1 HL.out bx).mono ?_
    rintro r9 w3 ⟨rfl, o9, l9, gr⟩
    have k9 := kept_grown gr
    have Beln := hide (below_kept Bel.out k9 (by omega))
    have S0n := hide (S0.out.kept k9 (by omega))
    clear Bel S0
    have Bel := Beln
    have S0 := S0n
    clear Beln S0n
    have nw3 := k9.size
    have mw3 := l9
    have O2 := hide o9
    clear k9 gr o9 l9
    go_wp2_with fail
    refine (implEncodeAll _ _ n n ys (O2.out.came HX.out.2) HL.out bx).mono ?_
    rw [HLL.out, HKK.out]
    rintro r9 w4 ⟨d1, e1, rfl, s9, k9⟩
    have Beln := hide (below_kept Bel.out k9 (by omega))
    have S0n := hide (S0.out.kept k9 (by omega))
    have O2n := hide (O2.out.keptS k9 (by omega))
    clear Bel S0 O2
    have Bel := Beln
    have S0 := S0n
    have O2 := O2n
    clear Beln S0n O2n
    have nw4 := k9.size
    have S1 := hide s9
    clear k9 s9
    go_wp2_with fail
    refine (eqIntS _ d1 d0 _ _ L L S1.out.row S0.out.row bl bl).mono ?_
    rintro r9 w5 ⟨rfl, gr⟩
    rw [decide_eq_true (rfl : L = L)]
    have k9 := kept_grown gr
    have Beln := hide (below_kept Bel.out k9 (by omega))
    have S0n := hide (S0.out.kept k9 (by omega))
    have O2n := hide (O2.out.keptS k9 (by omega))
    have S1n := hide (S1.out.kept k9 (by omega))
    clear Bel S0 O2 S1
    have Bel := Beln
    have S0 := S0n
    have O2 := O2n
    have S1 := S1n
    clear Beln S0n O2n S1n
    have nw5 := k9.size
    clear k9 gr
    go_wp2_with fail
    refine (toInsS _ a ca n ys (HX.out.below Bel.out).1 HL.out bx).mono ?_
    rintro r9 w6 ⟨rfl, o9, l9, gr⟩
    have k9 := kept_grown gr
    have Beln := hide (below_kept Bel.out k9 (by omega))
    have S0n := hide (S0.out.kept k9 (by omega))
    have O2n := hide (O2.out.keptS k9 (by omega))
    have S1n := hide (S1.out.kept k9 (by omega))
    clear Bel S0 O2 S1
    have Bel := Beln
    have S0 := S0n
    have O2 := O2n
    have S1 := S1n
    clear Beln S0n O2n S1n
    have nw6 := k9.size
    have mw6 := l9
    have O3 := hide o9
    clear k9 gr o9 l9
    go_wp2_with fail
    refine (eqInsS _ _ _ _ _ n ys O2.out.row O3.out.row HL.out bx).mono ?_
    rintro r9 w7 ⟨rfl, gr⟩
    have k9 := kept_grown gr
    clear O3
    have Beln := hide (below_kept Bel.out k9 (by omega))
    have S0n := hide (S0.out.kept k9 (by omega))
    have O2n := hide (O2.out.keptS k9 (by omega))
    have S1n := hide (S1.out.kept k9 (by omega))
    clear Bel S0 O2 S1
    have Bel := Beln
    have S0 := S0n
    have O2 := O2n
    have S1 := S1n
    clear Beln S0n O2n S1n
    have nw7 := k9.size
    clear k9 gr
    go_wp2_with fail
    refine (markInsS _ _ _ n ys 1 O2.out HL.out bx (by decide) (by decide)).mono ?_
    rintro r9 w8 ⟨rfl, o9, gr⟩
    have k9 : Kept w2.heap.size w3.heap.size _ w8 := kept_row gr (fun g hg => by have q : w2.heap.size = g := Option.some.inj hg; omega)
    clear O2
    have Beln := hide (below_kept Bel.out k9 (by omega))
    have S0n := hide (S0.out.kept k9 (by omega))
    have S1n := hide (S1.out.kept k9 (by omega))
    clear Bel S0 S1
    have Bel := Beln
    have S0 := S0n
    have S1 := S1n
    clear Beln S0n S1n
    have nw8 := k9.size
    clear k9 gr o9
    go_wp2_with fail
    refine (eqIntS _ d1 d0 _ _ L L S1.out.row S0.out.row bl bl).mono ?_
    rintro r9 w9 ⟨rfl, gr⟩
    rw [decide_eq_true (rfl : L = L)]
    have k9 := kept_grown gr
    have Beln := hide (below_kept Bel.out k9 (by omega))
    have S0n := hide (S0.out.kept k9 (by omega))
    have S1n := hide (S1.out.kept k9 (by omega))
    clear Bel S0 S1
    have Bel := Beln
    have S0 := S0n
    have S1 := S1n
    clear Beln S0n S1n
    have nw9 := k9.size
    clear k9 gr
    go_wp2_with fail
    refine (markSlot _ w3.heap.size _ d1 L 1 (S1.out.slot (by omega)) bl (by decide) (by decide)).mono ?_
    rintro r9 w10 ⟨rfl, sl, gr⟩
    have k9 : Kept w3.heap.size w4.heap.size _ w10 := kept_row gr S1.out.blk_in
    have M := hide (S1.out.again sl)
    clear S1
    have Beln := hide (below_kept Bel.out k9 (by omega))
    have S0n := hide (S0.out.kept k9 (by omega))
    clear Bel S0
    have Bel := Beln
    have S0 := S0n
    clear Beln S0n
    have nw10 := k9.size
    clear k9 sl gr
    go_wp2_with fail
    refine (heldIntS _ d1 _ L.length 1 M.out.row bl (by decide) (by decide)).mono ?_
    rintro r9 w11 ⟨rfl, gr⟩
    have k9 := kept_grown gr
    have Beln := hide (below_kept Bel.out k9 (by omega))
    have S0n := hide (S0.out.kept k9 (by omega))
    have Mn := hide (M.out.kept k9 (by omega))
    clear Bel S0 M
    have Bel := Beln
    have S0 := S0n
    have M := Mn
    clear Beln S0n Mn
    have nw11 := k9.size
    clear k9 gr
    go_wp2_with fail
    refine (toInsS _ a ca n ys (HX.out.below Bel.out).1 HL.out bx).mono ?_
    rintro r9 w12 ⟨rfl, o9, l9, gr⟩
    have k9 := kept_grown gr
    have Beln := hide (below_kept Bel.out k9 (by omega))
    have S0n := hide (S0.out.kept k9 (by omega))
    have Mn := hide (M.out.kept k9 (by omega))
    clear Bel S0 M
    have Bel := Beln
    have S0 := S0n
    have M := Mn
    clear Beln S0n Mn
    have nw12 := k9.size
    have mw12 := l9
    have O4 := hide o9
    clear k9 gr o9 l9
    go_wp2_with fail
    refine (implEncodeAll _ _ n n ys (O4.out.came HX.out.2) HL.out bx).mono ?_
    rw [HLL.out, HKK.out]
    rintro r9 w13 ⟨d2, e2, rfl, s9, k9⟩
    have Beln := hide (below_kept Bel.out k9 (by omega))
    have S0n := hide (S0.out.kept k9 (by omega))
    have Mn := hide (M.out.kept k9 (by omega))
    have O4n := hide (O4.out.keptS k9 (by omega))
    clear Bel S0 M O4
    have Bel := Beln
    have S0 := S0n
    have M := Mn
    have O4 := O4n
    clear Beln S0n Mn O4n
    have nw13 := k9.size
    have S2 := hide s9
    clear k9 s9
    go_wp2_with fail
    refine (eqIntS _ d2 d0 _ _ L L S2.out.row S0.out.row bl bl).mono ?_
    rintro r9 w14 ⟨rfl, gr⟩
    rw [decide_eq_true (rfl : L = L)]
    have k9 := kept_grown gr
    have Beln := hide (below_kept Bel.out k9 (by omega))
    have S0n := hide (S0.out.kept k9 (by omega))
    have Mn := hide (M.out.kept k9 (by omega))
    have O4n := hide (O4.out.keptS k9 (by omega))
    have S2n := hide (S2.out.kept k9 (by omega))
    clear Bel S0 M O4 S2
    have Bel := Beln
    have S0 := S0n
    have M := Mn
    have O4 := O4n
    have S2 := S2n
    clear Beln S0n Mn O4n S2n
    have nw14 := k9.size
    clear k9 gr
    go_wp2_with fail
    refine (heldIntS _ d1 _ L.length 1 M.out.row bl (by decide) (by decide)).mono ?_
    rintro r9 w15 ⟨rfl, gr⟩
    have k9 := kept_grown gr
    have Beln := hide (below_kept Bel.out k9 (by omega))
    have S0n := hide (S0.out.kept k9 (by omega))
    have Mn := hide (M.out.kept k9 (by omega))
    have O4n := hide (O4.out.keptS k9 (by omega))
    have S2n := hide (S2.out.kept k9 (by omega))
    clear Bel S0 M O4 S2
    have Bel := Beln
    have S0 := S0n
    have M := Mn
    have O4 := O4n
    have S2 := S2n
    clear Beln S0n Mn O4n S2n
    have nw15 := k9.size
    clear k9 gr
    go_wp2_with fail
    go_ret
    exact ⟨rfl, Bel.out⟩
end Go.Proofs.Ytmkcbgnldnefmaa

namespace Go.Proofs.Ytmkcbgnldnefmaa
open Go.RowKit Go.WideShapes Go.ChangeShapes Go.ChangeAt
set_option linter.unusedVariables false
set_option maxRecDepth 100000

theorem Try.cellsInt : Try.prog.cellsOf 3 = 1 := by kernel_rfl
theorem Try.cellsOpnd : Try.prog.cellsOf 48 = 3 := by kernel_rfl
theorem Try.cellsIns : Try.prog.cellsOf 50 = 7 := by kernel_rfl

theorem Addr.add_add_own (a : Addr) (i j : Nat) : (a.add i).add j = a.add (i + j) := by
  unfold Addr.add
  by_cases hi : i = 0 <;> by_cases hj : j = 0 <;> simp [hi, hj, Nat.add_assoc]
theorem came_of {w : World} {x : Addr} {n : Nat} (h : ∀ i, i < n → ∃ z : Int, w.cell? (x.add i) = some (.int .i64 z) ∧ (Lit.int .i64 z).wf = true) : ∃ xs : List Int, xs.length = n ∧ Came w (some x) xs := by
  obtain ⟨f, hf⟩ := Go.Deep.choose_lt h
  refine ⟨(List.range n).map f, by simp, ?_, ?_⟩
  · intro i hi
    have hi' : i < n := by simpa using hi
    obtain ⟨g, off, spot⟩ := x
    have hspot : spot = none := by simpa [Addr.add] using World.cell?_spot (hf 0 (by omega)).1
    subst hspot
    refine ⟨g, off, rfl, ?_⟩
    have hc := (hf i hi').1
    by_cases h0 : i = 0
    · subst h0; simpa [Addr.add, hi'] using hc
    · simpa [Addr.add, h0, hi'] using hc
  · intro i hi
    have hi' : i < n := by simpa using hi
    have := bounds_i64 (hf i hi').2
    simpa [hi'] using this

section
variable {H : Type} {enc : TypeId × Value → H} {w : World} {base : Nat} {spare : Nat → Bool} {held : Bool}

theorem open_insCells {fuel : Nat} {c0 c1 c2 c3 c4 c5 c6 : Value} {y : DataW H × List MemPlace} (h : DataW.trod enc Try.prog w base spare held fuel 50 [c0, c1, c2, c3, c4, c5, c6] = some y) :
    ∃ i0 i1 i2 i3 i4 i5 i6 : Int, (c0 = .int .i64 i0 ∧ c1 = .int .i64 i1 ∧ c2 = .int .i64 i2 ∧ c3 = .int .i64 i3 ∧ c4 = .int .i64 i4 ∧ c5 = .int .i64 i5 ∧ c6 = .int .i64 i6) ∧ (Lit.int .i64 i0).wf = true ∧ (Lit.int .i64 i1).wf = true ∧ (Lit.int .i64 i2).wf = true ∧ (Lit.int .i64 i3).wf = true ∧ (Lit.int .i64 i4).wf = true ∧ (Lit.int .i64 i5).wf = true ∧ (Lit.int .i64 i6).wf = true := by
  obtain ⟨zs, k, _, _, _, hzl, hf⟩ := DataW.trod_struct Try.underlying50 h
  obtain ⟨z0, z1, z2, z3, z4, rfl⟩ : ∃ z0 z1 z2 z3 z4, zs = [z0, z1, z2, z3, z4] := by
    match zs, hzl with
    | [z0, z1, z2, z3, z4], _ => exact ⟨z0, z1, z2, z3, z4, rfl⟩
  have t0 := hf 0 _ rfl
  have t1 := hf 1 _ rfl
  have t2 := hf 2 _ rfl
  have t3 := hf 3 _ rfl
  have t4 := hf 4 _ rfl
  simp [Try.cellsInt, Try.cellsOpnd] at t0 t1 t2 t3 t4
  obtain ⟨ys, k2, _, _, _, hyl, hg⟩ := DataW.trod_struct Try.underlying48 t3
  obtain ⟨y0, y1, y2, rfl⟩ : ∃ y0 y1 y2, ys = [y0, y1, y2] := by
    match ys, hyl with
    | [y0, y1, y2], _ => exact ⟨y0, y1, y2, rfl⟩
  have s0 := hg 0 _ rfl
  have s1 := hg 1 _ rfl
  have s2 := hg 2 _ rfl
  simp [Try.cellsInt] at s0 s1 s2
  obtain ⟨i0, e0, _, b0⟩ := DataW.trod_int Try.underlying3 t0
  obtain ⟨i1, e1, _, b1⟩ := DataW.trod_int Try.underlying3 t1
  obtain ⟨i2, e2, _, b2⟩ := DataW.trod_int Try.underlying3 t2
  obtain ⟨i3, e3, _, b3⟩ := DataW.trod_int Try.underlying3 s0
  obtain ⟨i4, e4, _, b4⟩ := DataW.trod_int Try.underlying3 s1
  obtain ⟨i5, e5, _, b5⟩ := DataW.trod_int Try.underlying3 s2
  obtain ⟨i6, e6, _, b6⟩ := DataW.trod_int Try.underlying3 t4
  simp at e0 e1 e2 e3 e4 e5 e6
  exact ⟨i0, i1, i2, i3, i4, i5, i6, ⟨e0, e1, e2, e3, e4, e5, e6⟩, b0, b1, b2, b3, b4, b5, b6⟩
theorem open_InsRow {fuel : Nat} {v : Value} {y : DataW H × List MemPlace} (h : DataW.trod enc Try.prog w base spare held fuel 60 [v] = some y) :
    ∃ (a : Option Addr) (m cap : Nat) (ys : List Int), v = .slice a m cap ∧ Came w a ys ∧ ys.length = 7 * m ∧ m ≤ maxLen := by
  rcases Go.Deep.open_slice Try.underlying60 h with ⟨hc, _⟩ | ⟨x, len, cap, m, n, D, Pl, hc, _, hl, hm, hmm, _, hel⟩
  · simp at hc
    exact ⟨none, 0, 0, [], hc, ⟨fun i hi => absurd hi (Nat.not_lt_zero i), fun i hi => absurd hi (Nat.not_lt_zero i)⟩, rfl, Nat.zero_le _⟩
  · simp at hc
    have hlen : len ≤ m := by rw [hmm]; split <;> omega
    obtain ⟨ys, hy, hx⟩ := came_of (w := w) (x := x) (n := 7 * len) (by
      intro i hi
      obtain ⟨cs', h1, h2⟩ := hel (i / 7) (by omega)
      rw [Try.cellsIns] at h1
      obtain ⟨_, hl5, hcs⟩ := World.cells?_some h1
      have hget := hcs (i % 7) (by omega)
      rw [Addr.add_add_own, show i / 7 * 7 + i % 7 = i from by omega] at hget
      rw [hget]
      obtain ⟨c0, c1, c2, c3, c4, c5, c6, rfl⟩ : ∃ c0 c1 c2 c3 c4 c5 c6, cs' = [c0, c1, c2, c3, c4, c5, c6] := by
        match cs', hl5 with
        | [c0, c1, c2, c3, c4, c5, c6], _ => exact ⟨c0, c1, c2, c3, c4, c5, c6, rfl⟩
      obtain ⟨n0, n1, n2, n3, n4, n5, n6, ⟨e0, e1, e2, e3, e4, e5, e6⟩, b0, b1, b2, b3, b4, b5, b6⟩ := open_insCells h2
      subst e0 e1 e2 e3 e4 e5 e6
      obtain h | h | h | h | h | h | h : i % 7 = 0 ∨ i % 7 = 1 ∨ i % 7 = 2 ∨ i % 7 = 3 ∨ i % 7 = 4 ∨ i % 7 = 5 ∨ i % 7 = 6 := by omega
      all_goals rw [h]
      · exact ⟨n0, rfl, b0⟩
      · exact ⟨n1, rfl, b1⟩
      · exact ⟨n2, rfl, b2⟩
      · exact ⟨n3, rfl, b3⟩
      · exact ⟨n4, rfl, b4⟩
      · exact ⟨n5, rfl, b5⟩
      · exact ⟨n6, rfl, b6⟩)
    exact ⟨some x, len, cap, ys, hc, hx, hy, by omega⟩
theorem open_InsArg {r : Reach} {b0 : Nat} {v : Value} {d : DataW H} {p : List MemPlace} (hv : Value.okWide Try.prog w r b0 60 v) (h : DataW.Trod enc Try.prog w base spare held 60 v d p) :
    ∃ (a : Option Addr) (m cap : Nat) (ys : List Int), v = .slice a m cap ∧ Came w a ys ∧ ys.length = 7 * m ∧ m ≤ maxLen := by
  obtain ⟨a1, len1, cap1, rfl⟩ := okWide_slice Try.underlying60 hv
  obtain ⟨fuel, hf⟩ := h
  exact open_InsRow hf
end
end Go.Proofs.Ytmkcbgnldnefmaa

