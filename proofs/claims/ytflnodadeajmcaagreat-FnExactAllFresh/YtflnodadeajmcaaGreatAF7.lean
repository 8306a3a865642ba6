/- What the program asks of an instruction by its operation. What the program's GoodIns answers, for every argument. The program's row of privileged instructions, a map whose keys are structs: what is put in is found, in whatever order it was put. What the program's IsPrivileged, LongIns and EncodeIns answer, for every argument. What the models of DecodeIns and EncodeIns answer, for every argument. What the model of EncodeAll answers, for every list. What the program's EncodeAll answers, for every list. Whether a list is a row of straight good instructions, of both sides. Which flags of a row are dead, of both sides. Which flags of a row are dead, as the model tells it. What the model does with a unit's list: its instructions, how many are straight, its skips. -/
import Derived.Test.YtflnodadeajmcaaGreatAF6
import Derived.BigQuiet
import Derived.Deep.QuietTactic
import Derived.Test.YtflnodadeajmcaaGreatAF4
import Derived.Carry
import Derived.MapKept
import Derived.Deep.AppendLies
import Derived.StillTailTactics
import Derived.Test.YtflnodadeajmcaaGreatAF1
import Derived.Test.YtflnodadeajmcaaGreatAF5
namespace Go.Proofs.YtflnodadeajmcaaGreat
open Go.RowKit
set_option linter.unusedVariables false
theorem fitsOp1 (w : World) (z r m k e s : Int) (h0 : 0 ≤ s) : Calls Tryz.prog 195 #[.agg (inA 1 z r m k e s)] w fun r' w' => r' = .returned (.bool (Pl.inKind ⟨1, z, r, m, k, e, s⟩)) ∧ Kept 0 0 w w' := by
  have K0 := hide (kept_alloc w (.cells (inA 1 z r m k e s) 124))
  rw [show Pl.inKind ⟨1, z, r, m, k, e, s⟩ = ((s == 0) && ((z == 2) || !(m == 1))) from rfl]
  cases a0 : (s == 0)
  · go_enter Tryz.func195, Tryz.ntmps195
    go_wp2_with fail
    go_quiet (fail)
    go_wp2_with fail
    go_ret
    exact ⟨rB (by simp), kept_drewN K0.out _⟩
  · cases a1 : (z == 2)
    · go_enter Tryz.func195, Tryz.ntmps195
      go_wp2_with fail
      go_quiet (fail)
      go_wp2_with fail
      go_ret
      exact ⟨rB (by simp [bne]), kept_drewN K0.out _⟩
    · go_enter Tryz.func195, Tryz.ntmps195
      go_wp2_with fail
      go_quiet (fail)
      go_wp2_with fail
      go_ret
      exact ⟨rB (by simp), kept_drewN K0.out _⟩
theorem fitsOp2 (w : World) (z r m k e s : Int) (h0 : 0 ≤ s) : Calls Tryz.prog 195 #[.agg (inA 2 z r m k e s)] w fun r' w' => r' = .returned (.bool (Pl.inKind ⟨2, z, r, m, k, e, s⟩)) ∧ Kept 0 0 w w' := by
  have K0 := hide (kept_alloc w (.cells (inA 2 z r m k e s) 124))
  rw [show Pl.inKind ⟨2, z, r, m, k, e, s⟩ = ((s == 0) && ((m == 0) || Pl.memM m)) from rfl]
  cases a0 : (s == 0)
  · go_enter Tryz.func195, Tryz.ntmps195
    go_wp2_with fail
    go_quiet (fail)
    go_wp2_with fail
    go_ret
    exact ⟨rB (by simp), kept_drewN K0.out _⟩
  · go_enter Tryz.func195, Tryz.ntmps195
    go_wp2_with fail
    go_quiet (fail)
    go_wp2_with (go_at_call 210; refine st (canTake _ _) ?_)
    go_ret
    exact ⟨rB (by simp), kept_drewN K0.out _⟩
theorem fitsOp3 (w : World) (z r m k e s : Int) (h0 : 0 ≤ s) : Calls Tryz.prog 195 #[.agg (inA 3 z r m k e s)] w fun r' w' => r' = .returned (.bool (Pl.inKind ⟨3, z, r, m, k, e, s⟩)) ∧ Kept 0 0 w w' := by
  have K0 := hide (kept_alloc w (.cells (inA 3 z r m k e s) 124))
  rw [show Pl.inKind ⟨3, z, r, m, k, e, s⟩ = ((s == 0) && ((z == 2) || !(m == 1))) from rfl]
  cases a0 : (s == 0)
  · go_enter Tryz.func195, Tryz.ntmps195
    go_wp2_with fail
    go_quiet (fail)
    go_wp2_with fail
    go_ret
    exact ⟨rB (by simp), kept_drewN K0.out _⟩
  · cases a1 : (z == 2)
    · go_enter Tryz.func195, Tryz.ntmps195
      go_wp2_with fail
      go_quiet (fail)
      go_wp2_with fail
      go_ret
      exact ⟨rB (by simp [bne]), kept_drewN K0.out _⟩
    · go_enter Tryz.func195, Tryz.ntmps195
      go_wp2_with fail
      go_quiet (fail)
      go_wp2_with fail
      go_ret
      exact ⟨rB (by simp), kept_drewN K0.out _⟩
theorem fitsOp4 (w : World) (z r m k e s : Int) (h0 : 0 ≤ s) : Calls Tryz.prog 195 #[.agg (inA 4 z r m k e s)] w fun r' w' => r' = .returned (.bool (Pl.inKind ⟨4, z, r, m, k, e, s⟩)) ∧ Kept 0 0 w w' := by
  have K0 := hide (kept_alloc w (.cells (inA 4 z r m k e s) 124))
  rw [show Pl.inKind ⟨4, z, r, m, k, e, s⟩ = ((s == 0) && ((z == 2) || !(m == 1))) from rfl]
  cases a0 : (s == 0)
  · go_enter Tryz.func195, Tryz.ntmps195
    go_wp2_with fail
    go_quiet (fail)
    go_wp2_with fail
    go_ret
    exact ⟨rB (by simp), kept_drewN K0.out _⟩
  · cases a1 : (z == 2)
    · go_enter Tryz.func195, Tryz.ntmps195
      go_wp2_with fail
      go_quiet (fail)
      go_wp2_with fail
      go_ret
      exact ⟨rB (by simp [bne]), kept_drewN K0.out _⟩
    · go_enter Tryz.func195, Tryz.ntmps195
      go_wp2_with fail
      go_quiet (fail)
      go_wp2_with fail
      go_ret
      exact ⟨rB (by simp), kept_drewN K0.out _⟩
theorem fitsOp5 (w : World) (z r m k e s : Int) (h0 : 0 ≤ s) : Calls Tryz.prog 195 #[.agg (inA 5 z r m k e s)] w fun r' w' => r' = .returned (.bool (Pl.inKind ⟨5, z, r, m, k, e, s⟩)) ∧ Kept 0 0 w w' := by
  have K0 := hide (kept_alloc w (.cells (inA 5 z r m k e s) 124))
  rw [show Pl.inKind ⟨5, z, r, m, k, e, s⟩ = ((s == 0) && ((z == 2) || !(m == 1))) from rfl]
  cases a0 : (s == 0)
  · go_enter Tryz.func195, Tryz.ntmps195
    go_wp2_with fail
    go_quiet (fail)
    go_wp2_with fail
    go_ret
    exact ⟨rB (by simp), kept_drewN K0.out _⟩
  · cases a1 : (z == 2)
    · go_enter Tryz.func195, Tryz.ntmps195
      go_wp2_with fail
      go_quiet (fail)
      go_wp2_with fail
      go_ret
      exact ⟨rB (by simp [bne]), kept_drewN K0.out _⟩
    · go_enter Tryz.func195, Tryz.ntmps195
      go_wp2_with fail
      go_quiet (fail)
      go_wp2_with fail
      go_ret
      exact ⟨rB (by simp), kept_drewN K0.out _⟩
theorem fitsOp6 (w : World) (z r m k e s : Int) (h0 : 0 ≤ s) : Calls Tryz.prog 195 #[.agg (inA 6 z r m k e s)] w fun r' w' => r' = .returned (.bool (Pl.inKind ⟨6, z, r, m, k, e, s⟩)) ∧ Kept 0 0 w w' := by
  have K0 := hide (kept_alloc w (.cells (inA 6 z r m k e s) 124))
  rw [show Pl.inKind ⟨6, z, r, m, k, e, s⟩ = ((s == 0) && ((z == 2) || !(m == 1))) from rfl]
  cases a0 : (s == 0)
  · go_enter Tryz.func195, Tryz.ntmps195
    go_wp2_with fail
    go_quiet (fail)
    go_wp2_with fail
    go_ret
    exact ⟨rB (by simp), kept_drewN K0.out _⟩
  · cases a1 : (z == 2)
    · go_enter Tryz.func195, Tryz.ntmps195
      go_wp2_with fail
      go_quiet (fail)
      go_wp2_with fail
      go_ret
      exact ⟨rB (by simp [bne]), kept_drewN K0.out _⟩
    · go_enter Tryz.func195, Tryz.ntmps195
      go_wp2_with fail
      go_quiet (fail)
      go_wp2_with fail
      go_ret
      exact ⟨rB (by simp), kept_drewN K0.out _⟩
theorem fitsOp7 (w : World) (z r m k e s : Int) (h0 : 0 ≤ s) : Calls Tryz.prog 195 #[.agg (inA 7 z r m k e s)] w fun r' w' => r' = .returned (.bool (Pl.inKind ⟨7, z, r, m, k, e, s⟩)) ∧ Kept 0 0 w w' := by
  have K0 := hide (kept_alloc w (.cells (inA 7 z r m k e s) 124))
  rw [show Pl.inKind ⟨7, z, r, m, k, e, s⟩ = ((s == 0) && ((z == 2) || !(m == 1))) from rfl]
  cases a0 : (s == 0)
  · go_enter Tryz.func195, Tryz.ntmps195
    go_wp2_with fail
    go_quiet (fail)
    go_wp2_with fail
    go_ret
    exact ⟨rB (by simp), kept_drewN K0.out _⟩
  · cases a1 : (z == 2)
    · go_enter Tryz.func195, Tryz.ntmps195
      go_wp2_with fail
      go_quiet (fail)
      go_wp2_with fail
      go_ret
      exact ⟨rB (by simp [bne]), kept_drewN K0.out _⟩
    · go_enter Tryz.func195, Tryz.ntmps195
      go_wp2_with fail
      go_quiet (fail)
      go_wp2_with fail
      go_ret
      exact ⟨rB (by simp), kept_drewN K0.out _⟩
theorem fitsOp8 (w : World) (z r m k e s : Int) (h0 : 0 ≤ s) : Calls Tryz.prog 195 #[.agg (inA 8 z r m k e s)] w fun r' w' => r' = .returned (.bool (Pl.inKind ⟨8, z, r, m, k, e, s⟩)) ∧ Kept 0 0 w w' := by
  have K0 := hide (kept_alloc w (.cells (inA 8 z r m k e s) 124))
  rw [show Pl.inKind ⟨8, z, r, m, k, e, s⟩ = ((s == 0) && ((z == 2) || !(m == 1))) from rfl]
  cases a0 : (s == 0)
  · go_enter Tryz.func195, Tryz.ntmps195
    go_wp2_with fail
    go_quiet (fail)
    go_wp2_with fail
    go_ret
    exact ⟨rB (by simp), kept_drewN K0.out _⟩
  · cases a1 : (z == 2)
    · go_enter Tryz.func195, Tryz.ntmps195
      go_wp2_with fail
      go_quiet (fail)
      go_wp2_with fail
      go_ret
      exact ⟨rB (by simp [bne]), kept_drewN K0.out _⟩
    · go_enter Tryz.func195, Tryz.ntmps195
      go_wp2_with fail
      go_quiet (fail)
      go_wp2_with fail
      go_ret
      exact ⟨rB (by simp), kept_drewN K0.out _⟩
theorem fitsOp9 (w : World) (z r m k e s : Int) (h0 : 0 ≤ s) : Calls Tryz.prog 195 #[.agg (inA 9 z r m k e s)] w fun r' w' => r' = .returned (.bool (Pl.inKind ⟨9, z, r, m, k, e, s⟩)) ∧ Kept 0 0 w w' := by
  have K0 := hide (kept_alloc w (.cells (inA 9 z r m k e s) 124))
  rw [show Pl.inKind ⟨9, z, r, m, k, e, s⟩ = ((z == 2) && (s == 0)) from rfl]
  cases a0 : (z == 2)
  · go_enter Tryz.func195, Tryz.ntmps195
    go_wp2_with fail
    go_quiet (fail)
    go_wp2_with fail
    go_ret
    exact ⟨rB (by simp), kept_drewN K0.out _⟩
  · go_enter Tryz.func195, Tryz.ntmps195
    go_wp2_with fail
    go_quiet (fail)
    go_wp2_with fail
    go_ret
    exact ⟨rB (by simp), kept_drewN K0.out _⟩
theorem fitsOp10 (w : World) (z r m k e s : Int) (h0 : 0 ≤ s) : Calls Tryz.prog 195 #[.agg (inA 10 z r m k e s)] w fun r' w' => r' = .returned (.bool (Pl.inKind ⟨10, z, r, m, k, e, s⟩)) ∧ Kept 0 0 w w' := by
  have K0 := hide (kept_alloc w (.cells (inA 10 z r m k e s) 124))
  rw [show Pl.inKind ⟨10, z, r, m, k, e, s⟩ = (((z == 2) && (s == 0)) && Pl.plainM m) from rfl]
  cases a0 : (z == 2)
  · go_enter Tryz.func195, Tryz.ntmps195
    go_wp2_with fail
    go_quiet (fail)
    go_wp2_with fail
    go_ret
    exact ⟨rB (by simp), kept_drewN K0.out _⟩
  · cases a1 : (s == 0)
    · go_enter Tryz.func195, Tryz.ntmps195
      go_wp2_with fail
      go_quiet (fail)
      go_wp2_with fail
      go_ret
      exact ⟨rB (by simp), kept_drewN K0.out _⟩
    · go_enter Tryz.func195, Tryz.ntmps195
      go_wp2_with fail
      go_quiet (fail)
      go_wp2_with (go_at_call 211; refine st (isPlain _ _) ?_)
      go_ret
      exact ⟨rB (by simp), kept_drewN K0.out _⟩
theorem fitsOp11 (w : World) (z r m k e s : Int) (h0 : 0 ≤ s) : Calls Tryz.prog 195 #[.agg (inA 11 z r m k e s)] w fun r' w' => r' = .returned (.bool (Pl.inKind ⟨11, z, r, m, k, e, s⟩)) ∧ Kept 0 0 w w' := by
  have K0 := hide (kept_alloc w (.cells (inA 11 z r m k e s) 124))
  rw [show Pl.inKind ⟨11, z, r, m, k, e, s⟩ = (((r == 0) && decide (s ≤ 3)) && ((m == 0) || Pl.memM m)) from rfl]
  cases a0 : (r == 0)
  · go_enter Tryz.func195, Tryz.ntmps195
    go_wp2_with fail
    go_quiet (fail)
    go_wp2_with fail
    go_ret
    exact ⟨rB (by simp), kept_drewN K0.out _⟩
  · cases a1 : decide (s ≤ 3)
    · go_enter Tryz.func195, Tryz.ntmps195
      go_wp2_with fail
      go_quiet (fail)
      go_wp2_with fail
      go_ret
      exact ⟨rB (by simp), kept_drewN K0.out _⟩
    · go_enter Tryz.func195, Tryz.ntmps195
      go_wp2_with fail
      go_quiet (fail)
      go_wp2_with (go_at_call 210; refine st (canTake _ _) ?_)
      go_ret
      exact ⟨rB (by simp), kept_drewN K0.out _⟩
theorem fitsOp12 (w : World) (z r m k e s : Int) (h0 : 0 ≤ s) : Calls Tryz.prog 195 #[.agg (inA 12 z r m k e s)] w fun r' w' => r' = .returned (.bool (Pl.inKind ⟨12, z, r, m, k, e, s⟩)) ∧ Kept 0 0 w w' := by
  have K0 := hide (kept_alloc w (.cells (inA 12 z r m k e s) 124))
  rw [show Pl.inKind ⟨12, z, r, m, k, e, s⟩ = ((m == 0)) from rfl]
  go_enter Tryz.func195, Tryz.ntmps195
  go_wp2_with fail
  go_quiet (fail)
  go_wp2_with fail
  go_ret
  exact ⟨rB (by simp), kept_drewN K0.out _⟩
theorem fitsOp13 (w : World) (z r m k e s : Int) (h0 : 0 ≤ s) : Calls Tryz.prog 195 #[.agg (inA 13 z r m k e s)] w fun r' w' => r' = .returned (.bool (Pl.inKind ⟨13, z, r, m, k, e, s⟩)) ∧ Kept 0 0 w w' := by
  have K0 := hide (kept_alloc w (.cells (inA 13 z r m k e s) 124))
  rw [show Pl.inKind ⟨13, z, r, m, k, e, s⟩ = (((z == 2) && decide (r ≤ 1)) && (m == 7)) from rfl]
  cases a0 : (z == 2)
  · go_enter Tryz.func195, Tryz.ntmps195
    go_wp2_with fail
    go_quiet (fail)
    go_wp2_with fail
    go_ret
    exact ⟨rB (by simp), kept_drewN K0.out _⟩
  · cases a1 : decide (r ≤ 1)
    · go_enter Tryz.func195, Tryz.ntmps195
      go_wp2_with fail
      go_quiet (fail)
      go_wp2_with fail
      go_ret
      exact ⟨rB (by simp), kept_drewN K0.out _⟩
    · go_enter Tryz.func195, Tryz.ntmps195
      go_wp2_with fail
      go_quiet (fail)
      go_wp2_with fail
      go_ret
      exact ⟨rB (by simp), kept_drewN K0.out _⟩
theorem fitsOp14 (w : World) (z r m k e s : Int) (h0 : 0 ≤ s) : Calls Tryz.prog 195 #[.agg (inA 14 z r m k e s)] w fun r' w' => r' = .returned (.bool (Pl.inKind ⟨14, z, r, m, k, e, s⟩)) ∧ Kept 0 0 w w' := by
  have K0 := hide (kept_alloc w (.cells (inA 14 z r m k e s) 124))
  rw [show Pl.inKind ⟨14, z, r, m, k, e, s⟩ = ((((z == 2) && (r == 0)) && decide (s ≤ 1)) && Pl.plainM m) from rfl]
  cases a0 : (z == 2)
  · go_enter Tryz.func195, Tryz.ntmps195
    go_wp2_with fail
    go_quiet (fail)
    go_wp2_with fail
    go_ret
    exact ⟨rB (by simp), kept_drewN K0.out _⟩
  · cases a1 : (r == 0)
    · go_enter Tryz.func195, Tryz.ntmps195
      go_wp2_with fail
      go_quiet (fail)
      go_wp2_with fail
      go_ret
      exact ⟨rB (by simp), kept_drewN K0.out _⟩
    · cases a2 : decide (s ≤ 1)
      · go_enter Tryz.func195, Tryz.ntmps195
        go_wp2_with fail
        go_quiet (fail)
        go_wp2_with fail
        go_ret
        exact ⟨rB (by simp), kept_drewN K0.out _⟩
      · go_enter Tryz.func195, Tryz.ntmps195
        go_wp2_with fail
        go_quiet (fail)
        go_wp2_with (go_at_call 211; refine st (isPlain _ _) ?_)
        go_ret
        exact ⟨rB (by simp), kept_drewN K0.out _⟩
theorem fitsOp15 (w : World) (z r m k e s : Int) (h0 : 0 ≤ s) : Calls Tryz.prog 195 #[.agg (inA 15 z r m k e s)] w fun r' w' => r' = .returned (.bool (Pl.inKind ⟨15, z, r, m, k, e, s⟩)) ∧ Kept 0 0 w w' := by
  have K0 := hide (kept_alloc w (.cells (inA 15 z r m k e s) 124))
  rw [show Pl.inKind ⟨15, z, r, m, k, e, s⟩ = (bif s == 3 then ((z == 2) && (r == 0)) && Pl.nowO m e else (((z == 2) && decide (s ≤ 6)) && Pl.zeroO m k e) && (decide (3 < s) || (r == 0))) from rfl]
  cases a0 : (z == 2)
  · go_enter Tryz.func195, Tryz.ntmps195
    go_wp2_with fail
    go_quiet (fail)
    go_wp2_with fail
    go_ret
    exact ⟨rB (by cases hs : (s == 3) <;> simp), kept_drewN K0.out _⟩
  · go_enter Tryz.func195, Tryz.ntmps195
    go_wp2_with fail
    go_quiet (fail)
    go_wp2_with (go_at_call 212; refine (fitsFlow _ 15 z r m k e s h0).mono ?_; rintro e9 w2 ⟨rfl, k2⟩)
    go_ret
    exact ⟨rB (by cases hs : (s == 3) <;> simp), (kept_drewN K0.out _).trans k2⟩
theorem fitsOp16 (w : World) (z r m k e s : Int) (h0 : 0 ≤ s) : Calls Tryz.prog 195 #[.agg (inA 16 z r m k e s)] w fun r' w' => r' = .returned (.bool (Pl.inKind ⟨16, z, r, m, k, e, s⟩)) ∧ Kept 0 0 w w' := by
  have K0 := hide (kept_alloc w (.cells (inA 16 z r m k e s) 124))
  rw [show Pl.inKind ⟨16, z, r, m, k, e, s⟩ = (((z == 2) && (s == 0)) && !(m == 1)) from rfl]
  cases a0 : (z == 2)
  · go_enter Tryz.func195, Tryz.ntmps195
    go_wp2_with fail
    go_quiet (fail)
    go_wp2_with fail
    go_ret
    exact ⟨rB (by simp), kept_drewN K0.out _⟩
  · cases a1 : (s == 0)
    · go_enter Tryz.func195, Tryz.ntmps195
      go_wp2_with fail
      go_quiet (fail)
      go_wp2_with fail
      go_ret
      exact ⟨rB (by simp), kept_drewN K0.out _⟩
    · go_enter Tryz.func195, Tryz.ntmps195
      go_wp2_with fail
      go_quiet (fail)
      go_wp2_with fail
      go_ret
      exact ⟨rB (by simp [bne]), kept_drewN K0.out _⟩
theorem fitsOp17 (w : World) (z r m k e s : Int) (h0 : 0 ≤ s) : Calls Tryz.prog 195 #[.agg (inA 17 z r m k e s)] w fun r' w' => r' = .returned (.bool (Pl.inKind ⟨17, z, r, m, k, e, s⟩)) ∧ Kept 0 0 w w' := by
  have K0 := hide (kept_alloc w (.cells (inA 17 z r m k e s) 124))
  rw [show Pl.inKind ⟨17, z, r, m, k, e, s⟩ = (((z == 2) && (s == 0)) && !(m == 1)) from rfl]
  cases a0 : (z == 2)
  · go_enter Tryz.func195, Tryz.ntmps195
    go_wp2_with fail
    go_quiet (fail)
    go_wp2_with fail
    go_ret
    exact ⟨rB (by simp), kept_drewN K0.out _⟩
  · cases a1 : (s == 0)
    · go_enter Tryz.func195, Tryz.ntmps195
      go_wp2_with fail
      go_quiet (fail)
      go_wp2_with fail
      go_ret
      exact ⟨rB (by simp), kept_drewN K0.out _⟩
    · go_enter Tryz.func195, Tryz.ntmps195
      go_wp2_with fail
      go_quiet (fail)
      go_wp2_with fail
      go_ret
      exact ⟨rB (by simp [bne]), kept_drewN K0.out _⟩
theorem fitsOp18 (w : World) (z r m k e s : Int) (h0 : 0 ≤ s) : Calls Tryz.prog 195 #[.agg (inA 18 z r m k e s)] w fun r' w' => r' = .returned (.bool (Pl.inKind ⟨18, z, r, m, k, e, s⟩)) ∧ Kept 0 0 w w' := by
  have K0 := hide (kept_alloc w (.cells (inA 18 z r m k e s) 124))
  rw [show Pl.inKind ⟨18, z, r, m, k, e, s⟩ = (((!(z == 2)) && decide (s ≤ 1)) && (m == 0)) from rfl]
  cases a0 : (z == 2)
  · cases a1 : decide (s ≤ 1)
    · go_enter Tryz.func195, Tryz.ntmps195
      go_wp2_with fail
      go_quiet (fail)
      go_wp2_with fail
      go_ret
      exact ⟨rB (by simp), kept_drewN K0.out _⟩
    · go_enter Tryz.func195, Tryz.ntmps195
      go_wp2_with fail
      go_quiet (fail)
      go_wp2_with fail
      go_ret
      exact ⟨rB (by simp), kept_drewN K0.out _⟩
  · go_enter Tryz.func195, Tryz.ntmps195
    go_wp2_with fail
    go_quiet (fail)
    go_wp2_with fail
    go_ret
    exact ⟨rB (by simp), kept_drewN K0.out _⟩
theorem fitsOp19 (w : World) (z r m k e s : Int) (h0 : 0 ≤ s) : Calls Tryz.prog 195 #[.agg (inA 19 z r m k e s)] w fun r' w' => r' = .returned (.bool (Pl.inKind ⟨19, z, r, m, k, e, s⟩)) ∧ Kept 0 0 w w' := by
  have K0 := hide (kept_alloc w (.cells (inA 19 z r m k e s) 124))
  rw [show Pl.inKind ⟨19, z, r, m, k, e, s⟩ = ((z == 2) && ((((s == 0) && (r == 0)) && Pl.nowO m e) || ((s == 1) && Pl.zeroO m k e))) from rfl]
  cases a0 : (z == 2)
  · go_enter Tryz.func195, Tryz.ntmps195
    go_wp2_with fail
    go_quiet (fail)
    go_wp2_with fail
    go_ret
    exact ⟨rB (by simp), kept_drewN K0.out _⟩
  · go_enter Tryz.func195, Tryz.ntmps195
    go_wp2_with fail
    go_quiet (fail)
    go_wp2_with (go_at_call 213; refine (fitsStatus _ 19 z r m k e s).mono ?_; rintro e9 w2 ⟨rfl, k2⟩)
    go_ret
    exact ⟨rB (by simp [Bool.and_assoc]), (kept_drewN K0.out _).trans k2⟩
theorem fitsOpNo (w : World) (op z r m k e s : Int) (h : op < 1 ∨ 19 < op) : Calls Tryz.prog 195 #[.agg (inA op z r m k e s)] w fun r' w' => r' = .returned (.bool (Pl.inKind ⟨op, z, r, m, k, e, s⟩)) ∧ Kept 0 0 w w' := by
  have K0 := hide (kept_alloc w (.cells (inA op z r m k e s) 124))
  have G : Hid (Pl.inKind ⟨op, z, r, m, k, e, s⟩ = false) := hide (by
    unfold Pl.inKind
    simp only
    have n1 : (op == 1) = false := by simp; omega
    have n2 : (op == 2) = false := by simp; omega
    have n3 : (op == 3) = false := by simp; omega
    have n4 : (op == 4) = false := by simp; omega
    have n5 : (op == 5) = false := by simp; omega
    have n6 : (op == 6) = false := by simp; omega
    have n7 : (op == 7) = false := by simp; omega
    have n8 : (op == 8) = false := by simp; omega
    have n9 : (op == 9) = false := by simp; omega
    have n10 : (op == 10) = false := by simp; omega
    have n11 : (op == 11) = false := by simp; omega
    have n12 : (op == 12) = false := by simp; omega
    have n13 : (op == 13) = false := by simp; omega
    have n14 : (op == 14) = false := by simp; omega
    have n15 : (op == 15) = false := by simp; omega
    have n16 : (op == 16) = false := by simp; omega
    have n17 : (op == 17) = false := by simp; omega
    have n18 : (op == 18) = false := by simp; omega
    have n19 : (op == 19) = false := by simp; omega
    rw [n1, n3, n4, n5, n6, n7, n8, n2, n9, n10, n11, n12, n13, n14, n16, n17, n18, n19, n15]
    rfl)
  go_enter Tryz.func195, Tryz.ntmps195
  go_wp2_with fail
  go_quiet (fail)
  go_wp2_with fail
  go_ret
  exact ⟨rB G.out.symm, kept_drewN K0.out _⟩
theorem fitsOp (w : World) (op z r m k e s : Int) (h0 : 0 ≤ s) : Calls Tryz.prog 195 #[.agg (inA op z r m k e s)] w fun r' w' => r' = .returned (.bool (Pl.inKind ⟨op, z, r, m, k, e, s⟩)) ∧ Kept 0 0 w w' := by
  by_cases h : op < 1 ∨ 19 < op
  · exact fitsOpNo w op z r m k e s h
  · have hs : op = 1 ∨ op = 2 ∨ op = 3 ∨ op = 4 ∨ op = 5 ∨ op = 6 ∨ op = 7 ∨ op = 8 ∨ op = 9 ∨ op = 10 ∨ op = 11 ∨ op = 12 ∨ op = 13 ∨ op = 14 ∨ op = 15 ∨ op = 16 ∨ op = 17 ∨ op = 18 ∨ op = 19 := by omega
    rcases hs with rfl | rfl | rfl | rfl | rfl | rfl | rfl | rfl | rfl | rfl | rfl | rfl | rfl | rfl | rfl | rfl | rfl | rfl | rfl
    · exact fitsOp1 w z r m k e s h0
    · exact fitsOp2 w z r m k e s h0
    · exact fitsOp3 w z r m k e s h0
    · exact fitsOp4 w z r m k e s h0
    · exact fitsOp5 w z r m k e s h0
    · exact fitsOp6 w z r m k e s h0
    · exact fitsOp7 w z r m k e s h0
    · exact fitsOp8 w z r m k e s h0
    · exact fitsOp9 w z r m k e s h0
    · exact fitsOp10 w z r m k e s h0
    · exact fitsOp11 w z r m k e s h0
    · exact fitsOp12 w z r m k e s h0
    · exact fitsOp13 w z r m k e s h0
    · exact fitsOp14 w z r m k e s h0
    · exact fitsOp15 w z r m k e s h0
    · exact fitsOp16 w z r m k e s h0
    · exact fitsOp17 w z r m k e s h0
    · exact fitsOp18 w z r m k e s h0
    · exact fitsOp19 w z r m k e s h0
end Go.Proofs.YtflnodadeajmcaaGreat

namespace Go.Proofs.YtflnodadeajmcaaGreat
open Go.RowKit
set_option linter.unusedVariables false
theorem implGoodIns (w : World) (op z r m k e s : Int) (wfop : (Lit.int .i64 op).wf = true) (wfz : (Lit.int .i64 z).wf = true) (wfr : (Lit.int .i64 r).wf = true) (wfm : (Lit.int .i64 m).wf = true) (wfk : (Lit.int .i64 k).wf = true) (wfe : (Lit.int .i64 e).wf = true) (wfs : (Lit.int .i64 s).wf = true) : Calls Tryz.prog 174 #[.agg (inA op z r m k e s)] w fun r' w' => r' = .returned (.bool (Pl.inOk ⟨op, z, r, m, k, e, s⟩)) ∧ Kept 0 0 w w' := by
  have K0 := hide (kept_alloc w (.cells (inA op z r m k e s) 124))
  have B0 := hide (Blk.new w (inA op z r m k e s) 124)
  rw [Pl.ok_of_fits]
  simp only
  cases h1 : Pl.fits ⟨op, z, r, m, k, e, s⟩
  · go_enter Tryz.func174, Tryz.ntmps174
    go_wp2_with (go_at_call 192; refine (fitsWords _ op z r m k e s).mono ?_; rw [h1]; rintro e9 w1 ⟨rfl, k1⟩)
    go_ret
    exact ⟨rB (by simp), K0.out.trans k1⟩
  · have h0 : 0 ≤ s := ((Pl.fits_iff _).1 h1).2.2.2.2.2.1.1
    cases h2 : Pl.opOk m k e
    · go_enter Tryz.func174, Tryz.ntmps174
      go_wp2_with (first | (go_at_call 192; refine (fitsWords _ op z r m k e s).mono ?_; rw [h1]; rintro e9 w1 ⟨rfl, k1⟩; have B1 := hide (B0.out.kept0 k1); have K1 := hide (K0.out.trans k1); obtain ⟨b0, b1, b2, b3, b4, b5, b6⟩ := B1.out.c7; clear k1) | (go_at_call 193; refine (implGoodOperand _ m k e wfm wfk wfe).mono ?_; rw [h2]; rintro e9 w2 ⟨rfl, k2⟩; have B2 := hide (B1.out.kept0 k2); have K2 := hide (K1.out.trans k2); obtain ⟨c0, c1, c2, c3, c4, c5, c6⟩ := B2.out.c7; clear k2))
      go_ret
      exact ⟨rB (by simp), K2.out⟩
    · cases h3 : Pl.fitZ ⟨op, z, r, m, k, e, s⟩
      · go_enter Tryz.func174, Tryz.ntmps174
        go_wp2_with (first | (go_at_call 192; refine (fitsWords _ op z r m k e s).mono ?_; rw [h1]; rintro e9 w1 ⟨rfl, k1⟩; have B1 := hide (B0.out.kept0 k1); have K1 := hide (K0.out.trans k1); obtain ⟨b0, b1, b2, b3, b4, b5, b6⟩ := B1.out.c7; clear k1) | (go_at_call 193; refine (implGoodOperand _ m k e wfm wfk wfe).mono ?_; rw [h2]; rintro e9 w2 ⟨rfl, k2⟩; have B2 := hide (B1.out.kept0 k2); have K2 := hide (K1.out.trans k2); obtain ⟨c0, c1, c2, c3, c4, c5, c6⟩ := B2.out.c7; clear k2) | (go_at_call 194; refine (fitsSize _ op z r m k e s wfe).mono ?_; rw [h3]; rintro e9 w3 ⟨rfl, k3⟩; have B3 := hide (B2.out.kept0 k3); have K3 := hide (K2.out.trans k3); obtain ⟨d0, d1, d2, d3, d4, d5, d6⟩ := B3.out.c7; clear k3))
        go_ret
        exact ⟨rB (by simp), K3.out⟩
      · go_enter Tryz.func174, Tryz.ntmps174
        go_wp2_with (first | (go_at_call 192; refine (fitsWords _ op z r m k e s).mono ?_; rw [h1]; rintro e9 w1 ⟨rfl, k1⟩; have B1 := hide (B0.out.kept0 k1); have K1 := hide (K0.out.trans k1); obtain ⟨b0, b1, b2, b3, b4, b5, b6⟩ := B1.out.c7; clear k1) | (go_at_call 193; refine (implGoodOperand _ m k e wfm wfk wfe).mono ?_; rw [h2]; rintro e9 w2 ⟨rfl, k2⟩; have B2 := hide (B1.out.kept0 k2); have K2 := hide (K1.out.trans k2); obtain ⟨c0, c1, c2, c3, c4, c5, c6⟩ := B2.out.c7; clear k2) | (go_at_call 194; refine (fitsSize _ op z r m k e s wfe).mono ?_; rw [h3]; rintro e9 w3 ⟨rfl, k3⟩; have B3 := hide (B2.out.kept0 k3); have K3 := hide (K2.out.trans k3); obtain ⟨d0, d1, d2, d3, d4, d5, d6⟩ := B3.out.c7; clear k3) | (go_at_call 195; refine (fitsOp _ op z r m k e s h0).mono ?_; rintro e9 w4 ⟨rfl, k4⟩; have B4 := hide (B3.out.kept0 k4); have K4 := hide (K3.out.trans k4); clear k4))
        go_ret
        exact ⟨rB (by simp), K4.out⟩
end Go.Proofs.YtflnodadeajmcaaGreat

namespace Go.Proofs.YtflnodadeajmcaaGreat
open Go.RowKit
set_option linter.unusedVariables false
/-- a key, and the entries of a row of keys -/
def kv (p : Int × Int) : Value := .agg #[iv p.1, iv p.2]
end Go.Proofs.YtflnodadeajmcaaGreat

namespace Go.Proofs.YtflnodadeajmcaaGreat
open Go.RowKit
set_option linter.unusedVariables false
set_option maxRecDepth 20000 in
set_option maxHeartbeats 4000000 in
theorem wordsOf (w : World) (op z r m k e s : Int) (h : Pl.inOk ⟨op, z, r, m, k, e, s⟩ = true) : Calls Tryz.prog 129 #[.agg (inA op z r m k e s)] w fun e' w' => ∃ (g c : Nat), e' = .returned (.slice (some ⟨g, 0, none⟩) (Pl.encode ⟨op, z, r, m, k, e, s⟩).length c) ∧ w.heap.size ≤ g ∧ g < w'.heap.size ∧ Own w' g (Pl.encode ⟨op, z, r, m, k, e, s⟩) ∧ Kept 0 0 w w' := by
  obtain ⟨a1, a2, a3, a4, a5, a6, a7, a8, a9, b1, b2, b3, b4, b5⟩ := Pl.modeR h
  simp only at a1 a2 a3 a4 a5 a6 a7 a8 a9 b1 b2 b3 b4 b5
  have wfm : (Lit.int .i64 m).wf = true := wfSm (by omega) (by omega)
  obtain ⟨N, hN⟩ : ∃ N, Pl.word1 ⟨op, z, r, m, k, e, s⟩ % 65536 = N := ⟨_, rfl⟩
  have HN := hide hN
  have HV : Hid (Pl.word1 ⟨op, z, r, m, k, e, s⟩ = N) := hide (by rw [← hN]; have : Pl.word1 ⟨op, z, r, m, k, e, s⟩ = op * 2048 + (z - 1) * 1024 + r * 256 + m * 32 + k * 8 + s := rfl; omega)
  have HL : Hid (Pl.lng m = Pl.extM m) := hide (by unfold Pl.lng; rw [show Pl.modeOk m = true from by simp [Pl.modeOk, Pl.within]; omega]; rfl)
  have K0 := hide (kept_alloc w (.cells (inA op z r m k e s) 124))
  have B0 := hide (Blk.new w (inA op z r m k e s) 124)
  clear hN a1 a2 a3 a4 a5 a6 a7 a8 a9 b1 b2 b3 b4 b5
  cases hE : Pl.extM m
  · have E : Hid (Pl.encode ⟨op, z, r, m, k, e, s⟩ = [N]) := hide (by simp [Pl.encode, hE, HV.out])
    go_enter Tryz.func129, Tryz.ntmps129
    go_wp2_with (first | (go_at_call 164; refine (isLong _ op z r m k e s wfm).mono ?_; rw [HL.out, hE]; rintro e9 w1 ⟨rfl, k1⟩; have B1 := hide (B0.out.kept0 k1); have K1 := hide (K0.out.trans k1); obtain ⟨c0, c1, c2, c3, c4, c5, c6⟩ := B1.out.c7; clear k1) | (go_at_call 165; refine (firstWord _ op z r m k e s).mono ?_; rw [HN.out]; rintro e9 w2 ⟨rfl, k2⟩; have K2 := hide (K1.out.trans k2); clear k2))
    go_ret
    have B2 := Blk.new w2 #[iv N] 3
    exact ⟨w2.heap.size, 1, by rw [E.out]; rfl, K2.out.size, B2.lt, by rw [E.out]; exact own_of_blk (xs := [N]) B2, kept_new K2.out _⟩
  · have E : Hid (Pl.encode ⟨op, z, r, m, k, e, s⟩ = [N, e]) := hide (by simp [Pl.encode, hE, HV.out])
    go_enter Tryz.func129, Tryz.ntmps129
    go_wp2_with (go_at_call 164; refine (isLong _ op z r m k e s wfm).mono ?_; rw [HL.out, hE]; rintro e9 w1 ⟨rfl, k1⟩; have B1 := hide (B0.out.kept0 k1); have K1 := hide (K0.out.trans k1); have s1 := hide k1.size; clear k1)
    refine wp_region_inv2 (fun A0 l A W => ∃ g : Nat, FR [5, 6, 7, 8, 9, 10, 2] A0 A ∧ Once l 0 (A.tmps[5]? = some (.agg (inA op z r m k e s))) ∧ Once l 1 (A.tmps[6]? = some (iv N)) ∧ Once l 2 (A.tmps[7]? = some (.pointer (some ⟨w.heap.size, 3, none⟩))) ∧ Once l 3 (A.tmps[8]? = some (.pointer (some ⟨w.heap.size, 5, none⟩))) ∧ Once l 4 (A.tmps[9]? = some (iv e)) ∧ Once l 5 (A.tmps[10]? = some (.slice (some ⟨g, 0, none⟩) 2 2)) ∧ Once l 6 (A.tmps[2]? = some (.slice (some ⟨g, 0, none⟩) 2 2)) ∧ Once l 5 (Blk W g #[iv N, iv e] 3 ∧ w1.heap.size ≤ g) ∧ (l.getD 6 true = true → l.getD 5 true = true) ∧ Kept 0 0 w1 W) (by kernel_rfl) (by kernel_rfl) ?start ?fin ?step
    case start => exact ⟨0, FR.refl _ _, once_start (by decide), once_start (by decide), once_start (by decide), once_start (by decide), once_start (by decide), once_start (by decide), once_start (by decide), once_start (by decide), (fun q => by rw [start_at (by decide)] at q; cases q), kept_drew (Kept.refl _ _ _)⟩
    case fin =>
      intro l A W h hl
      obtain ⟨g, hFR, o0, o1, o2, o3, o4, o5, o6, ox, o6w, hK⟩ := h
      have g6 := o6 (hl 6 (by decide))
      have QX := hide (ox (hl 5 (by decide)))
      have QQ := hide hK
      have hc9 := hFR.chain
      simp only [List.foldl] at hc9
      rw [getD_of g6] at hc9
      clear ox o6w hl hK hFR g6 o0 o1 o2 o3 o4 o5 o6
      generalize A.tmps.getD 5 undef = s5 at hc9
      generalize A.tmps.getD 6 undef = s6 at hc9
      generalize A.tmps.getD 7 undef = s7 at hc9
      generalize A.tmps.getD 8 undef = s8 at hc9
      generalize A.tmps.getD 9 undef = s9 at hc9
      generalize A.tmps.getD 10 undef = s10 at hc9
      subst hc9
      go_simp
      go_wp2_with fail
      go_ret
      have q2 := QX.out.2
      have q3 := K1.out.size
      exact ⟨g, 2, by rw [E.out]; rfl, by omega, QX.out.1.lt, by rw [E.out]; exact own_of_blk (xs := [N, e]) QX.out.1, K1.out.trans QQ.out⟩
    case step =>
      intro l A W i hI hm
      obtain ⟨g, hFR, o0, o1, o2, o3, o4, o5, o6, ox, o6w, hK⟩ := hI
      obtain ⟨hi1, hi2⟩ := ready_new hm
      have hsz : Hid (10 < A.tmps.size) := hide (by rw [hFR.size]; simp)
      have m1 : A.tmps[1]? = some (.pointer (some ⟨w.heap.size, 0, none⟩)) := (hFR.out 1 (by decide)).trans rfl
      rcases i with _ | _ | _ | _ | _ | _ | _ | i
      · have BL := hide (B1.out.kept0 hK)
        obtain ⟨x0, x1, x2, x3, x4, x5, x6⟩ := BL.out.c7
        refine wpOp_step rfl (fun KK hK2 => ?_)
        go_simp
        exact hK2 (A.put (some 5) (.agg (inA op z r m k e s))) _ ⟨g, hFR.put (by decide) _, .now (put_eq (by have hz := hsz.out; omega)), o1.q, o2.q, o3.q, o4.q, o5.q, o6.q, ox.past (by decide) id, (fun q => by rw [getD_set_ne (by decide)] at q ⊢; exact o6w q), hK⟩
      · have e0 := o0 (ready_dep hm 0 (by kernel_rfl))
        refine wpOp_step rfl (fun KK hK2 => ?_)
        go_simp
        refine (firstWord W op z r m k e s).mono ?_
        rw [HN.out]
        rintro r9 y ⟨rfl, kd⟩
        go_simp
        exact hK2 (A.put (some 6) (iv N)) _ ⟨g, hFR.put (by decide) _, o0.q, .now (put_eq (by have hz := hsz.out; omega)), o2.q, o3.q, o4.q, o5.q, o6.q, ox.past (by decide) (fun h => ⟨h.1.kept0 kd, h.2⟩), (fun q => by rw [getD_set_ne (by decide)] at q; rw [getD_set_ne (by decide)]; exact o6w q), (hK.trans kd)⟩
      · refine wpOp_step rfl (fun KK hK2 => ?_)
        go_simp
        exact hK2 (A.put (some 7) (.pointer (some ⟨w.heap.size, 3, none⟩))) _ ⟨g, hFR.put (by decide) _, o0.q, o1.q, .now (put_eq (by have hz := hsz.out; omega)), o3.q, o4.q, o5.q, o6.q, ox.past (by decide) id, (fun q => by rw [getD_set_ne (by decide)] at q ⊢; exact o6w q), hK⟩
      · have e2 := o2 (ready_dep hm 2 (by kernel_rfl))
        refine wpOp_step rfl (fun KK hK2 => ?_)
        go_simp
        exact hK2 (A.put (some 8) (.pointer (some ⟨w.heap.size, 5, none⟩))) _ ⟨g, hFR.put (by decide) _, o0.q, o1.q, o2.q, .now (put_eq (by have hz := hsz.out; omega)), o4.q, o5.q, o6.q, ox.past (by decide) id, (fun q => by rw [getD_set_ne (by decide)] at q ⊢; exact o6w q), hK⟩
      · have e3 := o3 (ready_dep hm 3 (by kernel_rfl))
        have BL := hide (B1.out.kept0 hK)
        obtain ⟨x0, x1, x2, x3, x4, x5, x6⟩ := BL.out.c7
        refine wpOp_step rfl (fun KK hK2 => ?_)
        go_simp
        exact hK2 (A.put (some 9) (iv e)) _ ⟨g, hFR.put (by decide) _, o0.q, o1.q, o2.q, o3.q, .now (put_eq (by have hz := hsz.out; omega)), o5.q, o6.q, ox.past (by decide) id, (fun q => by rw [getD_set_ne (by decide)] at q ⊢; exact o6w q), hK⟩
      · have e1 := o1 (ready_dep hm 1 (by kernel_rfl))
        have e4 := o4 (ready_dep hm 4 (by kernel_rfl))
        have n6 : ¬ l.getD 6 true = true := fun q => by have := o6w q; rw [hi2] at this; cases this
        refine wpOp_step rfl (fun KK hK2 => ?_)
        go_simp
        exact hK2 (A.put (some 10) (.slice (some ⟨W.heap.size, 0, none⟩) 2 2)) _ ⟨W.heap.size, hFR.put (by decide) _, o0.q, o1.q, o2.q, o3.q, o4.q, .now (put_eq (by have hz := hsz.out; omega)), (fun q => by rw [getD_set_ne (by decide)] at q; exact absurd q n6), .now ⟨Blk.new W _ _, hK.size⟩, (fun q => by rw [getD_set_ne (by decide)] at q; exact getD_set_eq), (kept_new hK _)⟩
      · have e5 := o5 (ready_dep hm 5 (by kernel_rfl))
        refine wpOp_step rfl (fun KK hK2 => ?_)
        go_simp
        exact hK2 (A.put (some 2) (.slice (some ⟨g, 0, none⟩) 2 2)) _ ⟨g, hFR.put (by decide) _, o0.q, o1.q, o2.q, o3.q, o4.q, o5.q, .now (put_eq (by have hz := hsz.out; omega)), ox.past (by decide) id, (fun _ => by rw [getD_set_ne (by decide)]; exact ready_dep hm 5 (by kernel_rfl)), hK⟩
      · simp at hi1
        omega
end Go.Proofs.YtflnodadeajmcaaGreat

namespace Go.Proofs.YtflnodadeajmcaaGreat
open Go.RowKit
set_option linter.unusedVariables false
set_option linter.unusedSimpArgs false
set_option maxRecDepth 100000 in
set_option maxHeartbeats 4000000 in
theorem specEncode (w : World) (op z r m k e s : Int) (h : Pl.inOk ⟨op, z, r, m, k, e, s⟩ = true) : Calls Tryz.prog 88 #[.agg #[.int .i64 op, .int .i64 z, .int .i64 r, .int .i64 m, .int .i64 k, .int .i64 e, .int .i64 s]] w fun e' w' => ∃ (g c : Nat), e' = .returned (.slice (some ⟨g, 0, none⟩) (Pl.encode ⟨op, z, r, m, k, e, s⟩).length c) ∧ w.heap.size ≤ g ∧ g < w'.heap.size ∧ Own w' g (Pl.encode ⟨op, z, r, m, k, e, s⟩) ∧ Kept 0 0 w w' := by
  obtain ⟨a1, a2, a3, a4, a5, a6, a7, a8, a9, b1, b2, b3, b4, b5⟩ := Pl.modeR h
  simp only at a1 a2 a3 a4 a5 a6 a7 a8 a9 b1 b2 b3 b4 b5
  obtain ⟨c1, c2⟩ : 1 ≤ z ∧ z ≤ 2 := by omega
  obtain ⟨o1, o2, o3, o4, o5⟩ := orWord (op := op) (z := z) (r := r) (m := m) (k := k) (s := s) (by omega) (by omega) c1 c2 a4 a5 a6 a7 a8 a9 b3 b4
  have V : Hid (Pl.word1 ⟨op, z, r, m, k, e, s⟩ = op * 2048 + (z - 1) * 1024 + r * 256 + m * 32 + k * 8 + s) := hide rfl
  obtain ⟨W, hW⟩ : ∃ W, W = op * 2048 + (z - 1) * 1024 + r * 256 + m * 32 + k * 8 + s := ⟨_, rfl⟩
  rw [← hW] at o5 V
  clear hW b5
  have HI := hide h
  clear h
  have K0 := hide (kept_new (kept_alloc w (.cells #[.int .i64 op, .int .i64 z, .int .i64 r, .int .i64 m, .int .i64 k, .int .i64 e, .int .i64 s] 124)) (.cells #[.int .i64 W] 3))
  have P0 := hide ((Blk.new w #[.int .i64 op, .int .i64 z, .int .i64 r, .int .i64 m, .int .i64 k, .int .i64 e, .int .i64 s] 124).alloc (.cells #[.int .i64 W] 3))
  have B0 := Blk.new (w.alloc (.cells #[.int .i64 op, .int .i64 z, .int .i64 r, .int .i64 m, .int .i64 k, .int .i64 e, .int .i64 s] 124)) #[.int .i64 W] 3
  simp only [World.size_alloc] at B0
  replace B0 := hide B0
  cases hE : Pl.extM m
  · have E : Hid (Pl.encode ⟨op, z, r, m, k, e, s⟩ = [W]) := hide (by simp [Pl.encode, hE, V.out])
    go_enter Tryz.func88, Tryz.ntmps88
    go_wp2_with (first | (go_at_call 119; refine (specExtM _ _).mono ?_; rintro e9 w' ⟨rfl, hw⟩; have hw2 := hw.symm; clear hw; subst hw2; rw [hE]))
    go_ret
    have l0 := B0.out.lt
    exact ⟨_, _, by rw [E.out]; rfl, by omega, l0, by rw [E.out]; exact own_of_blk (xs := [W]) B0.out, K0.out⟩
  · have E : Hid (Pl.encode ⟨op, z, r, m, k, e, s⟩ = [W, e]) := hide (by simp [Pl.encode, hE, V.out])
    obtain ⟨i, hi0, hz0, hz1, hz2⟩ := info_parts Tryz.info3
    have OW : Hid (World.ownsRow ((w.alloc (.cells #[.int .i64 op, .int .i64 z, .int .i64 r, .int .i64 m, .int .i64 k, .int .i64 e, .int .i64 s] 124)).alloc (.cells #[.int .i64 W] 3)) (w.heap.size + 1) 3 1 (.slice (some ⟨w.heap.size + 1, 0, none⟩) 1 1) 1 [.int .i64 W]) := hide ⟨by simp, .inr ⟨w.heap.size + 1, 1, #[.int .i64 W], rfl, Nat.le_refl _, B0.out, Nat.le_refl _, by unfold maxLen; omega, by simp, by simp⟩⟩
    go_enter Tryz.func88, Tryz.ntmps88
    have BN := Blk.new ((w.alloc (.cells #[.int .i64 op, .int .i64 z, .int .i64 r, .int .i64 m, .int .i64 k, .int .i64 e, .int .i64 s] 124)).alloc (.cells #[.int .i64 W] 3)) #[.int .i64 e] 3
    simp only [World.size_alloc] at BN
    replace BN := hide BN
    have H63 : Hid (1 + 1 ≤ maxLen) := hide (by unfold maxLen; omega)
    go_wp2_with (first | (go_at_call 119; refine (specExtM _ _).mono ?_; rintro e9 w' ⟨rfl, hw⟩; have hw2 := hw.symm; clear hw; subst hw2; rw [hE]) | (at_builtin; refine wpList_append_lies _ rfl (.tmp 34) (.tmp 38) 22 rfl (w.heap.size + 1) 3 i (.int .i64 0) 1 8 Tryz.underlying22 hi0 hz0 hz1 hz2 rfl (by decide) (.slice (some ⟨w.heap.size + 1, 0, none⟩) 1 1) 1 [.int .i64 W] rfl (OW.out.alloc _) ⟨w.heap.size + 1 + 1, 0, none⟩ 1 1 [.int .i64 e] rfl rfl (World.news_of_block (cs := #[.int .i64 e]) (t := 3) (fr := (0, 0)) BN.out) (by simp [Value.oneCell']) (by decide) H63.out (by decide) (by simp) (w.heap.size + 1 + 1 + 1) (by simp) ?_))
    intro g2 c2 w2 o2 k2 hg2 l2
    have kk := kept_row k2 (lo := w.heap.size + 1) (hi := w.heap.size + 1 + 1) (by intro j hj; have h5 : w.heap.size + 1 = j := Option.some.inj hj; omega)
    obtain ⟨p3, p4⟩ := o2.lt g2 rfl
    have K2 := hide (kept_over (kept_new K0.out (.cells #[.int .i64 e] 3)) kk (by omega))
    have PN : Hid (Own w2 g2 [W, e]) := hide (own_of_row (xs := [W, e]) o2)
    clear o2 k2 kk
    go_wp2_with fail
    go_ret
    exact ⟨g2, c2, by rw [E.out]; rfl, by omega, p4, by rw [E.out]; exact PN.out, K2.out⟩
end Go.Proofs.YtflnodadeajmcaaGreat

namespace Go.Proofs.YtflnodadeajmcaaGreat
open Go.RowKit
set_option linter.unusedVariables false
theorem slotIn_row {w : World} {base n : Nat} {v : Value} {xs : List Int} (h : w.ownsRow base 3 1 v n (xs.map (Value.int .i64))) : ∃ (b : Option Addr) (cb : Nat), v = .slice b n cb ∧ SlotIn w base w.heap.size b xs := by
  have h9 := h
  rcases h with ⟨hl, ⟨rfl, e⟩ | ⟨g, cap, cur, e, hb, hgg, hn, _, hsz, ht⟩⟩
  · subst e
    exact ⟨none, 0, rfl, .inl ⟨rfl, by simpa using hl⟩⟩
  · subst e
    exact ⟨some ⟨g, 0, none⟩, cap, rfl, .inr ⟨g, rfl, (h9.lt g rfl).1, (h9.lt g rfl).2, own_of_row h9⟩⟩
theorem news_own {w : World} {g : Nat} {xs : List Int} (h : Own w g xs) : ∀ j u, (xs.map (Value.int .i64))[j]? = some u → w.cell? ((⟨g, 0, none⟩ : Addr).add j) = some u := news_of h.row
end Go.Proofs.YtflnodadeajmcaaGreat

namespace Go.Proofs.YtflnodadeajmcaaGreat
open Go.RowKit
set_option linter.unusedVariables false
theorem wfAt {ys : List Int} (h : Wide ys) {i : Nat} (hi : i < ys.length) : (Lit.int .i64 (el ys i)).wf = true := by
  have q := h i hi
  have e1 : IntKind.i64.min = -9223372036854775808 := rfl
  have e2 : IntKind.i64.max = 9223372036854775807 := rfl
  unfold el
  simp [Lit.wf]
  omega
end Go.Proofs.YtflnodadeajmcaaGreat

namespace Go.Proofs.YtflnodadeajmcaaGreat
open Go.RowKit
set_option linter.unusedVariables false
theorem Pl.rowS_no {ys : List Int} {n k : Nat} (h : k < n) (hb : (Pl.inOk (Pl.inAt ys k) && Pl.straight (Pl.inAt ys k)) = false) : Pl.rowS ys n = false := by
  induction n with
  | zero => omega
  | succ n ih =>
    unfold Pl.rowS
    by_cases e : k = n
    · subst e; rw [hb, Bool.and_false]
    · rw [ih (by omega), Bool.false_and]
set_option maxRecDepth 20000 in
set_option maxHeartbeats 4000000 in
theorem implRow (w : World) (a : Option Addr) (ca n : Nat) (ys : List Int) (ha : Came w a ys) (ly : ys.length = 7 * n) (bx : n ≤ 2000000) : Calls Tryz.prog 175 #[.slice a n ca] w fun e' w' => e' = .returned (.bool (Pl.rowOk ys n)) ∧ Kept 0 0 w w' := by
  have HA := hide ha
  have HY := hide ly
  clear ha ly
  cases h16 : decide ((16 : Int) < (n : Int))
  · go_enter Tryz.func175, Tryz.ntmps175
    go_wp2_with fail
    go_loopw [10] (fun j wr => ∃ k : Nat, k ≤ n ∧ j = .int .i64 k ∧ Pl.rowS ys k = true ∧ Kept 0 0 w wr) (fun j _ => n - (intOf j).toNat)
    case atStart => exact ⟨0, Nat.zero_le _, rfl, rfl, Kept.refl _ _ _⟩
    case round =>
      obtain ⟨k, hk, rfl, hall, hkept⟩ := hrel
      have HK := hide hkept
      have HL := hide hall
      clear hkept hall
      by_cases hlt : k < n
      · obtain ⟨g1, o1, rfl, p0, p1, p2, p3, p4, p5, p6⟩ := (HA.out.1.keptS HK.out).at7 HY.out hlt
        have wa0 : (Lit.int .i64 (el ys (k * 7))).wf = true := wfAt HA.out.2 (by have := HY.out; omega)
        have wa1 : (Lit.int .i64 (el ys (k * 7 + 1))).wf = true := wfAt HA.out.2 (by have := HY.out; omega)
        have wa2 : (Lit.int .i64 (el ys (k * 7 + 2))).wf = true := wfAt HA.out.2 (by have := HY.out; omega)
        have wa3 : (Lit.int .i64 (el ys (k * 7 + 3))).wf = true := wfAt HA.out.2 (by have := HY.out; omega)
        have wa4 : (Lit.int .i64 (el ys (k * 7 + 4))).wf = true := wfAt HA.out.2 (by have := HY.out; omega)
        have wa5 : (Lit.int .i64 (el ys (k * 7 + 5))).wf = true := wfAt HA.out.2 (by have := HY.out; omega)
        have wa6 : (Lit.int .i64 (el ys (k * 7 + 6))).wf = true := wfAt HA.out.2 (by have := HY.out; omega)
        have B0 := hide (Blk.new wr #[iv (el ys (k * 7)), iv (el ys (k * 7 + 1)), iv (el ys (k * 7 + 2)), iv (el ys (k * 7 + 3)), iv (el ys (k * 7 + 4)), iv (el ys (k * 7 + 5)), iv (el ys (k * 7 + 6))] 124)
        cases hb : Pl.inOk (Pl.inAt ys k)
        · have E : Hid (Pl.rowOk ys n = false) := hide (by unfold Pl.rowOk; rw [Pl.rowS_no hlt (by rw [hb]; rfl), Bool.and_false])
          go_wp2_with (first | (go_at_call 174; refine (implGoodIns _ (el ys (k * 7)) (el ys (k * 7 + 1)) (el ys (k * 7 + 2)) (el ys (k * 7 + 3)) (el ys (k * 7 + 4)) (el ys (k * 7 + 5)) (el ys (k * 7 + 6)) wa0 wa1 wa2 wa3 wa4 wa5 wa6).mono ?_; rintro e9 w2 ⟨rfl, k2⟩; rw [show Pl.inOk ⟨el ys (k * 7), el ys (k * 7 + 1), el ys (k * 7 + 2), el ys (k * 7 + 3), el ys (k * 7 + 4), el ys (k * 7 + 5), el ys (k * 7 + 6)⟩ = Pl.inOk (Pl.inAt ys k) from rfl, hb]; have B2 := hide (B0.out.kept0 k2); have K2 := hide ((kept_new HK.out _).trans k2); have p2 := B2.out.all; clear k2))
          go_ret
          exact ⟨rB E.out.symm, K2.out⟩
        · cases hs : Pl.straight (Pl.inAt ys k)
          · have E : Hid (Pl.rowOk ys n = false) := hide (by unfold Pl.rowOk; rw [Pl.rowS_no hlt (by rw [hb, hs]; rfl), Bool.and_false])
            go_wp2_with (first | (go_at_call 174; refine (implGoodIns _ (el ys (k * 7)) (el ys (k * 7 + 1)) (el ys (k * 7 + 2)) (el ys (k * 7 + 3)) (el ys (k * 7 + 4)) (el ys (k * 7 + 5)) (el ys (k * 7 + 6)) wa0 wa1 wa2 wa3 wa4 wa5 wa6).mono ?_; rintro e9 w2 ⟨rfl, k2⟩; rw [show Pl.inOk ⟨el ys (k * 7), el ys (k * 7 + 1), el ys (k * 7 + 2), el ys (k * 7 + 3), el ys (k * 7 + 4), el ys (k * 7 + 5), el ys (k * 7 + 6)⟩ = Pl.inOk (Pl.inAt ys k) from rfl, hb]; have B2 := hide (B0.out.kept0 k2); have K2 := hide ((kept_new HK.out _).trans k2); have p2 := B2.out.all; clear k2) | (go_at_call 134; refine (implStr _ (el ys (k * 7)) (el ys (k * 7 + 1)) (el ys (k * 7 + 2)) (el ys (k * 7 + 3)) (el ys (k * 7 + 4)) (el ys (k * 7 + 5)) (el ys (k * 7 + 6)) (Pl.inD_of hb)).mono ?_; rintro e9 w3 ⟨rfl, k3⟩; rw [show Pl.straight ⟨el ys (k * 7), el ys (k * 7 + 1), el ys (k * 7 + 2), el ys (k * 7 + 3), el ys (k * 7 + 4), el ys (k * 7 + 5), el ys (k * 7 + 6)⟩ = Pl.straight (Pl.inAt ys k) from rfl, hs]; have K3 := hide (K2.out.trans k3); clear k3))
            go_ret
            exact ⟨rB E.out.symm, K3.out⟩
          · go_wp2_with (first | (go_at_call 174; refine (implGoodIns _ (el ys (k * 7)) (el ys (k * 7 + 1)) (el ys (k * 7 + 2)) (el ys (k * 7 + 3)) (el ys (k * 7 + 4)) (el ys (k * 7 + 5)) (el ys (k * 7 + 6)) wa0 wa1 wa2 wa3 wa4 wa5 wa6).mono ?_; rintro e9 w2 ⟨rfl, k2⟩; rw [show Pl.inOk ⟨el ys (k * 7), el ys (k * 7 + 1), el ys (k * 7 + 2), el ys (k * 7 + 3), el ys (k * 7 + 4), el ys (k * 7 + 5), el ys (k * 7 + 6)⟩ = Pl.inOk (Pl.inAt ys k) from rfl, hb]; have B2 := hide (B0.out.kept0 k2); have K2 := hide ((kept_new HK.out _).trans k2); have p2 := B2.out.all; clear k2) | (go_at_call 134; refine (implStr _ (el ys (k * 7)) (el ys (k * 7 + 1)) (el ys (k * 7 + 2)) (el ys (k * 7 + 3)) (el ys (k * 7 + 4)) (el ys (k * 7 + 5)) (el ys (k * 7 + 6)) (Pl.inD_of hb)).mono ?_; rintro e9 w3 ⟨rfl, k3⟩; rw [show Pl.straight ⟨el ys (k * 7), el ys (k * 7 + 1), el ys (k * 7 + 2), el ys (k * 7 + 3), el ys (k * 7 + 4), el ys (k * 7 + 5), el ys (k * 7 + 6)⟩ = Pl.straight (Pl.inAt ys k) from rfl, hs]; have K3 := hide (K2.out.trans k3); clear k3))
            go_roundw
            case rel => exact ⟨k + 1, by omega, by go_num, by unfold Pl.rowS; rw [HL.out, hb, hs]; rfl, K3.out⟩
            case measure => simp [intOf]; omega
      · obtain rfl : k = n := by omega
        have E : Hid (Pl.rowOk ys k = decide ((k : Int) ≤ 16)) := hide (by unfold Pl.rowOk; rw [HL.out, Bool.and_true])
        go_wp2_with fail
        go_ret
        exact ⟨rB (by first | exact E.out.symm | (rw [E.out]; simp at h16; simp; omega)), HK.out⟩
  · have E : Hid (Pl.rowOk ys n = false) := hide (by unfold Pl.rowOk; simp at h16; simp; intro h; omega)
    go_enter Tryz.func175, Tryz.ntmps175
    go_wp2_with fail
    go_ret
    exact ⟨rB E.out.symm, Kept.refl _ _ _⟩
end Go.Proofs.YtflnodadeajmcaaGreat

namespace Go.Proofs.YtflnodadeajmcaaGreat
open Go.RowKit
set_option linter.unusedVariables false
theorem mkB : ∀ n : Nat, n ≤ 16 → ∀ w : World, (Instr.makeSlice 136 (.int .i64 (n : Int)) (.int .i64 (n : Int))).run Tryz.prog w = .ok (.slice (some ⟨w.heap.size, 0, none⟩) n n) (w.alloc (.cells (Array.replicate n (.bool false)) 4)) := by
  intro n hn
  obtain rfl | rfl | rfl | rfl | rfl | rfl | rfl | rfl | rfl | rfl | rfl | rfl | rfl | rfl | rfl | rfl | rfl : n = 0 ∨ n = 1 ∨ n = 2 ∨ n = 3 ∨ n = 4 ∨ n = 5 ∨ n = 6 ∨ n = 7 ∨ n = 8 ∨ n = 9 ∨ n = 10 ∨ n = 11 ∨ n = 12 ∨ n = 13 ∨ n = 14 ∨ n = 15 ∨ n = 16 := by omega
  all_goals intro w; kernel_rfl
theorem bown_newN (w : World) (n : Nat) : BOwn (w.alloc (.cells (Array.replicate n (.bool false)) 4)) w.heap.size (List.replicate n false) := by
  have B := Blk.new w (Array.replicate n (.bool false)) 4
  intro i hi
  have hi2 : i < n := by simpa using hi
  refine ⟨?_, B.frozen i⟩
  rw [B.cell (i := i) (v := .bool false) (by rw [Array.getElem?_replicate, if_pos hi2]), List.getElem?_replicate, if_pos hi2]
  rfl
/-- a block that holds these bools and nothing else -/
def BBk (w : World) (g : Nat) (xs : List Bool) : Prop := Blk w g (xs.map Value.bool).toArray 4
theorem BBk.own {w : World} {g : Nat} {xs : List Bool} (h : BBk w g xs) : BOwn w g xs := by
  intro i hi
  refine ⟨?_, Blk.frozen h i⟩
  rw [Blk.cell h (i := i) (v := .bool (xs[i]?.getD false))]
  simp [hi]
theorem BBk.keptS {w w' : World} {g : Nat} {xs : List Bool} {lo hi : Nat} (h : BBk w g xs) (k : Kept lo hi w w') (hn : ¬ (lo ≤ g ∧ g < hi)) : BBk w' g xs := Blk.kept h k hn
theorem BBk.set {w : World} {g k : Nat} {xs : List Bool} (h : BBk w g xs) (z : Bool) : BBk (w.setCell ⟨g, k, none⟩ (.bool z)) g (xs.set k z) := by
  have q := Blk.set h k (.bool z)
  unfold BBk
  rw [List.map_set]
  simpa using q
theorem BBk.rows {w : World} {g : Nat} {xs : List Bool} {base : Nat} (h : BBk w g xs) (hb : base ≤ g) (hm : xs.length ≤ maxLen) : w.ownsRow base 4 1 (.slice (some ⟨g, 0, none⟩) xs.length xs.length) xs.length (xs.map Value.bool) :=
  ⟨by simp, .inr ⟨g, xs.length, _, rfl, hb, h, Nat.le_refl _, hm, by simp, by rw [List.take_of_length_le (by simp)]⟩⟩
theorem bbk_newN (w : World) (n : Nat) : BBk (w.alloc (.cells (Array.replicate n (.bool false)) 4)) w.heap.size (List.replicate n false) := by
  have B := Blk.new w (Array.replicate n (.bool false)) 4
  unfold BBk
  rw [List.map_replicate, List.toArray_replicate]
  exact B
namespace Pl
theorem or_lt : ∀ a : Nat, a < 32 → ∀ b : Nat, b < 32 → 0 ≤ bits .or .i64 (a : Int) (b : Int) ∧ bits .or .i64 (a : Int) (b : Int) ≤ 31 := by decide +kernel
theorem an_lt : ∀ a : Nat, a < 32 → ∀ b : Nat, b < 32 → 0 ≤ bits .andNot .i64 (a : Int) (b : Int) ∧ bits .andNot .i64 (a : Int) (b : Int) ≤ 31 := by decide +kernel
theorem or_all : ∀ a : Nat, a < 32 → bits .or .i64 (a : Int) 31 = 31 ∧ bits .or .i64 (a : Int) 0 = a := by decide +kernel
theorem or_com : ∀ a : Nat, a < 32 → ∀ b : Nat, b < 32 → bits .or .i64 (a : Int) (b : Int) = bits .or .i64 (b : Int) (a : Int) := by decide +kernel
def f31 (a : Int) : Prop := 0 ≤ a ∧ a ≤ 31
theorem f31.or {a b : Int} (h : f31 a) (k : f31 b) : f31 (bits .or .i64 a b) := by
  obtain ⟨i, hi, rfl⟩ := nat_of (n := 32) h.1 (by have := h.2; omega)
  obtain ⟨j, hj, rfl⟩ := nat_of (n := 32) k.1 (by have := k.2; omega)
  exact or_lt i hi j hj
theorem f31.an {a b : Int} (h : f31 a) (k : f31 b) : f31 (bits .andNot .i64 a b) := by
  obtain ⟨i, hi, rfl⟩ := nat_of (n := 32) h.1 (by have := h.2; omega)
  obtain ⟨j, hj, rfl⟩ := nat_of (n := 32) k.1 (by have := k.2; omega)
  exact an_lt i hi j hj
theorem f31.com {a b : Int} (h : f31 a) (k : f31 b) : bits .or .i64 a b = bits .or .i64 b a := by
  obtain ⟨i, hi, rfl⟩ := nat_of (n := 32) h.1 (by have := h.2; omega)
  obtain ⟨j, hj, rfl⟩ := nat_of (n := 32) k.1 (by have := k.2; omega)
  exact or_com i hi j hj
theorem f31.all {a : Int} (h : f31 a) : bits .or .i64 a 31 = 31 ∧ bits .or .i64 a 0 = a := by
  obtain ⟨i, hi, rfl⟩ := nat_of (n := 32) h.1 (by have := h.2; omega)
  exact or_all i hi
theorem f31_sets (x : In) : f31 (sets x) := by
  rcases sets_in x with h | h | h | h <;> (unfold f31; omega)
theorem f31_reads (x : In) (h : InD x) : f31 (reads x) := by
  unfold reads
  have s0 := h.s0; have s1 := h.s1; have r0 := h.r0; have r2 := h.r2
  cases q : (x.op == 13)
  · simp only [Bool.cond_eq_ite]
    unfold f31
    repeat' split
    all_goals first | omega | simp_all
  · have q2 : x.op = 13 := by simpa using q
    obtain ⟨j, hj, e⟩ := nat_of (k := x.s + 8 * x.r) (n := 16) (by omega) (by have := r2 q2; omega)
    rw [q2, e]
    have := need_in j hj
    simp only [f31]
    exact ⟨this.1, by have := this.2; simp; omega⟩
theorem f31_needB {x : In} (h : InD x) {m : Int} (hm : f31 m) : f31 (needB x m) := by
  unfold needB
  refine ((hm.an (f31_sets x)).or (f31_reads x h)).or ?_
  rcases flag_in (mayF x) with e | e <;> (rw [e]; unfold f31; omega)
theorem needB_fault {x : In} (h : InD x) {m : Int} (hm : f31 m) (hf : mayF x = true) : needB x m = 31 := by
  unfold needB
  rw [hf, show fl true 31 = 31 from rfl]
  exact ((hm.an (f31_sets x)).or (f31_reads x h)).all.1
theorem needB_none {x : In} (h : InD x) {m : Int} (hm : f31 m) (hf : mayF x = false) : needB x m = bits .or .i64 (reads x) (bits .andNot .i64 m (sets x)) := by
  unfold needB
  rw [hf, show fl false 31 = 0 from rfl, ((hm.an (f31_sets x)).or (f31_reads x h)).all.2]
  exact (hm.an (f31_sets x)).com (f31_reads x h)
theorem rowS_at {ys : List Int} {n k : Nat} (h : rowS ys n = true) (hk : k < n) : inOk (inAt ys k) = true := by
  cases e : inOk (inAt ys k)
  · rw [rowS_no hk (by rw [e]; rfl)] at h; exact absurd h (by simp)
  · rfl
theorem needs_in {ys : List Int} {n i : Nat} (h : rowS ys n = true) (hi : i ≤ n) : f31 (needs ys n i) := by
  induction i with
  | zero => exact ⟨show (0 : Int) ≤ 31 by decide, show (31 : Int) ≤ 31 by decide⟩
  | succ i ih =>
    unfold needs
    exact f31_needB (inD_of (rowS_at h (by omega))) (ih (by omega))
end Pl
theorem areDeadI (w : World) (op z r m k e s nd : Int) (D : Pl.InD ⟨op, z, r, m, k, e, s⟩) : Calls Tryz.prog 187 #[.agg (inA op z r m k e s), iv nd] w fun e' w' => e' = .returned (.bool (Pl.deadB ⟨op, z, r, m, k, e, s⟩ nd)) ∧ Kept 0 0 w w' := by
  have K0 := hide (kept_alloc w (.cells (inA op z r m k e s) 124))
  have B0 := hide (Blk.new w (inA op z r m k e s) 124)
  have D0 := hide D
  clear D
  obtain ⟨S, hS⟩ : ∃ S, S = Pl.sets ⟨op, z, r, m, k, e, s⟩ := ⟨_, rfl⟩
  have HS := hide hS
  clear hS
  cases q1 : (S != 0) <;> cases q2 : (bits .and .i64 S nd == 0)
  all_goals
    go_enter Tryz.func187, Tryz.ntmps187
    go_wp2_with (first | (go_at_call 190; refine (implSets _ op z r m k e s D0.out).mono ?_; rw [← HS.out]; rintro e9 w2 ⟨rfl, k2⟩; have B2 := hide (B0.out.kept0 k2); have K2 := hide (K0.out.trans k2); have p2 := B2.out.all; clear k2) | (go_at_call 202; refine (implMayW _ op z r m k e s D0.out).mono ?_; rintro e9 w3 ⟨rfl, k3⟩; have K3 := hide (K2.out.trans k3); clear k3))
    go_ret
    exact ⟨rB (by unfold Pl.deadB; rw [← HS.out, show (!(S == 0)) = _ from q1, q2]; first | rfl | simp), by first | exact K3.out | exact K2.out⟩
end Go.Proofs.YtflnodadeajmcaaGreat

namespace Go.Proofs.YtflnodadeajmcaaGreat
open Go.RowKit
set_option linter.unusedVariables false
set_option maxRecDepth 20000 in
set_option maxHeartbeats 8000000 in
theorem specDead (w : World) (a : Option Addr) (ca n : Nat) (ys : List Int) (ha : IRow w a ys) (ly : ys.length = 7 * n) (hn : n ≤ 16) (hr : Pl.rowS ys n = true) : Calls Tryz.prog 120 #[.slice a n ca] w fun e' w' => e' = .returned (.slice (some ⟨w.heap.size, 0, none⟩) n n) ∧ BBk w' w.heap.size (Pl.deads ys n n) ∧ Kept 0 0 w w' ∧ w.heap.size < w'.heap.size := by
  have HA := hide ha
  have HY := hide ly
  have HR := hide hr
  clear ha ly hr
  have mk := mkB n hn
  have B := bbk_newN w n
  rw [← Pl.deads_zero ys n] at B
  have K : Kept 0 0 w (w.alloc (.cells (Array.replicate n (.bool false)) 4)) := kept_alloc _ _
  have S : w.heap.size < (w.alloc (.cells (Array.replicate n (.bool false)) 4)).heap.size := by rw [World.size_alloc]; omega
  have ewn : IntKind.i64.wrap ((n : Int) - 1) = (n : Int) - 1 := by rw [IntKind.wrap_i64]; omega
  go_enter Tryz.func120, Tryz.ntmps120
  go_wp2_with fail
  clear mk ewn
  generalize w.alloc (.cells (Array.replicate n (.bool false)) 4) = W0 at *
  go_loopw [4, 5] (fun nd jj wr => ∃ q : Nat, q ≤ n ∧ jj = .int .i64 ((q : Int) - 1) ∧ nd = iv (Pl.needs ys n (n - q)) ∧ BBk wr w.heap.size (Pl.deads ys n (n - q)) ∧ Kept 0 0 w wr ∧ w.heap.size < wr.heap.size) (fun _ jj _ => (intOf jj + 1).toNat)
  case atStart => exact ⟨n, Nat.le_refl _, rfl, by rw [Nat.sub_self]; rfl, by rw [Nat.sub_self]; exact B, K, S⟩
  case round =>
    obtain ⟨q, hq, rfl, rfl, hown, hK, hS⟩ := hrel
    have HO := hide hown
    have HK := hide hK
    have HS := hide hS
    clear hown hK hS B K S
    cases q with
    | zero =>
      have h0 : ¬ ((0 : Int) ≤ ((0 : Nat) : Int) - 1) := by omega
      go_wp2_with fail
      go_ret
      exact ⟨rfl, by rw [Nat.sub_zero] at HO; exact HO.out, HK.out, HS.out⟩
    | succ k =>
      have hk : k < n := by omega
      have hki0 : (0 : Int) ≤ (k : Int) := by omega
      have hki : (k : Int) < (n : Int) := by omega
      have e0 : ((k + 1 : Nat) : Int) - 1 = (k : Int) := by omega
      rw [e0]
      have ewk : IntKind.i64.wrap ((k : Int) - 1) = (k : Int) - 1 := by rw [IntKind.wrap_i64]; omega
      obtain ⟨g1, o1, rfl, p0, p1, p2, p3, p4, p5, p6⟩ := (HA.out.keptS HK.out).at7 HY.out hk
      have B0 := hide (Blk.new wr #[iv (el ys (k * 7)), iv (el ys (k * 7 + 1)), iv (el ys (k * 7 + 2)), iv (el ys (k * 7 + 3)), iv (el ys (k * 7 + 4)), iv (el ys (k * 7 + 5)), iv (el ys (k * 7 + 6))] 124)
      have D0 := hide (Pl.inD_of (Pl.rowS_at HR.out hk))
      have F0 := hide (Pl.needs_in (i := n - (k + 1)) HR.out (by omega))
      have NB : Hid (Pl.needs ys n (n - k) = Pl.needB (Pl.inAt ys k) (Pl.needs ys n (n - (k + 1)))) := hide (by
        rw [show n - k = (n - (k + 1)) + 1 from by omega]
        show Pl.needB (Pl.inAt ys (n - (n - (k + 1) + 1))) _ = _
        rw [show n - (n - (k + 1) + 1) = k from by omega])
      have DS : Hid ((Pl.deads ys n (n - (k + 1))).set k (Pl.deadB (Pl.inAt ys k) (Pl.needs ys n (n - (k + 1)))) = Pl.deads ys n (n - k)) := hide (by
        have q := Pl.deads_set ys n (n - (k + 1)) (by omega)
        rw [show n - (n - (k + 1) + 1) = k from by omega, show n - (k + 1) + 1 = n - k from by omega] at q
        exact q)
      obtain ⟨SS, hSS⟩ : ∃ SS, SS = Pl.sets (Pl.inAt ys k) := ⟨_, rfl⟩
      obtain ⟨N, hN⟩ : ∃ N, N = Pl.needs ys n (n - (k + 1)) := ⟨_, rfl⟩
      rw [← hN] at NB DS F0 ⊢
      obtain ⟨DD, hDD⟩ : ∃ DD, DD = Pl.deadB (Pl.inAt ys k) N := ⟨_, rfl⟩
      rw [← hDD] at DS
      have hne : wr.heap.size ≠ w.heap.size := by have := HS.out; omega
      have NBX : Hid (Pl.needs ys n (n - k) = bits .or .i64 (bits .or .i64 (bits .andNot .i64 N SS) (Pl.reads (Pl.inAt ys k))) (Pl.fl (Pl.mayF (Pl.inAt ys k)) 31)) := hide (by rw [NB.out, hSS]; rfl)
      obtain ⟨MB, hMB⟩ : ∃ MB, MB = Pl.mayW (Pl.inAt ys k) := ⟨_, rfl⟩
      have HDX : Hid (DD = (((SS != 0) && (bits .and .i64 SS N == 0)) && !MB)) := hide (by rw [hDD, hMB, hSS]; rfl)
      have HSS := hide hSS
      have HMB := hide hMB
      clear hSS hN hDD hMB
      cases q1 : (SS != 0) <;> cases q2 : (bits .and .i64 SS N == 0) <;> rw [q1, q2] at HDX
      all_goals
        simp only [Bool.false_and, Bool.true_and, Bool.and_false, Bool.and_true] at HDX
        go_wp2_with (first | (go_at_call 141; refine (specSets _ (el ys (k * 7)) (el ys (k * 7 + 1)) (el ys (k * 7 + 2)) (el ys (k * 7 + 3)) (el ys (k * 7 + 4)) (el ys (k * 7 + 5)) (el ys (k * 7 + 6)) D0.out).mono ?_; rw [show Pl.sets ⟨el ys (k * 7), el ys (k * 7 + 1), el ys (k * 7 + 2), el ys (k * 7 + 3), el ys (k * 7 + 4), el ys (k * 7 + 5), el ys (k * 7 + 6)⟩ = Pl.sets (Pl.inAt ys k) from rfl, ← HSS.out]; rintro e9 w2 ⟨rfl, k2⟩; have B2 := hide (B0.out.kept0 k2); have K2 := hide ((kept_new HK.out _).trans k2); have p2 := B2.out.all; have O2 := hide (HO.out.keptS ((kept_alloc wr _).trans k2) (by omega)); obtain ⟨hc2, hf2⟩ := O2.out.own k (by rw [Pl.deads_len]; omega); have s2 : wr.heap.size < w2.heap.size := B2.out.lt; clear k2) | (go_at_call 142; refine (specMayW _ (el ys (k * 7)) (el ys (k * 7 + 1)) (el ys (k * 7 + 2)) (el ys (k * 7 + 3)) (el ys (k * 7 + 4)) (el ys (k * 7 + 5)) (el ys (k * 7 + 6)) D0.out).mono ?_; rw [show Pl.mayW ⟨el ys (k * 7), el ys (k * 7 + 1), el ys (k * 7 + 2), el ys (k * 7 + 3), el ys (k * 7 + 4), el ys (k * 7 + 5), el ys (k * 7 + 6)⟩ = Pl.mayW (Pl.inAt ys k) from rfl, ← HMB.out]; rintro e9 w3 ⟨rfl, k3⟩; have B3 := hide (B2.out.kept0 k3); have K3 := hide (K2.out.trans k3); clear p2 hc2 hf2; have O3 := hide (O2.out.keptS k3 (by omega)); obtain ⟨hc2, hf2⟩ := O3.out.own k (by rw [Pl.deads_len]; omega); have s3 : wr.heap.size < w3.heap.size := B3.out.lt; clear k3))
        first
        | have z9 := B3
          obtain ⟨WY, hWY⟩ : ∃ WY : World, WY = w3.setCell ⟨w.heap.size, k, none⟩ (.bool (!MB)) := ⟨_, rfl⟩
        | obtain ⟨WY, hWY⟩ : ∃ WY : World, WY = w2.setCell ⟨w.heap.size, k, none⟩ (.bool false) := ⟨_, rfl⟩
        have B5 : Hid (Blk WY wr.heap.size #[iv (el ys (k * 7)), iv (el ys (k * 7 + 1)), iv (el ys (k * 7 + 2)), iv (el ys (k * 7 + 3)), iv (el ys (k * 7 + 4)), iv (el ys (k * 7 + 5)), iv (el ys (k * 7 + 6))] 124) := hide (by rw [hWY]; first | exact B3.out.other _ _ _ hne | exact B2.out.other _ _ _ hne)
        have K5 : Hid (Kept 0 0 w WY) := hide (by rw [hWY]; first | exact kept_set K3.out _ _ _ (.inr (Nat.le_refl _)) | exact kept_set K2.out _ _ _ (.inr (Nat.le_refl _)))
        have O5 : Hid (BBk WY w.heap.size (Pl.deads ys n (n - k))) := hide (by rw [hWY, ← DS.out, HDX.out]; first | exact O3.out.set _ | exact O2.out.set _)
        rw [← hWY]
        clear hWY p2 hc2 hf2
        go_region_held3 (fun w' => w'.cell? ⟨wr.heap.size, 0, none⟩ = some (iv (el ys (k * 7))) ∧ w'.cell? ⟨wr.heap.size, 1, none⟩ = some (iv (el ys (k * 7 + 1))) ∧ w'.cell? ⟨wr.heap.size, 2, none⟩ = some (iv (el ys (k * 7 + 2))) ∧ w'.cell? ⟨wr.heap.size, 3, none⟩ = some (iv (el ys (k * 7 + 3))) ∧ w'.cell? ⟨wr.heap.size, 4, none⟩ = some (iv (el ys (k * 7 + 4))) ∧ w'.cell? ⟨wr.heap.size, 5, none⟩ = some (iv (el ys (k * 7 + 5))) ∧ w'.cell? ⟨wr.heap.size, 6, none⟩ = some (iv (el ys (k * 7 + 6)))) (first | with_reducible exact B7.out.c7 | with_reducible exact B6.out.c7 | exact (show Blk _ _ _ _ from B5.out).c7) (first | (go_at_call 144; refine st (l1Flag _ _ _) ?_) | (go_at_call 145; have z9 := B6; refine (specMayF _ (el ys (k * 7)) (el ys (k * 7 + 1)) (el ys (k * 7 + 2)) (el ys (k * 7 + 3)) (el ys (k * 7 + 4)) (el ys (k * 7 + 5)) (el ys (k * 7 + 6)) D0.out).mono ?_; rw [show Pl.mayF ⟨el ys (k * 7), el ys (k * 7 + 1), el ys (k * 7 + 2), el ys (k * 7 + 3), el ys (k * 7 + 4), el ys (k * 7 + 5), el ys (k * 7 + 6)⟩ = Pl.mayF (Pl.inAt ys k) from rfl]; rintro e9 w7 ⟨rfl, k7⟩; have B7 := hide (B6.out.kept0 k7); have K7 := hide (K6.out.trans k7); have O7 := hide (O6.out.keptS k7 (by omega)); clear k7) | (go_at_call 143; refine (specReads _ (el ys (k * 7)) (el ys (k * 7 + 1)) (el ys (k * 7 + 2)) (el ys (k * 7 + 3)) (el ys (k * 7 + 4)) (el ys (k * 7 + 5)) (el ys (k * 7 + 6)) D0.out).mono ?_; rw [show Pl.reads ⟨el ys (k * 7), el ys (k * 7 + 1), el ys (k * 7 + 2), el ys (k * 7 + 3), el ys (k * 7 + 4), el ys (k * 7 + 5), el ys (k * 7 + 6)⟩ = Pl.reads (Pl.inAt ys k) from rfl]; rintro e9 w6 ⟨rfl, kd⟩; have k6 := undrewK kd; have B6 := hide (B5.out.kept0 k6); have K6 := hide (K5.out.trans k6); have O6 := hide (O5.out.keptS k6 (by omega)); clear kd k6))
        go_wp2_with fail
        go_roundw
        case rel => exact ⟨k, by omega, by first | rfl | go_num, by rw [NBX.out], O7.out, K7.out, by have := B7.out.lt; have := HS.out; omega⟩
        case measure => first | (simp [intOf]; done) | (simp [intOf]; omega)
end Go.Proofs.YtflnodadeajmcaaGreat

namespace Go.Proofs.YtflnodadeajmcaaGreat
open Go.RowKit
set_option linter.unusedVariables false
set_option linter.unusedSimpArgs false
theorem specStrW (w : World) (op z r m k e s : Int) : Calls Tryz.prog 89 #[.agg (inA op z r m k e s)] w fun e' w' => e' = .returned (.bool (Pl.straight ⟨op, z, r, m, k, e, s⟩)) ∧ Kept 0 0 w w' := by
  have K0 := hide (kept_alloc w (.cells (inA op z r m k e s) 124))
  cases h13 : (op == 13)
  · cases h14 : (op == 14)
    · cases h15 : (op == 15)
      · cases h19 : (op == 19)
        · go_enter Tryz.func89, Tryz.ntmps89
          go_wp2_with fail
          go_ret
          exact ⟨rB (by simp [Pl.straight, h13, h14, h15, h19]), K0.out⟩
        · cases h0 : (s == 0)
          all_goals
            go_enter Tryz.func89, Tryz.ntmps89
            go_wp2_with fail
            go_ret
            exact ⟨rB (by simp [Pl.straight, h13, h14, h15, h19, h0, bne]), K0.out⟩
      · cases h2 : (s == 2) <;> cases h5 : (s == 5) <;> cases h6 : (s == 6)
        all_goals
          go_enter Tryz.func89, Tryz.ntmps89
          go_wp2_with fail
          go_ret
          exact ⟨rB (by simp [Pl.straight, h13, h14, h15, h2, h5, h6]), K0.out⟩
    · go_enter Tryz.func89, Tryz.ntmps89
      go_wp2_with fail
      go_ret
      exact ⟨rB (by simp [Pl.straight, h13, h14]), K0.out⟩
  · go_enter Tryz.func89, Tryz.ntmps89
    go_wp2_with fail
    go_ret
    exact ⟨rB (by simp [Pl.straight, h13]), K0.out⟩
theorem take7 {ys : List Int} {n k : Nat} (hl : ys.length = 7 * n) (hk : k < n) : ys.take (7 * (k + 1)) = ys.take (7 * k) ++ [el ys (k * 7), el ys (k * 7 + 1), el ys (k * 7 + 2), el ys (k * 7 + 3), el ys (k * 7 + 4), el ys (k * 7 + 5), el ys (k * 7 + 6)] := by
  have one : ∀ j, j < 7 * n → ys.take (j + 1) = ys.take j ++ [el ys j] := by
    intro j hj
    rw [List.take_add_one, List.getElem?_eq_getElem (by omega)]
    simp [el, List.getElem?_eq_getElem (show j < ys.length from by omega)]
  rw [show 7 * (k + 1) = k * 7 + 6 + 1 from by omega, one (k * 7 + 6) (by omega), one (k * 7 + 5) (by omega), one (k * 7 + 4) (by omega), one (k * 7 + 3) (by omega), one (k * 7 + 2) (by omega), one (k * 7 + 1) (by omega), one (k * 7) (by omega), show 7 * k = k * 7 from by omega]
  simp
theorem slotIn_row7c {w : World} {base n : Nat} {v : Value} {xs : List Int} (h : w.ownsRow base 124 7 v n (xs.map (Value.int .i64))) : ∃ (b : Option Addr) (cb : Nat), v = .slice b n cb ∧ n ≤ cb ∧ SlotIn w base w.heap.size b xs := by
  have h9 := h
  rcases h with ⟨hl, ⟨rfl, e⟩ | ⟨g, cap, cur, e, hb, hgg, hn, _, hsz, ht⟩⟩
  · subst e
    exact ⟨none, 0, rfl, Nat.le_refl _, .inl ⟨rfl, by simpa using hl⟩⟩
  · subst e
    exact ⟨some ⟨g, 0, none⟩, cap, rfl, hn, .inr ⟨g, rfl, (h9.lt g rfl).1, (h9.lt g rfl).2, own_of_row7 h9⟩⟩
set_option maxRecDepth 20000 in
set_option maxHeartbeats 8000000 in
theorem specUList (w : World) (f t : Int) (a : Option Addr) (ca n : Nat) (ys ts : List Int) (sk : List Bool) (ha : MRow w a n ys ts sk) (ly : ys.length = 7 * n) (bx : n ≤ 2000000) :
    Calls Tryz.prog 86 #[.agg #[iv f, iv t, .slice a n ca]] w fun e w' => ∃ (b : Option Addr) (c : Nat), e = .returned (.tuple #[.slice b n c, iv (Pl.strN ys n : Nat)]) ∧ n ≤ c ∧ SlotIn w' w.heap.size w'.heap.size b ys ∧ Kept 0 0 w w' := by
  obtain ⟨i, hi, hz0, hz1, hz2⟩ := info_parts Tryz.infoIns
  have K0 := hide (kept_alloc w (.cells #[iv f, iv t, .slice a n ca] 46))
  have HA := hide ha
  have HY := hide ly
  clear ha ly
  go_enter Tryz.func86, Tryz.ntmps86
  go_wp2_with fail
  go_loopw [4, 5, 11] (fun v c j wr => ∃ k : Nat, k ≤ n ∧ j = .int .i64 k ∧ c = iv (Pl.strN ys k : Nat) ∧ wr.ownsRow w.heap.size 124 7 v k ((ys.take (7 * k)).map (Value.int .i64)) ∧ Kept 0 0 w wr) (fun _ _ j _ => n - (intOf j).toNat)
  case atStart => exact ⟨0, Nat.zero_le _, rfl, rfl, World.ownsRow_nil _ _ _ _, K0.out⟩
  case round =>
    obtain ⟨k, hk, rfl, rfl, hown, hkept⟩ := hrel
    have HK := hide hkept
    have HO := hide hown
    clear hkept hown
    by_cases hlt : k < n
    · obtain ⟨g1, o1, rfl, p0, p1, p2, p3, p4, p5, p6, p7, p8⟩ := (HA.out.keptS HK.out).at9 hlt
      have B0 := hide ((Blk.new wr #[iv (el ys (k * 7)), iv (el ys (k * 7 + 1)), iv (el ys (k * 7 + 2)), iv (el ys (k * 7 + 3)), iv (el ys (k * 7 + 4)), iv (el ys (k * 7 + 5)), iv (el ys (k * 7 + 6)), iv (el ts k), .bool (bl sk k)] 126).alloc (.cells #[iv (el ys (k * 7)), iv (el ys (k * 7 + 1)), iv (el ys (k * 7 + 2)), iv (el ys (k * 7 + 3)), iv (el ys (k * 7 + 4)), iv (el ys (k * 7 + 5)), iv (el ys (k * 7 + 6))] 124))
      have BN := Blk.new (wr.alloc (.cells #[iv (el ys (k * 7)), iv (el ys (k * 7 + 1)), iv (el ys (k * 7 + 2)), iv (el ys (k * 7 + 3)), iv (el ys (k * 7 + 4)), iv (el ys (k * 7 + 5)), iv (el ys (k * 7 + 6)), iv (el ts k), .bool (bl sk k)] 126)) #[iv (el ys (k * 7)), iv (el ys (k * 7 + 1)), iv (el ys (k * 7 + 2)), iv (el ys (k * 7 + 3)), iv (el ys (k * 7 + 4)), iv (el ys (k * 7 + 5)), iv (el ys (k * 7 + 6))] 124
      simp only [World.size_alloc] at BN
      replace BN := hide BN
      have O2 := hide ((HO.out.alloc (.cells #[iv (el ys (k * 7)), iv (el ys (k * 7 + 1)), iv (el ys (k * 7 + 2)), iv (el ys (k * 7 + 3)), iv (el ys (k * 7 + 4)), iv (el ys (k * 7 + 5)), iv (el ys (k * 7 + 6)), iv (el ts k), .bool (bl sk k)] 126)).alloc (.cells #[iv (el ys (k * 7)), iv (el ys (k * 7 + 1)), iv (el ys (k * 7 + 2)), iv (el ys (k * 7 + 3)), iv (el ys (k * 7 + 4)), iv (el ys (k * 7 + 5)), iv (el ys (k * 7 + 6))] 124))
      have HT := take7 HY.out hlt
      have hks := HK.out.size
      go_wp2_with (at_builtin; refine wpList_append_own _ rfl _ _ 131 rfl w.heap.size 124 i (.agg #[iv 0, iv 0, iv 0, iv 0, iv 0, iv 0, iv 0]) 7 56 Tryz.underlying131 hi hz0 hz1 hz2 rfl (by decide) _ _ _ rfl O2.out ⟨wr.heap.size + 1, 0, none⟩ 1 1 [iv (el ys (k * 7)), iv (el ys (k * 7 + 1)), iv (el ys (k * 7 + 2)), iv (el ys (k * 7 + 3)), iv (el ys (k * 7 + 4)), iv (el ys (k * 7 + 5)), iv (el ys (k * 7 + 6))] rfl rfl ?c1 ?c2 ?c3 ?c4 ?c5 ?_)
      case c1 => exact World.news_of_block (cs := #[iv (el ys (k * 7)), iv (el ys (k * 7 + 1)), iv (el ys (k * 7 + 2)), iv (el ys (k * 7 + 3)), iv (el ys (k * 7 + 4)), iv (el ys (k * 7 + 5)), iv (el ys (k * 7 + 6))]) (t := 124) (fr := (0, 0)) BN.out
      case c2 => intro u hu; simp at hu; rcases hu with rfl | rfl | rfl | rfl | rfl | rfl | rfl <;> rfl
      case c3 => unfold maxLen; omega
      case c4 => omega
      case c5 => simp; omega
      intro v' w4 hown' hgr _
      have HO4 := hide hown'
      have kr := kept_row (lo := w.heap.size) (hi := wr.heap.size) hgr (fun g hg => by have q := HO.out.lt g hg; omega)
      have B4 := hide (B0.out.kept kr (by omega))
      have K4 := hide (kept_over (kept_new (kept_new HK.out (.cells #[iv (el ys (k * 7)), iv (el ys (k * 7 + 1)), iv (el ys (k * 7 + 2)), iv (el ys (k * 7 + 3)), iv (el ys (k * 7 + 4)), iv (el ys (k * 7 + 5)), iv (el ys (k * 7 + 6)), iv (el ts k), .bool (bl sk k)] 126)) (.cells #[iv (el ys (k * 7)), iv (el ys (k * 7 + 1)), iv (el ys (k * 7 + 2)), iv (el ys (k * 7 + 3)), iv (el ys (k * 7 + 4)), iv (el ys (k * 7 + 5)), iv (el ys (k * 7 + 6))] 124)) kr (Nat.le_refl _))
      have p4 := B4.out.all
      have hsl := Pl.strN_le ys k
      clear hown' hgr kr p0 p1 p2 p3 p5 p6 p7 p8 BN
      cases hs : Pl.straight (Pl.inAt ys k)
      all_goals
        go_wp2_with (first | (go_at_call 89; refine (specStrW _ (el ys (k * 7)) (el ys (k * 7 + 1)) (el ys (k * 7 + 2)) (el ys (k * 7 + 3)) (el ys (k * 7 + 4)) (el ys (k * 7 + 5)) (el ys (k * 7 + 6))).mono ?_; rintro e9 w5 ⟨rfl, k5⟩; rw [show Pl.straight ⟨el ys (k * 7), el ys (k * 7 + 1), el ys (k * 7 + 2), el ys (k * 7 + 3), el ys (k * 7 + 4), el ys (k * 7 + 5), el ys (k * 7 + 6)⟩ = Pl.straight (Pl.inAt ys k) from rfl, hs]; have K5 := hide (K4.out.trans k5); have O5 := hide (HO4.out.kept k5.grown (Classical.em _)); clear k5))
        go_roundw
        case rel => exact ⟨k + 1, by omega, by go_num, by rw [Pl.strN_s, hs]; first | rfl | go_num, by rw [HT]; simp only [List.map_append, List.map_take, List.map_cons, List.map_nil]; exact O5.out, K5.out⟩
        case measure => simp [intOf]; omega
    · obtain rfl : k = n := by omega
      obtain ⟨b, cb, rfl, hcb, hS⟩ := slotIn_row7c HO.out
      rw [List.take_of_length_le (by have := HY.out; omega)] at hS
      go_wp2_with fail
      go_ret2
      exact ⟨b, cb, rfl, hcb, hS, HK.out⟩
theorem IRow.take {w : World} {a : Option Addr} {xs : List Int} (h : IRow w a xs) (m : Nat) : IRow w a (xs.take m) := by
  intro i hi
  have hi2 : i < m ∧ i < xs.length := by rw [List.length_take] at hi; omega
  obtain ⟨g, o, e, c⟩ := h i hi2.2
  refine ⟨g, o, e, ?_⟩
  rw [List.getElem?_take, if_pos hi2.1]
  exact c
set_option maxRecDepth 20000 in
set_option maxHeartbeats 8000000 in
theorem specSkips (w : World) (a : Option Addr) (ca n : Nat) (ys : List Int) (ha : IRow w a ys) (ly : ys.length = 7 * n) (hc : n ≤ ca) (n1 : 1 ≤ n) (n8 : n ≤ 8) (hr : Pl.rowS ys (Pl.headN ys n) = true) :
    Calls Tryz.prog 90 #[.slice a n ca] w fun e w' => ∃ (g c : Nat), e = .returned (.slice (some ⟨g, 0, none⟩) n c) ∧ w.heap.size ≤ g ∧ g < w'.heap.size ∧ BOwn w' g (Pl.skV ys n) ∧ Kept 0 0 w w' := by
  have HA := hide ha
  have HY := hide ly
  obtain ⟨m, rfl⟩ : ∃ m, n = m + 1 := ⟨n - 1, by omega⟩
  obtain ⟨g1, o1, rfl, p0, p1, p2, p3, p4, p5, p6⟩ := HA.out.at7 HY.out (show m < m + 1 by omega)
  clear ha ly
  cases hs : Pl.straight (Pl.inAt ys m)
  · have hh : Pl.headN ys (m + 1) = m := by unfold Pl.headN; rw [Nat.add_sub_cancel, hs]; simp
    rw [hh] at hr
    have HR := hide hr
    have ES : Hid (Pl.skV ys (m + 1) = Pl.deads ys m m ++ [false]) := hide (by unfold Pl.skV; rw [hh, Nat.add_sub_cancel_left]; rfl)
    have EW : Hid (Pl.deads (ys.take (7 * m)) m m = Pl.deads ys m m) := hide (Pl.deads_of fun k hk => Pl.inAt_take hk)
    have ER : Hid (Pl.rowS (ys.take (7 * m)) m = true) := hide ((Pl.rowS_eq fun k hk => Pl.inAt_take hk).trans hr)
    have EL : Hid ((ys.take (7 * m)).length = 7 * m) := hide (by have := HY.out; simp; omega)
    obtain ⟨i, hi, hz0, hz1, hz2⟩ := info_parts Tryz.infoBool
    clear hr hh
    go_enter Tryz.func90, Tryz.ntmps90
    go_wp2_with (first | (go_at_call 89; refine (specStrW _ (el ys (m * 7)) (el ys (m * 7 + 1)) (el ys (m * 7 + 2)) (el ys (m * 7 + 3)) (el ys (m * 7 + 4)) (el ys (m * 7 + 5)) (el ys (m * 7 + 6))).mono ?_; rintro e9 w5 ⟨rfl, k5⟩; rw [show Pl.straight ⟨el ys (m * 7), el ys (m * 7 + 1), el ys (m * 7 + 2), el ys (m * 7 + 3), el ys (m * 7 + 4), el ys (m * 7 + 5), el ys (m * 7 + 6)⟩ = Pl.straight (Pl.inAt ys m) from rfl, hs]; have K5 := hide k5; clear k5) | (go_at_call 120; refine (specDead _ _ _ m (ys.take (7 * m)) ((HA.out.keptS K5.out).take _) EL.out (by omega) ER.out).mono ?_; rw [EW.out]; rintro e9 w6 ⟨rfl, o6, k6, s6⟩; have K6 := hide (K5.out.trans k6); have O6 := hide o6; have S6 := hide s6; have R6 := hide (o6.rows (base := w5.heap.size) (Nat.le_refl _) (by rw [Pl.deads_len]; unfold maxLen; omega)); rw [Pl.deads_len] at R6; have BN := hide (Blk.new w6 #[.bool false] 4); clear o6 k6 s6) | (at_builtin; refine wpList_append_own _ rfl _ _ 136 rfl w5.heap.size 4 i (.bool false) 1 1 Tryz.underlying136 hi hz0 hz1 hz2 rfl (by decide) _ _ _ rfl (R6.out.alloc (.cells #[.bool false] 4)) ⟨w6.heap.size, 0, none⟩ 1 1 [.bool false] rfl rfl ?c1 ?c2 ?c3 ?c4 ?c5 ?_))
    case c1 => exact World.news_of_block (cs := #[.bool false]) (t := 4) (fr := (0, 0)) BN.out
    case c2 => intro u hu; simp at hu; rcases hu with rfl; rfl
    case c3 => unfold maxLen; omega
    case c4 => omega
    case c5 => have := S6.out; simp; omega
    intro v' w7 hown' hgr _
    have q5 := S6.out
    have q6 := K5.out.size
    have kr := kept_row (lo := w5.heap.size) (hi := w6.heap.size) hgr (fun g hg => by have q : w5.heap.size = g := Option.some.inj hg; omega)
    have K7 := hide (kept_over (kept_new K6.out (.cells #[.bool false] 4)) kr (by omega))
    have hE : (Pl.deads ys m m).map Value.bool ++ [.bool false] = (Pl.skV ys (m + 1)).map Value.bool := by rw [ES.out, List.map_append]; rfl
    rw [hE] at hown'
    obtain ⟨b, cb, rfl, hS⟩ := bslot_row hown'
    have HS := hide hS
    clear hown' hgr kr hS
    go_wp2_with fail
    go_ret
    rcases HS.out with ⟨rfl, e0⟩ | ⟨g, rfl, g0, g1, ho⟩
    · have := Pl.skV_len ys (m + 1); rw [e0] at this; simp at this
    · exact ⟨g, cb, rfl, by omega, g1, ho, K7.out⟩
  · have hh : Pl.headN ys (m + 1) = m + 1 := by unfold Pl.headN; rw [Nat.add_sub_cancel, hs]; simp
    rw [hh] at hr
    have HR := hide hr
    have ES : Hid (Pl.skV ys (m + 1) = Pl.deads ys (m + 1) (m + 1)) := hide (by unfold Pl.skV; rw [hh, Nat.sub_self]; simp)
    clear hr hh
    go_enter Tryz.func90, Tryz.ntmps90
    go_wp2_with (first | (go_at_call 89; refine (specStrW _ (el ys (m * 7)) (el ys (m * 7 + 1)) (el ys (m * 7 + 2)) (el ys (m * 7 + 3)) (el ys (m * 7 + 4)) (el ys (m * 7 + 5)) (el ys (m * 7 + 6))).mono ?_; rintro e9 w5 ⟨rfl, k5⟩; rw [show Pl.straight ⟨el ys (m * 7), el ys (m * 7 + 1), el ys (m * 7 + 2), el ys (m * 7 + 3), el ys (m * 7 + 4), el ys (m * 7 + 5), el ys (m * 7 + 6)⟩ = Pl.straight (Pl.inAt ys m) from rfl, hs]; have K5 := hide k5; clear k5) | (go_at_call 120; refine (specDead _ _ _ (m + 1) ys (HA.out.keptS K5.out) HY.out (by omega) HR.out).mono ?_; rintro e9 w6 ⟨rfl, o6, k6, s6⟩; have K6 := hide (K5.out.trans k6); have O6 := hide o6; have S6 := hide s6; clear o6 k6 s6))
    have hs5 := K5.out.size
    go_ret
    exact ⟨_, _, rfl, hs5, S6.out, by rw [ES.out]; exact O6.out.own, K6.out⟩
end Go.Proofs.YtflnodadeajmcaaGreat

