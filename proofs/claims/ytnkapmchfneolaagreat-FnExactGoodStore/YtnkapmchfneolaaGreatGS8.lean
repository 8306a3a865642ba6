/- What the program asks of an instruction by its operation. What the program's GoodIns answers, for every argument. What the models of DecodeIns and EncodeIns answer, for every argument. What the model of EncodeAll answers, for every list. What the program's EncodeAll answers, for every list. Whether a list is a row of straight good instructions, of both sides. Which flags of a row are dead, of both sides. Which flags of a row are dead, as the program tells it. What the program's small functions of chapter 4 answer: addresses, parts, accesses; none writes. What the program does with a unit's list: its instructions, the part of it that is straight, its skips. What the program makes of a row: its skips, its unit. -/
import Derived.Test.YtnkapmchfneolaaGreatGS7
import Derived.BigQuiet
import Derived.Deep.QuietTactic
import Derived.Test.YtnkapmchfneolaaGreatGS5
import Derived.Test.YtnkapmchfneolaaGreatGS4
import Derived.Deep.AppendLies
import Derived.StillTailTactics
import Derived.Test.YtnkapmchfneolaaGreatGS1
import Derived.Test.YtnkapmchfneolaaGreatGS2
import Derived.Carry
import Derived.MapKept
import Derived.Test.YtnkapmchfneolaaGreatGS6
import Derived.Deep.LoopGhost
import Derived.RegionTactic
import Derived.ChangeAlike
import Derived.BigRegion
import Derived.Deep.RegionWith
import Derived.Laws.Rows
import Derived.Laws.ResultCell
namespace Go.Proofs.YtnkapmchfneolaaGreat
open Go.RowKit
set_option linter.unusedVariables false
theorem fitsOp1 (w : World) (z r m k e s : Int) (h0 : 0 ≤ s) : Calls Tryz.prog 127 #[.agg (inA 1 z r m k e s)] w fun r' w' => r' = .returned (.bool (Pl.inKind ⟨1, z, r, m, k, e, s⟩)) ∧ Kept 0 0 w w' := by
  have K0 := hide (kept_alloc w (.cells (inA 1 z r m k e s) 87))
  rw [show Pl.inKind ⟨1, z, r, m, k, e, s⟩ = ((s == 0) && ((z == 2) || !(m == 1))) from rfl]
  cases a0 : (s == 0)
  · go_enter Tryz.func127, Tryz.ntmps127
    go_wp2_with fail
    go_quiet (fail)
    go_wp2_with fail
    go_ret
    exact ⟨rB (by simp), kept_drewN K0.out _⟩
  · cases a1 : (z == 2)
    · go_enter Tryz.func127, Tryz.ntmps127
      go_wp2_with fail
      go_quiet (fail)
      go_wp2_with fail
      go_ret
      exact ⟨rB (by simp [bne]), kept_drewN K0.out _⟩
    · go_enter Tryz.func127, Tryz.ntmps127
      go_wp2_with fail
      go_quiet (fail)
      go_wp2_with fail
      go_ret
      exact ⟨rB (by simp), kept_drewN K0.out _⟩
theorem fitsOp2 (w : World) (z r m k e s : Int) (h0 : 0 ≤ s) : Calls Tryz.prog 127 #[.agg (inA 2 z r m k e s)] w fun r' w' => r' = .returned (.bool (Pl.inKind ⟨2, z, r, m, k, e, s⟩)) ∧ Kept 0 0 w w' := by
  have K0 := hide (kept_alloc w (.cells (inA 2 z r m k e s) 87))
  rw [show Pl.inKind ⟨2, z, r, m, k, e, s⟩ = ((s == 0) && ((m == 0) || Pl.memM m)) from rfl]
  cases a0 : (s == 0)
  · go_enter Tryz.func127, Tryz.ntmps127
    go_wp2_with fail
    go_quiet (fail)
    go_wp2_with fail
    go_ret
    exact ⟨rB (by simp), kept_drewN K0.out _⟩
  · go_enter Tryz.func127, Tryz.ntmps127
    go_wp2_with fail
    go_quiet (fail)
    go_wp2_with (go_at_call 144; refine st (canTake _ _) ?_)
    go_ret
    exact ⟨rB (by simp), kept_drewN K0.out _⟩
theorem fitsOp3 (w : World) (z r m k e s : Int) (h0 : 0 ≤ s) : Calls Tryz.prog 127 #[.agg (inA 3 z r m k e s)] w fun r' w' => r' = .returned (.bool (Pl.inKind ⟨3, z, r, m, k, e, s⟩)) ∧ Kept 0 0 w w' := by
  have K0 := hide (kept_alloc w (.cells (inA 3 z r m k e s) 87))
  rw [show Pl.inKind ⟨3, z, r, m, k, e, s⟩ = ((s == 0) && ((z == 2) || !(m == 1))) from rfl]
  cases a0 : (s == 0)
  · go_enter Tryz.func127, Tryz.ntmps127
    go_wp2_with fail
    go_quiet (fail)
    go_wp2_with fail
    go_ret
    exact ⟨rB (by simp), kept_drewN K0.out _⟩
  · cases a1 : (z == 2)
    · go_enter Tryz.func127, Tryz.ntmps127
      go_wp2_with fail
      go_quiet (fail)
      go_wp2_with fail
      go_ret
      exact ⟨rB (by simp [bne]), kept_drewN K0.out _⟩
    · go_enter Tryz.func127, Tryz.ntmps127
      go_wp2_with fail
      go_quiet (fail)
      go_wp2_with fail
      go_ret
      exact ⟨rB (by simp), kept_drewN K0.out _⟩
theorem fitsOp4 (w : World) (z r m k e s : Int) (h0 : 0 ≤ s) : Calls Tryz.prog 127 #[.agg (inA 4 z r m k e s)] w fun r' w' => r' = .returned (.bool (Pl.inKind ⟨4, z, r, m, k, e, s⟩)) ∧ Kept 0 0 w w' := by
  have K0 := hide (kept_alloc w (.cells (inA 4 z r m k e s) 87))
  rw [show Pl.inKind ⟨4, z, r, m, k, e, s⟩ = ((s == 0) && ((z == 2) || !(m == 1))) from rfl]
  cases a0 : (s == 0)
  · go_enter Tryz.func127, Tryz.ntmps127
    go_wp2_with fail
    go_quiet (fail)
    go_wp2_with fail
    go_ret
    exact ⟨rB (by simp), kept_drewN K0.out _⟩
  · cases a1 : (z == 2)
    · go_enter Tryz.func127, Tryz.ntmps127
      go_wp2_with fail
      go_quiet (fail)
      go_wp2_with fail
      go_ret
      exact ⟨rB (by simp [bne]), kept_drewN K0.out _⟩
    · go_enter Tryz.func127, Tryz.ntmps127
      go_wp2_with fail
      go_quiet (fail)
      go_wp2_with fail
      go_ret
      exact ⟨rB (by simp), kept_drewN K0.out _⟩
theorem fitsOp5 (w : World) (z r m k e s : Int) (h0 : 0 ≤ s) : Calls Tryz.prog 127 #[.agg (inA 5 z r m k e s)] w fun r' w' => r' = .returned (.bool (Pl.inKind ⟨5, z, r, m, k, e, s⟩)) ∧ Kept 0 0 w w' := by
  have K0 := hide (kept_alloc w (.cells (inA 5 z r m k e s) 87))
  rw [show Pl.inKind ⟨5, z, r, m, k, e, s⟩ = ((s == 0) && ((z == 2) || !(m == 1))) from rfl]
  cases a0 : (s == 0)
  · go_enter Tryz.func127, Tryz.ntmps127
    go_wp2_with fail
    go_quiet (fail)
    go_wp2_with fail
    go_ret
    exact ⟨rB (by simp), kept_drewN K0.out _⟩
  · cases a1 : (z == 2)
    · go_enter Tryz.func127, Tryz.ntmps127
      go_wp2_with fail
      go_quiet (fail)
      go_wp2_with fail
      go_ret
      exact ⟨rB (by simp [bne]), kept_drewN K0.out _⟩
    · go_enter Tryz.func127, Tryz.ntmps127
      go_wp2_with fail
      go_quiet (fail)
      go_wp2_with fail
      go_ret
      exact ⟨rB (by simp), kept_drewN K0.out _⟩
theorem fitsOp6 (w : World) (z r m k e s : Int) (h0 : 0 ≤ s) : Calls Tryz.prog 127 #[.agg (inA 6 z r m k e s)] w fun r' w' => r' = .returned (.bool (Pl.inKind ⟨6, z, r, m, k, e, s⟩)) ∧ Kept 0 0 w w' := by
  have K0 := hide (kept_alloc w (.cells (inA 6 z r m k e s) 87))
  rw [show Pl.inKind ⟨6, z, r, m, k, e, s⟩ = ((s == 0) && ((z == 2) || !(m == 1))) from rfl]
  cases a0 : (s == 0)
  · go_enter Tryz.func127, Tryz.ntmps127
    go_wp2_with fail
    go_quiet (fail)
    go_wp2_with fail
    go_ret
    exact ⟨rB (by simp), kept_drewN K0.out _⟩
  · cases a1 : (z == 2)
    · go_enter Tryz.func127, Tryz.ntmps127
      go_wp2_with fail
      go_quiet (fail)
      go_wp2_with fail
      go_ret
      exact ⟨rB (by simp [bne]), kept_drewN K0.out _⟩
    · go_enter Tryz.func127, Tryz.ntmps127
      go_wp2_with fail
      go_quiet (fail)
      go_wp2_with fail
      go_ret
      exact ⟨rB (by simp), kept_drewN K0.out _⟩
theorem fitsOp7 (w : World) (z r m k e s : Int) (h0 : 0 ≤ s) : Calls Tryz.prog 127 #[.agg (inA 7 z r m k e s)] w fun r' w' => r' = .returned (.bool (Pl.inKind ⟨7, z, r, m, k, e, s⟩)) ∧ Kept 0 0 w w' := by
  have K0 := hide (kept_alloc w (.cells (inA 7 z r m k e s) 87))
  rw [show Pl.inKind ⟨7, z, r, m, k, e, s⟩ = ((s == 0) && ((z == 2) || !(m == 1))) from rfl]
  cases a0 : (s == 0)
  · go_enter Tryz.func127, Tryz.ntmps127
    go_wp2_with fail
    go_quiet (fail)
    go_wp2_with fail
    go_ret
    exact ⟨rB (by simp), kept_drewN K0.out _⟩
  · cases a1 : (z == 2)
    · go_enter Tryz.func127, Tryz.ntmps127
      go_wp2_with fail
      go_quiet (fail)
      go_wp2_with fail
      go_ret
      exact ⟨rB (by simp [bne]), kept_drewN K0.out _⟩
    · go_enter Tryz.func127, Tryz.ntmps127
      go_wp2_with fail
      go_quiet (fail)
      go_wp2_with fail
      go_ret
      exact ⟨rB (by simp), kept_drewN K0.out _⟩
theorem fitsOp8 (w : World) (z r m k e s : Int) (h0 : 0 ≤ s) : Calls Tryz.prog 127 #[.agg (inA 8 z r m k e s)] w fun r' w' => r' = .returned (.bool (Pl.inKind ⟨8, z, r, m, k, e, s⟩)) ∧ Kept 0 0 w w' := by
  have K0 := hide (kept_alloc w (.cells (inA 8 z r m k e s) 87))
  rw [show Pl.inKind ⟨8, z, r, m, k, e, s⟩ = ((s == 0) && ((z == 2) || !(m == 1))) from rfl]
  cases a0 : (s == 0)
  · go_enter Tryz.func127, Tryz.ntmps127
    go_wp2_with fail
    go_quiet (fail)
    go_wp2_with fail
    go_ret
    exact ⟨rB (by simp), kept_drewN K0.out _⟩
  · cases a1 : (z == 2)
    · go_enter Tryz.func127, Tryz.ntmps127
      go_wp2_with fail
      go_quiet (fail)
      go_wp2_with fail
      go_ret
      exact ⟨rB (by simp [bne]), kept_drewN K0.out _⟩
    · go_enter Tryz.func127, Tryz.ntmps127
      go_wp2_with fail
      go_quiet (fail)
      go_wp2_with fail
      go_ret
      exact ⟨rB (by simp), kept_drewN K0.out _⟩
theorem fitsOp9 (w : World) (z r m k e s : Int) (h0 : 0 ≤ s) : Calls Tryz.prog 127 #[.agg (inA 9 z r m k e s)] w fun r' w' => r' = .returned (.bool (Pl.inKind ⟨9, z, r, m, k, e, s⟩)) ∧ Kept 0 0 w w' := by
  have K0 := hide (kept_alloc w (.cells (inA 9 z r m k e s) 87))
  rw [show Pl.inKind ⟨9, z, r, m, k, e, s⟩ = ((z == 2) && (s == 0)) from rfl]
  cases a0 : (z == 2)
  · go_enter Tryz.func127, Tryz.ntmps127
    go_wp2_with fail
    go_quiet (fail)
    go_wp2_with fail
    go_ret
    exact ⟨rB (by simp), kept_drewN K0.out _⟩
  · go_enter Tryz.func127, Tryz.ntmps127
    go_wp2_with fail
    go_quiet (fail)
    go_wp2_with fail
    go_ret
    exact ⟨rB (by simp), kept_drewN K0.out _⟩
theorem fitsOp10 (w : World) (z r m k e s : Int) (h0 : 0 ≤ s) : Calls Tryz.prog 127 #[.agg (inA 10 z r m k e s)] w fun r' w' => r' = .returned (.bool (Pl.inKind ⟨10, z, r, m, k, e, s⟩)) ∧ Kept 0 0 w w' := by
  have K0 := hide (kept_alloc w (.cells (inA 10 z r m k e s) 87))
  rw [show Pl.inKind ⟨10, z, r, m, k, e, s⟩ = (((z == 2) && (s == 0)) && Pl.plainM m) from rfl]
  cases a0 : (z == 2)
  · go_enter Tryz.func127, Tryz.ntmps127
    go_wp2_with fail
    go_quiet (fail)
    go_wp2_with fail
    go_ret
    exact ⟨rB (by simp), kept_drewN K0.out _⟩
  · cases a1 : (s == 0)
    · go_enter Tryz.func127, Tryz.ntmps127
      go_wp2_with fail
      go_quiet (fail)
      go_wp2_with fail
      go_ret
      exact ⟨rB (by simp), kept_drewN K0.out _⟩
    · go_enter Tryz.func127, Tryz.ntmps127
      go_wp2_with fail
      go_quiet (fail)
      go_wp2_with (go_at_call 145; refine st (isPlain _ _) ?_)
      go_ret
      exact ⟨rB (by simp), kept_drewN K0.out _⟩
theorem fitsOp11 (w : World) (z r m k e s : Int) (h0 : 0 ≤ s) : Calls Tryz.prog 127 #[.agg (inA 11 z r m k e s)] w fun r' w' => r' = .returned (.bool (Pl.inKind ⟨11, z, r, m, k, e, s⟩)) ∧ Kept 0 0 w w' := by
  have K0 := hide (kept_alloc w (.cells (inA 11 z r m k e s) 87))
  rw [show Pl.inKind ⟨11, z, r, m, k, e, s⟩ = (((r == 0) && decide (s ≤ 3)) && ((m == 0) || Pl.memM m)) from rfl]
  cases a0 : (r == 0)
  · go_enter Tryz.func127, Tryz.ntmps127
    go_wp2_with fail
    go_quiet (fail)
    go_wp2_with fail
    go_ret
    exact ⟨rB (by simp), kept_drewN K0.out _⟩
  · cases a1 : decide (s ≤ 3)
    · go_enter Tryz.func127, Tryz.ntmps127
      go_wp2_with fail
      go_quiet (fail)
      go_wp2_with fail
      go_ret
      exact ⟨rB (by simp), kept_drewN K0.out _⟩
    · go_enter Tryz.func127, Tryz.ntmps127
      go_wp2_with fail
      go_quiet (fail)
      go_wp2_with (go_at_call 144; refine st (canTake _ _) ?_)
      go_ret
      exact ⟨rB (by simp), kept_drewN K0.out _⟩
theorem fitsOp12 (w : World) (z r m k e s : Int) (h0 : 0 ≤ s) : Calls Tryz.prog 127 #[.agg (inA 12 z r m k e s)] w fun r' w' => r' = .returned (.bool (Pl.inKind ⟨12, z, r, m, k, e, s⟩)) ∧ Kept 0 0 w w' := by
  have K0 := hide (kept_alloc w (.cells (inA 12 z r m k e s) 87))
  rw [show Pl.inKind ⟨12, z, r, m, k, e, s⟩ = ((m == 0)) from rfl]
  go_enter Tryz.func127, Tryz.ntmps127
  go_wp2_with fail
  go_quiet (fail)
  go_wp2_with fail
  go_ret
  exact ⟨rB (by simp), kept_drewN K0.out _⟩
theorem fitsOp13 (w : World) (z r m k e s : Int) (h0 : 0 ≤ s) : Calls Tryz.prog 127 #[.agg (inA 13 z r m k e s)] w fun r' w' => r' = .returned (.bool (Pl.inKind ⟨13, z, r, m, k, e, s⟩)) ∧ Kept 0 0 w w' := by
  have K0 := hide (kept_alloc w (.cells (inA 13 z r m k e s) 87))
  rw [show Pl.inKind ⟨13, z, r, m, k, e, s⟩ = (((z == 2) && decide (r ≤ 1)) && (m == 7)) from rfl]
  cases a0 : (z == 2)
  · go_enter Tryz.func127, Tryz.ntmps127
    go_wp2_with fail
    go_quiet (fail)
    go_wp2_with fail
    go_ret
    exact ⟨rB (by simp), kept_drewN K0.out _⟩
  · cases a1 : decide (r ≤ 1)
    · go_enter Tryz.func127, Tryz.ntmps127
      go_wp2_with fail
      go_quiet (fail)
      go_wp2_with fail
      go_ret
      exact ⟨rB (by simp), kept_drewN K0.out _⟩
    · go_enter Tryz.func127, Tryz.ntmps127
      go_wp2_with fail
      go_quiet (fail)
      go_wp2_with fail
      go_ret
      exact ⟨rB (by simp), kept_drewN K0.out _⟩
theorem fitsOp14 (w : World) (z r m k e s : Int) (h0 : 0 ≤ s) : Calls Tryz.prog 127 #[.agg (inA 14 z r m k e s)] w fun r' w' => r' = .returned (.bool (Pl.inKind ⟨14, z, r, m, k, e, s⟩)) ∧ Kept 0 0 w w' := by
  have K0 := hide (kept_alloc w (.cells (inA 14 z r m k e s) 87))
  rw [show Pl.inKind ⟨14, z, r, m, k, e, s⟩ = ((((z == 2) && (r == 0)) && decide (s ≤ 1)) && Pl.plainM m) from rfl]
  cases a0 : (z == 2)
  · go_enter Tryz.func127, Tryz.ntmps127
    go_wp2_with fail
    go_quiet (fail)
    go_wp2_with fail
    go_ret
    exact ⟨rB (by simp), kept_drewN K0.out _⟩
  · cases a1 : (r == 0)
    · go_enter Tryz.func127, Tryz.ntmps127
      go_wp2_with fail
      go_quiet (fail)
      go_wp2_with fail
      go_ret
      exact ⟨rB (by simp), kept_drewN K0.out _⟩
    · cases a2 : decide (s ≤ 1)
      · go_enter Tryz.func127, Tryz.ntmps127
        go_wp2_with fail
        go_quiet (fail)
        go_wp2_with fail
        go_ret
        exact ⟨rB (by simp), kept_drewN K0.out _⟩
      · go_enter Tryz.func127, Tryz.ntmps127
        go_wp2_with fail
        go_quiet (fail)
        go_wp2_with (go_at_call 145; refine st (isPlain _ _) ?_)
        go_ret
        exact ⟨rB (by simp), kept_drewN K0.out _⟩
theorem fitsOp15 (w : World) (z r m k e s : Int) (h0 : 0 ≤ s) : Calls Tryz.prog 127 #[.agg (inA 15 z r m k e s)] w fun r' w' => r' = .returned (.bool (Pl.inKind ⟨15, z, r, m, k, e, s⟩)) ∧ Kept 0 0 w w' := by
  have K0 := hide (kept_alloc w (.cells (inA 15 z r m k e s) 87))
  rw [show Pl.inKind ⟨15, z, r, m, k, e, s⟩ = (bif s == 3 then ((z == 2) && (r == 0)) && Pl.nowO m e else (((z == 2) && decide (s ≤ 6)) && Pl.zeroO m k e) && (decide (3 < s) || (r == 0))) from rfl]
  cases a0 : (z == 2)
  · go_enter Tryz.func127, Tryz.ntmps127
    go_wp2_with fail
    go_quiet (fail)
    go_wp2_with fail
    go_ret
    exact ⟨rB (by cases hs : (s == 3) <;> simp), kept_drewN K0.out _⟩
  · go_enter Tryz.func127, Tryz.ntmps127
    go_wp2_with fail
    go_quiet (fail)
    go_wp2_with (go_at_call 146; refine (fitsFlow _ 15 z r m k e s h0).mono ?_; rintro e9 w2 ⟨rfl, k2⟩)
    go_ret
    exact ⟨rB (by cases hs : (s == 3) <;> simp), (kept_drewN K0.out _).trans k2⟩
theorem fitsOp16 (w : World) (z r m k e s : Int) (h0 : 0 ≤ s) : Calls Tryz.prog 127 #[.agg (inA 16 z r m k e s)] w fun r' w' => r' = .returned (.bool (Pl.inKind ⟨16, z, r, m, k, e, s⟩)) ∧ Kept 0 0 w w' := by
  have K0 := hide (kept_alloc w (.cells (inA 16 z r m k e s) 87))
  rw [show Pl.inKind ⟨16, z, r, m, k, e, s⟩ = (((z == 2) && (s == 0)) && !(m == 1)) from rfl]
  cases a0 : (z == 2)
  · go_enter Tryz.func127, Tryz.ntmps127
    go_wp2_with fail
    go_quiet (fail)
    go_wp2_with fail
    go_ret
    exact ⟨rB (by simp), kept_drewN K0.out _⟩
  · cases a1 : (s == 0)
    · go_enter Tryz.func127, Tryz.ntmps127
      go_wp2_with fail
      go_quiet (fail)
      go_wp2_with fail
      go_ret
      exact ⟨rB (by simp), kept_drewN K0.out _⟩
    · go_enter Tryz.func127, Tryz.ntmps127
      go_wp2_with fail
      go_quiet (fail)
      go_wp2_with fail
      go_ret
      exact ⟨rB (by simp [bne]), kept_drewN K0.out _⟩
theorem fitsOp17 (w : World) (z r m k e s : Int) (h0 : 0 ≤ s) : Calls Tryz.prog 127 #[.agg (inA 17 z r m k e s)] w fun r' w' => r' = .returned (.bool (Pl.inKind ⟨17, z, r, m, k, e, s⟩)) ∧ Kept 0 0 w w' := by
  have K0 := hide (kept_alloc w (.cells (inA 17 z r m k e s) 87))
  rw [show Pl.inKind ⟨17, z, r, m, k, e, s⟩ = (((z == 2) && (s == 0)) && !(m == 1)) from rfl]
  cases a0 : (z == 2)
  · go_enter Tryz.func127, Tryz.ntmps127
    go_wp2_with fail
    go_quiet (fail)
    go_wp2_with fail
    go_ret
    exact ⟨rB (by simp), kept_drewN K0.out _⟩
  · cases a1 : (s == 0)
    · go_enter Tryz.func127, Tryz.ntmps127
      go_wp2_with fail
      go_quiet (fail)
      go_wp2_with fail
      go_ret
      exact ⟨rB (by simp), kept_drewN K0.out _⟩
    · go_enter Tryz.func127, Tryz.ntmps127
      go_wp2_with fail
      go_quiet (fail)
      go_wp2_with fail
      go_ret
      exact ⟨rB (by simp [bne]), kept_drewN K0.out _⟩
theorem fitsOp18 (w : World) (z r m k e s : Int) (h0 : 0 ≤ s) : Calls Tryz.prog 127 #[.agg (inA 18 z r m k e s)] w fun r' w' => r' = .returned (.bool (Pl.inKind ⟨18, z, r, m, k, e, s⟩)) ∧ Kept 0 0 w w' := by
  have K0 := hide (kept_alloc w (.cells (inA 18 z r m k e s) 87))
  rw [show Pl.inKind ⟨18, z, r, m, k, e, s⟩ = (((!(z == 2)) && decide (s ≤ 1)) && (m == 0)) from rfl]
  cases a0 : (z == 2)
  · cases a1 : decide (s ≤ 1)
    · go_enter Tryz.func127, Tryz.ntmps127
      go_wp2_with fail
      go_quiet (fail)
      go_wp2_with fail
      go_ret
      exact ⟨rB (by simp), kept_drewN K0.out _⟩
    · go_enter Tryz.func127, Tryz.ntmps127
      go_wp2_with fail
      go_quiet (fail)
      go_wp2_with fail
      go_ret
      exact ⟨rB (by simp), kept_drewN K0.out _⟩
  · go_enter Tryz.func127, Tryz.ntmps127
    go_wp2_with fail
    go_quiet (fail)
    go_wp2_with fail
    go_ret
    exact ⟨rB (by simp), kept_drewN K0.out _⟩
theorem fitsOp19 (w : World) (z r m k e s : Int) (h0 : 0 ≤ s) : Calls Tryz.prog 127 #[.agg (inA 19 z r m k e s)] w fun r' w' => r' = .returned (.bool (Pl.inKind ⟨19, z, r, m, k, e, s⟩)) ∧ Kept 0 0 w w' := by
  have K0 := hide (kept_alloc w (.cells (inA 19 z r m k e s) 87))
  rw [show Pl.inKind ⟨19, z, r, m, k, e, s⟩ = ((z == 2) && ((((s == 0) && (r == 0)) && Pl.nowO m e) || ((s == 1) && Pl.zeroO m k e))) from rfl]
  cases a0 : (z == 2)
  · go_enter Tryz.func127, Tryz.ntmps127
    go_wp2_with fail
    go_quiet (fail)
    go_wp2_with fail
    go_ret
    exact ⟨rB (by simp), kept_drewN K0.out _⟩
  · go_enter Tryz.func127, Tryz.ntmps127
    go_wp2_with fail
    go_quiet (fail)
    go_wp2_with (go_at_call 147; refine (fitsStatus _ 19 z r m k e s).mono ?_; rintro e9 w2 ⟨rfl, k2⟩)
    go_ret
    exact ⟨rB (by simp [Bool.and_assoc]), (kept_drewN K0.out _).trans k2⟩
theorem fitsOpNo (w : World) (op z r m k e s : Int) (h : op < 1 ∨ 19 < op) : Calls Tryz.prog 127 #[.agg (inA op z r m k e s)] w fun r' w' => r' = .returned (.bool (Pl.inKind ⟨op, z, r, m, k, e, s⟩)) ∧ Kept 0 0 w w' := by
  have K0 := hide (kept_alloc w (.cells (inA op z r m k e s) 87))
  have G : Hid (Pl.inKind ⟨op, z, r, m, k, e, s⟩ = false) := hide (by
    unfold Pl.inKind
    simp only
    have n1 : (op == 1) = false := by simp; omega
    have n2 : (op == 2) = false := by simp; omega
    have n3 : (op == 3) = false := by simp; omega
    have n4 : (op == 4) = false := by simp; omega
    have n5 : (op == 5) = false := by simp; omega
    have n6 : (op == 6) = false := by simp; omega
    have n7 : (op == 7) = false := by simp; omega
    have n8 : (op == 8) = false := by simp; omega
    have n9 : (op == 9) = false := by simp; omega
    have n10 : (op == 10) = false := by simp; omega
    have n11 : (op == 11) = false := by simp; omega
    have n12 : (op == 12) = false := by simp; omega
    have n13 : (op == 13) = false := by simp; omega
    have n14 : (op == 14) = false := by simp; omega
    have n15 : (op == 15) = false := by simp; omega
    have n16 : (op == 16) = false := by simp; omega
    have n17 : (op == 17) = false := by simp; omega
    have n18 : (op == 18) = false := by simp; omega
    have n19 : (op == 19) = false := by simp; omega
    rw [n1, n3, n4, n5, n6, n7, n8, n2, n9, n10, n11, n12, n13, n14, n16, n17, n18, n19, n15]
    rfl)
  go_enter Tryz.func127, Tryz.ntmps127
  go_wp2_with fail
  go_quiet (fail)
  go_wp2_with fail
  go_ret
  exact ⟨rB G.out.symm, kept_drewN K0.out _⟩
theorem fitsOp (w : World) (op z r m k e s : Int) (h0 : 0 ≤ s) : Calls Tryz.prog 127 #[.agg (inA op z r m k e s)] w fun r' w' => r' = .returned (.bool (Pl.inKind ⟨op, z, r, m, k, e, s⟩)) ∧ Kept 0 0 w w' := by
  by_cases h : op < 1 ∨ 19 < op
  · exact fitsOpNo w op z r m k e s h
  · have hs : op = 1 ∨ op = 2 ∨ op = 3 ∨ op = 4 ∨ op = 5 ∨ op = 6 ∨ op = 7 ∨ op = 8 ∨ op = 9 ∨ op = 10 ∨ op = 11 ∨ op = 12 ∨ op = 13 ∨ op = 14 ∨ op = 15 ∨ op = 16 ∨ op = 17 ∨ op = 18 ∨ op = 19 := by omega
    rcases hs with rfl | rfl | rfl | rfl | rfl | rfl | rfl | rfl | rfl | rfl | rfl | rfl | rfl | rfl | rfl | rfl | rfl | rfl | rfl
    · exact fitsOp1 w z r m k e s h0
    · exact fitsOp2 w z r m k e s h0
    · exact fitsOp3 w z r m k e s h0
    · exact fitsOp4 w z r m k e s h0
    · exact fitsOp5 w z r m k e s h0
    · exact fitsOp6 w z r m k e s h0
    · exact fitsOp7 w z r m k e s h0
    · exact fitsOp8 w z r m k e s h0
    · exact fitsOp9 w z r m k e s h0
    · exact fitsOp10 w z r m k e s h0
    · exact fitsOp11 w z r m k e s h0
    · exact fitsOp12 w z r m k e s h0
    · exact fitsOp13 w z r m k e s h0
    · exact fitsOp14 w z r m k e s h0
    · exact fitsOp15 w z r m k e s h0
    · exact fitsOp16 w z r m k e s h0
    · exact fitsOp17 w z r m k e s h0
    · exact fitsOp18 w z r m k e s h0
    · exact fitsOp19 w z r m k e s h0
end Go.Proofs.YtnkapmchfneolaaGreat

namespace Go.Proofs.YtnkapmchfneolaaGreat
open Go.RowKit
set_option linter.unusedVariables false
theorem implGoodIns (w : World) (op z r m k e s : Int) (wfop : (Lit.int .i64 op).wf = true) (wfz : (Lit.int .i64 z).wf = true) (wfr : (Lit.int .i64 r).wf = true) (wfm : (Lit.int .i64 m).wf = true) (wfk : (Lit.int .i64 k).wf = true) (wfe : (Lit.int .i64 e).wf = true) (wfs : (Lit.int .i64 s).wf = true) : Calls Tryz.prog 95 #[.agg (inA op z r m k e s)] w fun r' w' => r' = .returned (.bool (Pl.inOk ⟨op, z, r, m, k, e, s⟩)) ∧ Kept 0 0 w w' := by
  have K0 := hide (kept_alloc w (.cells (inA op z r m k e s) 87))
  have B0 := hide (Blk.new w (inA op z r m k e s) 87)
  rw [Pl.ok_of_fits]
  simp only
  cases h1 : Pl.fits ⟨op, z, r, m, k, e, s⟩
  · go_enter Tryz.func95, Tryz.ntmps95
    go_wp2_with (go_at_call 124; refine (fitsWords _ op z r m k e s).mono ?_; rw [h1]; rintro e9 w1 ⟨rfl, k1⟩)
    go_ret
    exact ⟨rB (by simp), K0.out.trans k1⟩
  · have h0 : 0 ≤ s := ((Pl.fits_iff _).1 h1).2.2.2.2.2.1.1
    cases h2 : Pl.opOk m k e
    · go_enter Tryz.func95, Tryz.ntmps95
      go_wp2_with (first | (go_at_call 124; refine (fitsWords _ op z r m k e s).mono ?_; rw [h1]; rintro e9 w1 ⟨rfl, k1⟩; have B1 := hide (B0.out.kept0 k1); have K1 := hide (K0.out.trans k1); obtain ⟨b0, b1, b2, b3, b4, b5, b6⟩ := B1.out.c7; clear k1) | (go_at_call 125; refine (implGoodOperand _ m k e wfm wfk wfe).mono ?_; rw [h2]; rintro e9 w2 ⟨rfl, k2⟩; have B2 := hide (B1.out.kept0 k2); have K2 := hide (K1.out.trans k2); obtain ⟨c0, c1, c2, c3, c4, c5, c6⟩ := B2.out.c7; clear k2))
      go_ret
      exact ⟨rB (by simp), K2.out⟩
    · cases h3 : Pl.fitZ ⟨op, z, r, m, k, e, s⟩
      · go_enter Tryz.func95, Tryz.ntmps95
        go_wp2_with (first | (go_at_call 124; refine (fitsWords _ op z r m k e s).mono ?_; rw [h1]; rintro e9 w1 ⟨rfl, k1⟩; have B1 := hide (B0.out.kept0 k1); have K1 := hide (K0.out.trans k1); obtain ⟨b0, b1, b2, b3, b4, b5, b6⟩ := B1.out.c7; clear k1) | (go_at_call 125; refine (implGoodOperand _ m k e wfm wfk wfe).mono ?_; rw [h2]; rintro e9 w2 ⟨rfl, k2⟩; have B2 := hide (B1.out.kept0 k2); have K2 := hide (K1.out.trans k2); obtain ⟨c0, c1, c2, c3, c4, c5, c6⟩ := B2.out.c7; clear k2) | (go_at_call 126; refine (fitsSize _ op z r m k e s wfe).mono ?_; rw [h3]; rintro e9 w3 ⟨rfl, k3⟩; have B3 := hide (B2.out.kept0 k3); have K3 := hide (K2.out.trans k3); obtain ⟨d0, d1, d2, d3, d4, d5, d6⟩ := B3.out.c7; clear k3))
        go_ret
        exact ⟨rB (by simp), K3.out⟩
      · go_enter Tryz.func95, Tryz.ntmps95
        go_wp2_with (first | (go_at_call 124; refine (fitsWords _ op z r m k e s).mono ?_; rw [h1]; rintro e9 w1 ⟨rfl, k1⟩; have B1 := hide (B0.out.kept0 k1); have K1 := hide (K0.out.trans k1); obtain ⟨b0, b1, b2, b3, b4, b5, b6⟩ := B1.out.c7; clear k1) | (go_at_call 125; refine (implGoodOperand _ m k e wfm wfk wfe).mono ?_; rw [h2]; rintro e9 w2 ⟨rfl, k2⟩; have B2 := hide (B1.out.kept0 k2); have K2 := hide (K1.out.trans k2); obtain ⟨c0, c1, c2, c3, c4, c5, c6⟩ := B2.out.c7; clear k2) | (go_at_call 126; refine (fitsSize _ op z r m k e s wfe).mono ?_; rw [h3]; rintro e9 w3 ⟨rfl, k3⟩; have B3 := hide (B2.out.kept0 k3); have K3 := hide (K2.out.trans k3); obtain ⟨d0, d1, d2, d3, d4, d5, d6⟩ := B3.out.c7; clear k3) | (go_at_call 127; refine (fitsOp _ op z r m k e s h0).mono ?_; rintro e9 w4 ⟨rfl, k4⟩; have B4 := hide (B3.out.kept0 k4); have K4 := hide (K3.out.trans k4); clear k4))
        go_ret
        exact ⟨rB (by simp), K4.out⟩
end Go.Proofs.YtnkapmchfneolaaGreat

namespace Go.Proofs.YtnkapmchfneolaaGreat
open Go.RowKit
set_option linter.unusedVariables false
set_option linter.unusedSimpArgs false
set_option maxRecDepth 100000 in
set_option maxHeartbeats 4000000 in
theorem specEncode (w : World) (op z r m k e s : Int) (h : Pl.inOk ⟨op, z, r, m, k, e, s⟩ = true) : Calls Tryz.prog 59 #[.agg #[.int .i64 op, .int .i64 z, .int .i64 r, .int .i64 m, .int .i64 k, .int .i64 e, .int .i64 s]] w fun e' w' => ∃ (g c : Nat), e' = .returned (.slice (some ⟨g, 0, none⟩) (Pl.encode ⟨op, z, r, m, k, e, s⟩).length c) ∧ w.heap.size ≤ g ∧ g < w'.heap.size ∧ Own w' g (Pl.encode ⟨op, z, r, m, k, e, s⟩) ∧ Kept 0 0 w w' := by
  obtain ⟨a1, a2, a3, a4, a5, a6, a7, a8, a9, b1, b2, b3, b4, b5⟩ := Pl.modeR h
  simp only at a1 a2 a3 a4 a5 a6 a7 a8 a9 b1 b2 b3 b4 b5
  obtain ⟨c1, c2⟩ : 1 ≤ z ∧ z ≤ 2 := by omega
  obtain ⟨o1, o2, o3, o4, o5⟩ := orWord (op := op) (z := z) (r := r) (m := m) (k := k) (s := s) (by omega) (by omega) c1 c2 a4 a5 a6 a7 a8 a9 b3 b4
  have V : Hid (Pl.word1 ⟨op, z, r, m, k, e, s⟩ = op * 2048 + (z - 1) * 1024 + r * 256 + m * 32 + k * 8 + s) := hide rfl
  obtain ⟨W, hW⟩ : ∃ W, W = op * 2048 + (z - 1) * 1024 + r * 256 + m * 32 + k * 8 + s := ⟨_, rfl⟩
  rw [← hW] at o5 V
  clear hW b5
  have HI := hide h
  clear h
  have K0 := hide (kept_new (kept_alloc w (.cells #[.int .i64 op, .int .i64 z, .int .i64 r, .int .i64 m, .int .i64 k, .int .i64 e, .int .i64 s] 87)) (.cells #[.int .i64 W] 3))
  have P0 := hide ((Blk.new w #[.int .i64 op, .int .i64 z, .int .i64 r, .int .i64 m, .int .i64 k, .int .i64 e, .int .i64 s] 87).alloc (.cells #[.int .i64 W] 3))
  have B0 := Blk.new (w.alloc (.cells #[.int .i64 op, .int .i64 z, .int .i64 r, .int .i64 m, .int .i64 k, .int .i64 e, .int .i64 s] 87)) #[.int .i64 W] 3
  simp only [World.size_alloc] at B0
  replace B0 := hide B0
  cases hE : Pl.extM m
  · have E : Hid (Pl.encode ⟨op, z, r, m, k, e, s⟩ = [W]) := hide (by simp [Pl.encode, hE, V.out])
    go_enter Tryz.func59, Tryz.ntmps59
    go_wp2_with (first | (go_at_call 88; refine (specExtM _ _).mono ?_; rintro e9 w' ⟨rfl, hw⟩; have hw2 := hw.symm; clear hw; subst hw2; rw [hE]))
    go_ret
    have l0 := B0.out.lt
    exact ⟨_, _, by rw [E.out]; rfl, by omega, l0, by rw [E.out]; exact own_of_blk (xs := [W]) B0.out, K0.out⟩
  · have E : Hid (Pl.encode ⟨op, z, r, m, k, e, s⟩ = [W, e]) := hide (by simp [Pl.encode, hE, V.out])
    obtain ⟨i, hi0, hz0, hz1, hz2⟩ := info_parts Tryz.info3
    have OW : Hid (World.ownsRow ((w.alloc (.cells #[.int .i64 op, .int .i64 z, .int .i64 r, .int .i64 m, .int .i64 k, .int .i64 e, .int .i64 s] 87)).alloc (.cells #[.int .i64 W] 3)) (w.heap.size + 1) 3 1 (.slice (some ⟨w.heap.size + 1, 0, none⟩) 1 1) 1 [.int .i64 W]) := hide ⟨by simp, .inr ⟨w.heap.size + 1, 1, #[.int .i64 W], rfl, Nat.le_refl _, B0.out, Nat.le_refl _, by unfold maxLen; omega, by simp, by simp⟩⟩
    go_enter Tryz.func59, Tryz.ntmps59
    have BN := Blk.new ((w.alloc (.cells #[.int .i64 op, .int .i64 z, .int .i64 r, .int .i64 m, .int .i64 k, .int .i64 e, .int .i64 s] 87)).alloc (.cells #[.int .i64 W] 3)) #[.int .i64 e] 3
    simp only [World.size_alloc] at BN
    replace BN := hide BN
    have H63 : Hid (1 + 1 ≤ maxLen) := hide (by unfold maxLen; omega)
    go_wp2_with (first | (go_at_call 88; refine (specExtM _ _).mono ?_; rintro e9 w' ⟨rfl, hw⟩; have hw2 := hw.symm; clear hw; subst hw2; rw [hE]) | (at_builtin; refine wpList_append_lies _ rfl (.tmp 34) (.tmp 38) 91 rfl (w.heap.size + 1) 3 i (.int .i64 0) 1 8 Tryz.underlying91 hi0 hz0 hz1 hz2 rfl (by decide) (.slice (some ⟨w.heap.size + 1, 0, none⟩) 1 1) 1 [.int .i64 W] rfl (OW.out.alloc _) ⟨w.heap.size + 1 + 1, 0, none⟩ 1 1 [.int .i64 e] rfl rfl (World.news_of_block (cs := #[.int .i64 e]) (t := 3) (fr := (0, 0)) BN.out) (by simp [Value.oneCell']) (by decide) H63.out (by decide) (by simp) (w.heap.size + 1 + 1 + 1) (by simp) ?_))
    intro g2 c2 w2 o2 k2 hg2 l2
    have kk := kept_row k2 (lo := w.heap.size + 1) (hi := w.heap.size + 1 + 1) (by intro j hj; have h5 : w.heap.size + 1 = j := Option.some.inj hj; omega)
    obtain ⟨p3, p4⟩ := o2.lt g2 rfl
    have K2 := hide (kept_over (kept_new K0.out (.cells #[.int .i64 e] 3)) kk (by omega))
    have PN : Hid (Own w2 g2 [W, e]) := hide (own_of_row (xs := [W, e]) o2)
    clear o2 k2 kk
    go_wp2_with fail
    go_ret
    exact ⟨g2, c2, by rw [E.out]; rfl, by omega, p4, by rw [E.out]; exact PN.out, K2.out⟩
end Go.Proofs.YtnkapmchfneolaaGreat

namespace Go.Proofs.YtnkapmchfneolaaGreat
open Go.RowKit
set_option linter.unusedVariables false
theorem slotIn_row {w : World} {base n : Nat} {v : Value} {xs : List Int} (h : w.ownsRow base 3 1 v n (xs.map (Value.int .i64))) : ∃ (b : Option Addr) (cb : Nat), v = .slice b n cb ∧ SlotIn w base w.heap.size b xs := by
  have h9 := h
  rcases h with ⟨hl, ⟨rfl, e⟩ | ⟨g, cap, cur, e, hb, hgg, hn, _, hsz, ht⟩⟩
  · subst e
    exact ⟨none, 0, rfl, .inl ⟨rfl, by simpa using hl⟩⟩
  · subst e
    exact ⟨some ⟨g, 0, none⟩, cap, rfl, .inr ⟨g, rfl, (h9.lt g rfl).1, (h9.lt g rfl).2, own_of_row h9⟩⟩
end Go.Proofs.YtnkapmchfneolaaGreat

namespace Go.Proofs.YtnkapmchfneolaaGreat
open Go.RowKit
set_option linter.unusedVariables false
theorem wfAt {ys : List Int} (h : Wide ys) {i : Nat} (hi : i < ys.length) : (Lit.int .i64 (el ys i)).wf = true := by
  have q := h i hi
  have e1 : IntKind.i64.min = -9223372036854775808 := rfl
  have e2 : IntKind.i64.max = 9223372036854775807 := rfl
  unfold el
  simp [Lit.wf]
  omega
end Go.Proofs.YtnkapmchfneolaaGreat

namespace Go.Proofs.YtnkapmchfneolaaGreat
open Go.RowKit
set_option linter.unusedVariables false
theorem Pl.rowS_no {ys : List Int} {n k : Nat} (h : k < n) (hb : (Pl.inOk (Pl.inAt ys k) && Pl.straight (Pl.inAt ys k)) = false) : Pl.rowS ys n = false := by
  induction n with
  | zero => omega
  | succ n ih =>
    unfold Pl.rowS
    by_cases e : k = n
    · subst e; rw [hb, Bool.and_false]
    · rw [ih (by omega), Bool.false_and]
set_option maxRecDepth 20000 in
set_option maxHeartbeats 4000000 in
theorem implRow (w : World) (a : Option Addr) (ca n : Nat) (ys : List Int) (ha : Came w a ys) (ly : ys.length = 7 * n) (bx : n ≤ 2000000) : Calls Tryz.prog 96 #[.slice a n ca] w fun e' w' => e' = .returned (.bool (Pl.rowOk ys n)) ∧ Kept 0 0 w w' := by
  have HA := hide ha
  have HY := hide ly
  clear ha ly
  cases h16 : decide ((16 : Int) < (n : Int))
  · go_enter Tryz.func96, Tryz.ntmps96
    go_wp2_with fail
    go_loopw [10] (fun j wr => ∃ k : Nat, k ≤ n ∧ j = .int .i64 k ∧ Pl.rowS ys k = true ∧ Kept 0 0 w wr) (fun j _ => n - (intOf j).toNat)
    case atStart => exact ⟨0, Nat.zero_le _, rfl, rfl, Kept.refl _ _ _⟩
    case round =>
      obtain ⟨k, hk, rfl, hall, hkept⟩ := hrel
      have HK := hide hkept
      have HL := hide hall
      clear hkept hall
      by_cases hlt : k < n
      · obtain ⟨g1, o1, rfl, p0, p1, p2, p3, p4, p5, p6⟩ := (HA.out.1.keptS HK.out).at7 HY.out hlt
        have wa0 : (Lit.int .i64 (el ys (k * 7))).wf = true := wfAt HA.out.2 (by have := HY.out; omega)
        have wa1 : (Lit.int .i64 (el ys (k * 7 + 1))).wf = true := wfAt HA.out.2 (by have := HY.out; omega)
        have wa2 : (Lit.int .i64 (el ys (k * 7 + 2))).wf = true := wfAt HA.out.2 (by have := HY.out; omega)
        have wa3 : (Lit.int .i64 (el ys (k * 7 + 3))).wf = true := wfAt HA.out.2 (by have := HY.out; omega)
        have wa4 : (Lit.int .i64 (el ys (k * 7 + 4))).wf = true := wfAt HA.out.2 (by have := HY.out; omega)
        have wa5 : (Lit.int .i64 (el ys (k * 7 + 5))).wf = true := wfAt HA.out.2 (by have := HY.out; omega)
        have wa6 : (Lit.int .i64 (el ys (k * 7 + 6))).wf = true := wfAt HA.out.2 (by have := HY.out; omega)
        have B0 := hide (Blk.new wr #[iv (el ys (k * 7)), iv (el ys (k * 7 + 1)), iv (el ys (k * 7 + 2)), iv (el ys (k * 7 + 3)), iv (el ys (k * 7 + 4)), iv (el ys (k * 7 + 5)), iv (el ys (k * 7 + 6))] 87)
        cases hb : Pl.inOk (Pl.inAt ys k)
        · have E : Hid (Pl.rowOk ys n = false) := hide (by unfold Pl.rowOk; rw [Pl.rowS_no hlt (by rw [hb]; rfl), Bool.and_false])
          go_wp2_with (first | (go_at_call 95; refine (implGoodIns _ (el ys (k * 7)) (el ys (k * 7 + 1)) (el ys (k * 7 + 2)) (el ys (k * 7 + 3)) (el ys (k * 7 + 4)) (el ys (k * 7 + 5)) (el ys (k * 7 + 6)) wa0 wa1 wa2 wa3 wa4 wa5 wa6).mono ?_; rintro e9 w2 ⟨rfl, k2⟩; rw [show Pl.inOk ⟨el ys (k * 7), el ys (k * 7 + 1), el ys (k * 7 + 2), el ys (k * 7 + 3), el ys (k * 7 + 4), el ys (k * 7 + 5), el ys (k * 7 + 6)⟩ = Pl.inOk (Pl.inAt ys k) from rfl, hb]; have B2 := hide (B0.out.kept0 k2); have K2 := hide ((kept_new HK.out _).trans k2); have p2 := B2.out.all; clear k2))
          go_ret
          exact ⟨rB E.out.symm, K2.out⟩
        · cases hs : Pl.straight (Pl.inAt ys k)
          · have E : Hid (Pl.rowOk ys n = false) := hide (by unfold Pl.rowOk; rw [Pl.rowS_no hlt (by rw [hb, hs]; rfl), Bool.and_false])
            go_wp2_with (first | (go_at_call 95; refine (implGoodIns _ (el ys (k * 7)) (el ys (k * 7 + 1)) (el ys (k * 7 + 2)) (el ys (k * 7 + 3)) (el ys (k * 7 + 4)) (el ys (k * 7 + 5)) (el ys (k * 7 + 6)) wa0 wa1 wa2 wa3 wa4 wa5 wa6).mono ?_; rintro e9 w2 ⟨rfl, k2⟩; rw [show Pl.inOk ⟨el ys (k * 7), el ys (k * 7 + 1), el ys (k * 7 + 2), el ys (k * 7 + 3), el ys (k * 7 + 4), el ys (k * 7 + 5), el ys (k * 7 + 6)⟩ = Pl.inOk (Pl.inAt ys k) from rfl, hb]; have B2 := hide (B0.out.kept0 k2); have K2 := hide ((kept_new HK.out _).trans k2); have p2 := B2.out.all; clear k2) | (go_at_call 128; refine (implStr _ (el ys (k * 7)) (el ys (k * 7 + 1)) (el ys (k * 7 + 2)) (el ys (k * 7 + 3)) (el ys (k * 7 + 4)) (el ys (k * 7 + 5)) (el ys (k * 7 + 6)) (Pl.inD_of hb)).mono ?_; rintro e9 w3 ⟨rfl, k3⟩; rw [show Pl.straight ⟨el ys (k * 7), el ys (k * 7 + 1), el ys (k * 7 + 2), el ys (k * 7 + 3), el ys (k * 7 + 4), el ys (k * 7 + 5), el ys (k * 7 + 6)⟩ = Pl.straight (Pl.inAt ys k) from rfl, hs]; have K3 := hide (K2.out.trans k3); clear k3))
            go_ret
            exact ⟨rB E.out.symm, K3.out⟩
          · go_wp2_with (first | (go_at_call 95; refine (implGoodIns _ (el ys (k * 7)) (el ys (k * 7 + 1)) (el ys (k * 7 + 2)) (el ys (k * 7 + 3)) (el ys (k * 7 + 4)) (el ys (k * 7 + 5)) (el ys (k * 7 + 6)) wa0 wa1 wa2 wa3 wa4 wa5 wa6).mono ?_; rintro e9 w2 ⟨rfl, k2⟩; rw [show Pl.inOk ⟨el ys (k * 7), el ys (k * 7 + 1), el ys (k * 7 + 2), el ys (k * 7 + 3), el ys (k * 7 + 4), el ys (k * 7 + 5), el ys (k * 7 + 6)⟩ = Pl.inOk (Pl.inAt ys k) from rfl, hb]; have B2 := hide (B0.out.kept0 k2); have K2 := hide ((kept_new HK.out _).trans k2); have p2 := B2.out.all; clear k2) | (go_at_call 128; refine (implStr _ (el ys (k * 7)) (el ys (k * 7 + 1)) (el ys (k * 7 + 2)) (el ys (k * 7 + 3)) (el ys (k * 7 + 4)) (el ys (k * 7 + 5)) (el ys (k * 7 + 6)) (Pl.inD_of hb)).mono ?_; rintro e9 w3 ⟨rfl, k3⟩; rw [show Pl.straight ⟨el ys (k * 7), el ys (k * 7 + 1), el ys (k * 7 + 2), el ys (k * 7 + 3), el ys (k * 7 + 4), el ys (k * 7 + 5), el ys (k * 7 + 6)⟩ = Pl.straight (Pl.inAt ys k) from rfl, hs]; have K3 := hide (K2.out.trans k3); clear k3))
            go_roundw
            case rel => exact ⟨k + 1, by omega, by go_num, by unfold Pl.rowS; rw [HL.out, hb, hs]; rfl, K3.out⟩
            case measure => simp [intOf]; omega
      · obtain rfl : k = n := by omega
        have E : Hid (Pl.rowOk ys k = decide ((k : Int) ≤ 16)) := hide (by unfold Pl.rowOk; rw [HL.out, Bool.and_true])
        go_wp2_with fail
        go_ret
        exact ⟨rB (by first | exact E.out.symm | (rw [E.out]; simp at h16; simp; omega)), HK.out⟩
  · have E : Hid (Pl.rowOk ys n = false) := hide (by unfold Pl.rowOk; simp at h16; simp; intro h; omega)
    go_enter Tryz.func96, Tryz.ntmps96
    go_wp2_with fail
    go_ret
    exact ⟨rB E.out.symm, Kept.refl _ _ _⟩
end Go.Proofs.YtnkapmchfneolaaGreat

namespace Go.Proofs.YtnkapmchfneolaaGreat
open Go.RowKit
set_option linter.unusedVariables false
theorem mkB : ∀ n : Nat, n ≤ 16 → ∀ w : World, (Instr.makeSlice 93 (.int .i64 (n : Int)) (.int .i64 (n : Int))).run Tryz.prog w = .ok (.slice (some ⟨w.heap.size, 0, none⟩) n n) (w.alloc (.cells (Array.replicate n (.bool false)) 4)) := by
  intro n hn
  obtain rfl | rfl | rfl | rfl | rfl | rfl | rfl | rfl | rfl | rfl | rfl | rfl | rfl | rfl | rfl | rfl | rfl : n = 0 ∨ n = 1 ∨ n = 2 ∨ n = 3 ∨ n = 4 ∨ n = 5 ∨ n = 6 ∨ n = 7 ∨ n = 8 ∨ n = 9 ∨ n = 10 ∨ n = 11 ∨ n = 12 ∨ n = 13 ∨ n = 14 ∨ n = 15 ∨ n = 16 := by omega
  all_goals intro w; kernel_rfl
theorem bown_newN (w : World) (n : Nat) : BOwn (w.alloc (.cells (Array.replicate n (.bool false)) 4)) w.heap.size (List.replicate n false) := by
  have B := Blk.new w (Array.replicate n (.bool false)) 4
  intro i hi
  have hi2 : i < n := by simpa using hi
  refine ⟨?_, B.frozen i⟩
  rw [B.cell (i := i) (v := .bool false) (by rw [Array.getElem?_replicate, if_pos hi2]), List.getElem?_replicate, if_pos hi2]
  rfl
/-- a block that holds these bools and nothing else -/
def BBk (w : World) (g : Nat) (xs : List Bool) : Prop := Blk w g (xs.map Value.bool).toArray 4
theorem BBk.own {w : World} {g : Nat} {xs : List Bool} (h : BBk w g xs) : BOwn w g xs := by
  intro i hi
  refine ⟨?_, Blk.frozen h i⟩
  rw [Blk.cell h (i := i) (v := .bool (xs[i]?.getD false))]
  simp [hi]
theorem BBk.keptS {w w' : World} {g : Nat} {xs : List Bool} {lo hi : Nat} (h : BBk w g xs) (k : Kept lo hi w w') (hn : ¬ (lo ≤ g ∧ g < hi)) : BBk w' g xs := Blk.kept h k hn
theorem BBk.set {w : World} {g k : Nat} {xs : List Bool} (h : BBk w g xs) (z : Bool) : BBk (w.setCell ⟨g, k, none⟩ (.bool z)) g (xs.set k z) := by
  have q := Blk.set h k (.bool z)
  unfold BBk
  rw [List.map_set]
  simpa using q
theorem BBk.rows {w : World} {g : Nat} {xs : List Bool} {base : Nat} (h : BBk w g xs) (hb : base ≤ g) (hm : xs.length ≤ maxLen) : w.ownsRow base 4 1 (.slice (some ⟨g, 0, none⟩) xs.length xs.length) xs.length (xs.map Value.bool) :=
  ⟨by simp, .inr ⟨g, xs.length, _, rfl, hb, h, Nat.le_refl _, hm, by simp, by rw [List.take_of_length_le (by simp)]⟩⟩
theorem bbk_newN (w : World) (n : Nat) : BBk (w.alloc (.cells (Array.replicate n (.bool false)) 4)) w.heap.size (List.replicate n false) := by
  have B := Blk.new w (Array.replicate n (.bool false)) 4
  unfold BBk
  rw [List.map_replicate, List.toArray_replicate]
  exact B
namespace Pl
theorem or_lt : ∀ a : Nat, a < 32 → ∀ b : Nat, b < 32 → 0 ≤ bits .or .i64 (a : Int) (b : Int) ∧ bits .or .i64 (a : Int) (b : Int) ≤ 31 := by decide +kernel
theorem an_lt : ∀ a : Nat, a < 32 → ∀ b : Nat, b < 32 → 0 ≤ bits .andNot .i64 (a : Int) (b : Int) ∧ bits .andNot .i64 (a : Int) (b : Int) ≤ 31 := by decide +kernel
theorem or_all : ∀ a : Nat, a < 32 → bits .or .i64 (a : Int) 31 = 31 ∧ bits .or .i64 (a : Int) 0 = a := by decide +kernel
theorem or_com : ∀ a : Nat, a < 32 → ∀ b : Nat, b < 32 → bits .or .i64 (a : Int) (b : Int) = bits .or .i64 (b : Int) (a : Int) := by decide +kernel
def f31 (a : Int) : Prop := 0 ≤ a ∧ a ≤ 31
theorem f31.or {a b : Int} (h : f31 a) (k : f31 b) : f31 (bits .or .i64 a b) := by
  obtain ⟨i, hi, rfl⟩ := nat_of (n := 32) h.1 (by have := h.2; omega)
  obtain ⟨j, hj, rfl⟩ := nat_of (n := 32) k.1 (by have := k.2; omega)
  exact or_lt i hi j hj
theorem f31.an {a b : Int} (h : f31 a) (k : f31 b) : f31 (bits .andNot .i64 a b) := by
  obtain ⟨i, hi, rfl⟩ := nat_of (n := 32) h.1 (by have := h.2; omega)
  obtain ⟨j, hj, rfl⟩ := nat_of (n := 32) k.1 (by have := k.2; omega)
  exact an_lt i hi j hj
theorem f31.com {a b : Int} (h : f31 a) (k : f31 b) : bits .or .i64 a b = bits .or .i64 b a := by
  obtain ⟨i, hi, rfl⟩ := nat_of (n := 32) h.1 (by have := h.2; omega)
  obtain ⟨j, hj, rfl⟩ := nat_of (n := 32) k.1 (by have := k.2; omega)
  exact or_com i hi j hj
theorem f31.all {a : Int} (h : f31 a) : bits .or .i64 a 31 = 31 ∧ bits .or .i64 a 0 = a := by
  obtain ⟨i, hi, rfl⟩ := nat_of (n := 32) h.1 (by have := h.2; omega)
  exact or_all i hi
theorem f31_sets (x : In) : f31 (sets x) := by
  rcases sets_in x with h | h | h | h <;> (unfold f31; omega)
theorem f31_reads (x : In) (h : InD x) : f31 (reads x) := by
  unfold reads
  have s0 := h.s0; have s1 := h.s1; have r0 := h.r0; have r2 := h.r2
  cases q : (x.op == 13)
  · simp only [Bool.cond_eq_ite]
    unfold f31
    repeat' split
    all_goals first | omega | simp_all
  · have q2 : x.op = 13 := by simpa using q
    obtain ⟨j, hj, e⟩ := nat_of (k := x.s + 8 * x.r) (n := 16) (by omega) (by have := r2 q2; omega)
    rw [q2, e]
    have := need_in j hj
    simp only [f31]
    exact ⟨this.1, by have := this.2; simp; omega⟩
theorem f31_needB {x : In} (h : InD x) {m : Int} (hm : f31 m) : f31 (needB x m) := by
  unfold needB
  refine ((hm.an (f31_sets x)).or (f31_reads x h)).or ?_
  rcases flag_in (mayF x) with e | e <;> (rw [e]; unfold f31; omega)
theorem needB_fault {x : In} (h : InD x) {m : Int} (hm : f31 m) (hf : mayF x = true) : needB x m = 31 := by
  unfold needB
  rw [hf, show fl true 31 = 31 from rfl]
  exact ((hm.an (f31_sets x)).or (f31_reads x h)).all.1
theorem needB_none {x : In} (h : InD x) {m : Int} (hm : f31 m) (hf : mayF x = false) : needB x m = bits .or .i64 (reads x) (bits .andNot .i64 m (sets x)) := by
  unfold needB
  rw [hf, show fl false 31 = 0 from rfl, ((hm.an (f31_sets x)).or (f31_reads x h)).all.2]
  exact (hm.an (f31_sets x)).com (f31_reads x h)
theorem rowS_at {ys : List Int} {n k : Nat} (h : rowS ys n = true) (hk : k < n) : inOk (inAt ys k) = true := by
  cases e : inOk (inAt ys k)
  · rw [rowS_no hk (by rw [e]; rfl)] at h; exact absurd h (by simp)
  · rfl
theorem needs_in {ys : List Int} {n i : Nat} (h : rowS ys n = true) (hi : i ≤ n) : f31 (needs ys n i) := by
  induction i with
  | zero => exact ⟨show (0 : Int) ≤ 31 by decide, show (31 : Int) ≤ 31 by decide⟩
  | succ i ih =>
    unfold needs
    exact f31_needB (inD_of (rowS_at h (by omega))) (ih (by omega))
end Pl
theorem areDeadI (w : World) (op z r m k e s nd : Int) (D : Pl.InD ⟨op, z, r, m, k, e, s⟩) : Calls Tryz.prog 148 #[.agg (inA op z r m k e s), iv nd] w fun e' w' => e' = .returned (.bool (Pl.deadB ⟨op, z, r, m, k, e, s⟩ nd)) ∧ Kept 0 0 w w' := by
  have K0 := hide (kept_alloc w (.cells (inA op z r m k e s) 87))
  have B0 := hide (Blk.new w (inA op z r m k e s) 87)
  have D0 := hide D
  clear D
  obtain ⟨S, hS⟩ : ∃ S, S = Pl.sets ⟨op, z, r, m, k, e, s⟩ := ⟨_, rfl⟩
  have HS := hide hS
  clear hS
  cases q1 : (S != 0) <;> cases q2 : (bits .and .i64 S nd == 0)
  all_goals
    go_enter Tryz.func148, Tryz.ntmps148
    go_wp2_with (first | (go_at_call 151; refine (implSets _ op z r m k e s D0.out).mono ?_; rw [← HS.out]; rintro e9 w2 ⟨rfl, k2⟩; have B2 := hide (B0.out.kept0 k2); have K2 := hide (K0.out.trans k2); have p2 := B2.out.all; clear k2) | (go_at_call 157; refine (implMayW _ op z r m k e s D0.out).mono ?_; rintro e9 w3 ⟨rfl, k3⟩; have K3 := hide (K2.out.trans k3); clear k3))
    go_ret
    exact ⟨rB (by unfold Pl.deadB; rw [← HS.out, show (!(S == 0)) = _ from q1, q2]; first | rfl | simp), by first | exact K3.out | exact K2.out⟩
end Go.Proofs.YtnkapmchfneolaaGreat

namespace Go.Proofs.YtnkapmchfneolaaGreat
open Go.RowKit
set_option linter.unusedVariables false
set_option maxRecDepth 20000 in
set_option maxHeartbeats 8000000 in
theorem implDeadIn (w : World) (a : Option Addr) (ca n : Nat) (ys : List Int) (ha : Came w a ys) (ly : ys.length = 7 * n) (hn : n ≤ 16) (hr : Pl.rowS ys n = true) : Calls Tryz.prog 129 #[.slice a n ca] w fun e' w' => e' = .returned (.slice (some ⟨w.heap.size, 0, none⟩) n n) ∧ BOwn w' w.heap.size (Pl.deads ys n n) ∧ Kept 0 0 w w' ∧ w.heap.size < w'.heap.size := by
  have HA := hide ha
  have HY := hide ly
  have HR := hide hr
  clear ha ly hr
  have mk := mkB n hn
  have B := bown_newN w n
  rw [← Pl.deads_zero ys n] at B
  have K : Kept 0 0 w (w.alloc (.cells (Array.replicate n (.bool false)) 4)) := kept_alloc _ _
  have S : w.heap.size < (w.alloc (.cells (Array.replicate n (.bool false)) 4)).heap.size := by rw [World.size_alloc]; omega
  go_enter Tryz.func129, Tryz.ntmps129
  go_wp2_with fail
  go_step3
  go_wp2_with fail
  go_step3
  go_wp2_with fail
  clear mk
  generalize w.alloc (.cells (Array.replicate n (.bool false)) 4) = W0 at *
  go_loopg [4] n (fun gn lf wr => gn ≤ n ∧ lf = .int .i64 (gn : Int) ∧ (gn = 0 ∨ Pl.needs ys n (n - gn) = 31) ∧ BOwn wr w.heap.size (Pl.deads ys n (n - gn)) ∧ Kept 0 0 w wr ∧ w.heap.size < wr.heap.size)
  case atStart => exact ⟨Nat.le_refl _, rfl, .inr (by rw [Nat.sub_self]; rfl), by rw [Nat.sub_self]; exact B, K, S⟩
  case round =>
    obtain ⟨hg, rfl, hN, hown, hK, hS⟩ := hrel
    have HN := hide hN
    have HO1 := hide hown
    have HK1 := hide hK
    have HS1 := hide hS
    clear hN hown hK hS B K S
    cases gk with
    | zero =>
      have h0 : ¬ ((0 : Int) < ((0 : Nat) : Int)) := by omega
      go_wp2_with fail
      (first | rw [Exit.noGoto_ret] | skip)
      go_ret
      exact ⟨rfl, by rw [Nat.sub_zero] at HO1; exact HO1.out, HK1.out, HS1.out⟩
    | succ go =>
      have h1 : (0 : Int) < ((go + 1 : Nat) : Int) := by omega
      have h2 : (0 : Int) < (go : Int) + 1 := by omega
      have E31 : Hid (Pl.needs ys n (n - (go + 1)) = 31) := hide (by rcases HN.out with h | h <;> first | omega | exact h)
      go_wp2_with fail
      clear h1 h2
      go_loopg [4, 5] (go + 1) (fun g2 lf nd wy => g2 ≤ go + 1 ∧ lf = .int .i64 (g2 : Int) ∧ nd = iv (Pl.needs ys n (n - g2)) ∧ BOwn wy w.heap.size (Pl.deads ys n (n - g2)) ∧ Kept 0 0 w wy ∧ w.heap.size < wy.heap.size)
      case atStart => exact ⟨Nat.le_refl _, rfl, by rw [E31.out], HO1.out, HK1.out, HS1.out⟩
      case round =>
        obtain ⟨hg2, rfl, rfl, hown, hK, hS⟩ := hrel
        clear HO1 HK1 HS1 E31 HN
        have HO := hide hown
        have HK := hide hK
        have HS := hide hS
        clear hown hK hS
        cases gk with
        | zero =>
          have h0 : ¬ ((0 : Int) < ((0 : Nat) : Int)) := by omega
          go_wp2_with fail
          go_roundg 0
          case measure => omega
          case rel => exact ⟨by omega, rfl, .inl rfl, HO.out, HK.out, HS.out⟩
        | succ k =>
          have hk : k < n := by omega
          have h1 : (0 : Int) < ((k + 1 : Nat) : Int) := by omega
          have h2 : (0 : Int) < (k : Int) + 1 := by omega
          have ew1 : IntKind.i64.wrap (((k + 1 : Nat) : Int) - 1) = (k : Int) := by rw [IntKind.wrap_i64]; omega
          have ew2 : IntKind.i64.wrap (k : Int) = (k : Int) := by rw [IntKind.wrap_i64]; omega
          obtain ⟨g1, o1, rfl, p0, p1, p2, p3, p4, p5, p6⟩ := (HA.out.1.keptS HK.out).at7 HY.out hk
          have B0 := hide (Blk.new wr #[iv (el ys (k * 7)), iv (el ys (k * 7 + 1)), iv (el ys (k * 7 + 2)), iv (el ys (k * 7 + 3)), iv (el ys (k * 7 + 4)), iv (el ys (k * 7 + 5)), iv (el ys (k * 7 + 6))] 87)
          have D0 := hide (Pl.inD_of (Pl.rowS_at HR.out hk))
          have F0 := hide (Pl.needs_in (i := n - (k + 1)) HR.out (by omega))
          have NB : Hid (Pl.needs ys n (n - k) = Pl.needB (Pl.inAt ys k) (Pl.needs ys n (n - (k + 1)))) := hide (by
            rw [show n - k = (n - (k + 1)) + 1 from by omega]
            show Pl.needB (Pl.inAt ys (n - (n - (k + 1) + 1))) _ = _
            rw [show n - (n - (k + 1) + 1) = k from by omega])
          have DS : Hid ((Pl.deads ys n (n - (k + 1))).set k (Pl.deadB (Pl.inAt ys k) (Pl.needs ys n (n - (k + 1)))) = Pl.deads ys n (n - k)) := hide (by
            have q := Pl.deads_set ys n (n - (k + 1)) (by omega)
            rw [show n - (n - (k + 1) + 1) = k from by omega, show n - (k + 1) + 1 = n - k from by omega] at q
            exact q)
          obtain ⟨N, hN⟩ : ∃ N, N = Pl.needs ys n (n - (k + 1)) := ⟨_, rfl⟩
          rw [← hN] at NB DS F0 ⊢
          obtain ⟨DD, hDD⟩ : ∃ DD, DD = Pl.deadB (Pl.inAt ys k) N := ⟨_, rfl⟩
          rw [← hDD] at DS
          have HDD := hide hDD
          have HNN := hide hN
          clear hN hDD
          have hki : (k : Int) < (n : Int) := by omega
          have hki0 : (0 : Int) ≤ (k : Int) := by omega
          have hne : wr.heap.size ≠ w.heap.size := by have := HS.out; omega
          cases hf : Pl.mayF (Pl.inAt ys k)
          · go_wp2_with (first | (go_at_call 148; refine (areDeadI _ (el ys (k * 7)) (el ys (k * 7 + 1)) (el ys (k * 7 + 2)) (el ys (k * 7 + 3)) (el ys (k * 7 + 4)) (el ys (k * 7 + 5)) (el ys (k * 7 + 6)) N D0.out).mono ?_; rw [show Pl.deadB ⟨el ys (k * 7), el ys (k * 7 + 1), el ys (k * 7 + 2), el ys (k * 7 + 3), el ys (k * 7 + 4), el ys (k * 7 + 5), el ys (k * 7 + 6)⟩ N = Pl.deadB (Pl.inAt ys k) N from rfl, ← HDD.out]; rintro e9 w2 ⟨rfl, k2⟩; have B2 := hide (B0.out.kept0 k2); have K2 := hide ((kept_new HK.out _).trans k2); have p2 := B2.out.all; have O2 := hide (HO.out.keptS ((kept_alloc wr _).trans k2) (by omega)); obtain ⟨hc2, hf2⟩ := O2.out k (by rw [Pl.deads_len]; omega); have q3 := (B2.out.other w.heap.size k (.bool DD) hne).all; have s2 : wr.heap.size < w2.heap.size := B2.out.lt; clear k2) | (go_at_call 149; refine (implMayF _ (el ys (k * 7)) (el ys (k * 7 + 1)) (el ys (k * 7 + 2)) (el ys (k * 7 + 3)) (el ys (k * 7 + 4)) (el ys (k * 7 + 5)) (el ys (k * 7 + 6)) D0.out).mono ?_; rw [show Pl.mayF ⟨el ys (k * 7), el ys (k * 7 + 1), el ys (k * 7 + 2), el ys (k * 7 + 3), el ys (k * 7 + 4), el ys (k * 7 + 5), el ys (k * 7 + 6)⟩ = Pl.mayF (Pl.inAt ys k) from rfl, hf]; rintro e9 w3 ⟨rfl, k3⟩; have O3 := hide ((O2.out.set DD).keptS k3 (by omega)); have B3 := hide ((B2.out.other w.heap.size k (.bool DD) hne).kept0 k3); have K3 := hide ((kept_set K2.out _ _ _ (.inr (Nat.le_refl _))).trans k3); have SZ3 : w.heap.size < w3.heap.size := (by have := B3.out.lt; have := HS.out; omega); clear k3))
            clear q3 p2 hc2 hf2
            go_region_held3 (fun w' => w'.cell? ⟨wr.heap.size, 0, none⟩ = some (iv (el ys (k * 7))) ∧ w'.cell? ⟨wr.heap.size, 1, none⟩ = some (iv (el ys (k * 7 + 1))) ∧ w'.cell? ⟨wr.heap.size, 2, none⟩ = some (iv (el ys (k * 7 + 2))) ∧ w'.cell? ⟨wr.heap.size, 3, none⟩ = some (iv (el ys (k * 7 + 3))) ∧ w'.cell? ⟨wr.heap.size, 4, none⟩ = some (iv (el ys (k * 7 + 4))) ∧ w'.cell? ⟨wr.heap.size, 5, none⟩ = some (iv (el ys (k * 7 + 5))) ∧ w'.cell? ⟨wr.heap.size, 6, none⟩ = some (iv (el ys (k * 7 + 6)))) (first | with_reducible exact B5.out.c7 | with_reducible exact B4.out.c7 | exact (show Blk _ _ _ _ from B3.out).c7) (first | (go_at_call 151; have z9 := B4; refine (implSets _ (el ys (k * 7)) (el ys (k * 7 + 1)) (el ys (k * 7 + 2)) (el ys (k * 7 + 3)) (el ys (k * 7 + 4)) (el ys (k * 7 + 5)) (el ys (k * 7 + 6)) D0.out).mono ?_; rw [show Pl.sets ⟨el ys (k * 7), el ys (k * 7 + 1), el ys (k * 7 + 2), el ys (k * 7 + 3), el ys (k * 7 + 4), el ys (k * 7 + 5), el ys (k * 7 + 6)⟩ = Pl.sets (Pl.inAt ys k) from rfl]; rintro e9 w5 ⟨rfl, k5⟩; have B5 := hide (B4.out.kept0 k5); have K5 := hide (K4.out.trans k5); have O5 := hide (O4.out.keptS k5 (by omega)); clear k5) | (go_at_call 150; refine (implReads _ (el ys (k * 7)) (el ys (k * 7 + 1)) (el ys (k * 7 + 2)) (el ys (k * 7 + 3)) (el ys (k * 7 + 4)) (el ys (k * 7 + 5)) (el ys (k * 7 + 6)) D0.out).mono ?_; rw [show Pl.reads ⟨el ys (k * 7), el ys (k * 7 + 1), el ys (k * 7 + 2), el ys (k * 7 + 3), el ys (k * 7 + 4), el ys (k * 7 + 5), el ys (k * 7 + 6)⟩ = Pl.reads (Pl.inAt ys k) from rfl]; rintro e9 w4 ⟨rfl, kd⟩; have k4 := undrewK kd; have B4 := hide (B3.out.kept0 k4); have K4 := hide (K3.out.trans k4); have O4 := hide (O3.out.keptS k4 (by omega)); clear kd k4))
            go_wp2_with fail
            go_roundg k
            case measure => omega
            case rel => exact ⟨by omega, rfl, by rw [NB.out, Pl.needB_none D0.out F0.out hf], by rw [← DS.out]; exact O5.out, K5.out, by have := B5.out.lt; have := HS.out; omega⟩
          · go_wp2_with (first | (go_at_call 148; refine (areDeadI _ (el ys (k * 7)) (el ys (k * 7 + 1)) (el ys (k * 7 + 2)) (el ys (k * 7 + 3)) (el ys (k * 7 + 4)) (el ys (k * 7 + 5)) (el ys (k * 7 + 6)) N D0.out).mono ?_; rw [show Pl.deadB ⟨el ys (k * 7), el ys (k * 7 + 1), el ys (k * 7 + 2), el ys (k * 7 + 3), el ys (k * 7 + 4), el ys (k * 7 + 5), el ys (k * 7 + 6)⟩ N = Pl.deadB (Pl.inAt ys k) N from rfl, ← HDD.out]; rintro e9 w2 ⟨rfl, k2⟩; have B2 := hide (B0.out.kept0 k2); have K2 := hide ((kept_new HK.out _).trans k2); have p2 := B2.out.all; have O2 := hide (HO.out.keptS ((kept_alloc wr _).trans k2) (by omega)); obtain ⟨hc2, hf2⟩ := O2.out k (by rw [Pl.deads_len]; omega); have q3 := (B2.out.other w.heap.size k (.bool DD) hne).all; have s2 : wr.heap.size < w2.heap.size := B2.out.lt; clear k2) | (go_at_call 149; refine (implMayF _ (el ys (k * 7)) (el ys (k * 7 + 1)) (el ys (k * 7 + 2)) (el ys (k * 7 + 3)) (el ys (k * 7 + 4)) (el ys (k * 7 + 5)) (el ys (k * 7 + 6)) D0.out).mono ?_; rw [show Pl.mayF ⟨el ys (k * 7), el ys (k * 7 + 1), el ys (k * 7 + 2), el ys (k * 7 + 3), el ys (k * 7 + 4), el ys (k * 7 + 5), el ys (k * 7 + 6)⟩ = Pl.mayF (Pl.inAt ys k) from rfl, hf]; rintro e9 w3 ⟨rfl, k3⟩; have O3 := hide ((O2.out.set DD).keptS k3 (by omega)); have B3 := hide ((B2.out.other w.heap.size k (.bool DD) hne).kept0 k3); have K3 := hide ((kept_set K2.out _ _ _ (.inr (Nat.le_refl _))).trans k3); have SZ3 : w.heap.size < w3.heap.size := (by have := B3.out.lt; have := HS.out; omega); clear k3))
            go_roundg k
            case measure => omega
            case rel => exact ⟨by omega, rfl, .inr (by rw [NB.out, Pl.needB_fault D0.out F0.out hf]), by rw [← DS.out]; exact O3.out, K3.out, SZ3⟩
end Go.Proofs.YtnkapmchfneolaaGreat

namespace Go.Proofs.YtnkapmchfneolaaGreat
open Go.RowKit
set_option linter.unusedVariables false

theorem isOdd (a : Int) (w : World) (h0 : 0 ≤ a) (h1 : a ≤ 65535) : Calls Tryz.prog 94 #[iv a] w fun e w' => e = .returned (.bool (decide (a % 2 = 1))) ∧ w' = w := by
  go_enter Tryz.func94, Tryz.ntmps94
  go_wp2
  go_ret
  refine ⟨rB ?_, rfl⟩
  rw [Bool.eq_iff_iff]
  simp
  omega
namespace Pl
end Pl
end Go.Proofs.YtnkapmchfneolaaGreat

namespace Go.Proofs.YtnkapmchfneolaaGreat
open Go.RowKit
set_option linter.unusedVariables false
set_option linter.unusedSimpArgs false
set_option maxHeartbeats 2000000 in
theorem instrOf (w : World) (f t : Int) (a : Option Addr) (ca n : Nat) (ys ts : List Int) (sk : List Bool) (ha : MRow w a n ys ts sk) (ly : ys.length = 7 * n) (bx : n ≤ 2000000) :
    Calls Tryz.prog 76 #[.agg #[iv f, iv t, .slice a n ca]] w fun e w' => e = .returned (.slice (some ⟨w.heap.size + 1, 0, none⟩) n n) ∧ Own w' (w.heap.size + 1) ys ∧ w.heap.size + 1 < w'.heap.size ∧ Kept 0 0 w w' := by
  obtain ⟨i, hi, hz0, hz1, hz2⟩ := info_parts Tryz.infoIns
  have K0 := hide (kept_alloc w (.cells #[iv f, iv t, .slice a n ca] 35))
  have B0 := hide (Blk.new w #[iv f, iv t, .slice a n ca] 35)
  have HA := hide ha
  have HX := hide ly
  clear ha ly
  go_enter Tryz.func76, Tryz.ntmps76
  go_wp2_with (first | (at_make; refine wpList_make_full _ rfl _ _ 81 rfl (w.heap.size + 1) 87 i (.agg #[.int .i64 0, .int .i64 0, .int .i64 0, .int .i64 0, .int .i64 0, .int .i64 0, .int .i64 0]) 7 Tryz.underlying81 hi hz0 hz1 _ _ _ _ n rfl rfl rfl rfl ?c1 ?c2 ?c3 ?_))
  case c1 => rw [hz2]; omega
  case c2 => unfold maxLen; omega
  case c3 => simp
  intro w1 hown hg
  have ho : Own w1 (w.heap.size + 1) (List.replicate (7 * n) 0) := own_of_row7 (base := w.heap.size + 1) (n := n) (cap := n) (by rw [← made7]; exact hown)
  have hs : w.heap.size + 1 < w1.heap.size := (hown.lt _ rfl).2
  have hk1 : Kept 0 0 w w1 := K0.out.trans (kept_grown hg)
  have B1 := hide (B0.out.kept0 (kept_grown hg))
  have p1 := B1.out.all
  clear hown hg
  go_wp2_with fail
  go_loopw [13] (fun j wr => ∃ (k : Nat) (zs : List Int), k ≤ n ∧ j = .int .i64 k ∧ zs.length = 7 * n ∧ Own wr (w.heap.size + 1) zs ∧ (∀ i, i < k * 7 → el zs i = el ys i) ∧ w.heap.size + 1 < wr.heap.size ∧ Kept 0 0 w wr) (fun j _ => n - (intOf j).toNat)
  case atStart => exact ⟨0, _, Nat.zero_le _, rfl, by simp, ho, fun i hi => absurd hi (by omega), hs, hk1⟩
  case round =>
    obtain ⟨k, zs, hk, rfl, hl, hown, heq, hsz, hgr⟩ := hrel
    have HE := hide heq
    have HL := hide hl
    have HO := hide hown
    have HS := hide hsz
    have HK := hide hgr
    clear heq hl hsz hgr ho hs hk1 p1
    by_cases hlt : k < n
    · obtain ⟨g1, off1, rfl, q0, q1, q2, q3, q4, q5, q6, q7, q8⟩ := (HA.out.keptS HK.out).at9 hlt
      have hk7 : k * 7 + 6 < zs.length := by have := HL.out; omega
      have O2 := hide (HO.out.keptS (kept_alloc wr (.cells #[iv (el ys (k * 7)), iv (el ys (k * 7 + 1)), iv (el ys (k * 7 + 2)), iv (el ys (k * 7 + 3)), iv (el ys (k * 7 + 4)), iv (el ys (k * 7 + 5)), iv (el ys (k * 7 + 6)), iv (el ts k), .bool (bl sk k)] 89)) (by omega))
      obtain ⟨⟨c0, c1, c2, c3, c4, c5, c6⟩, f0, f1, f2, f3, f4, f5, f6⟩ := O2.out.at7 HL.out hlt
      clear hown
      go_wp2_with fail
      go_roundw
      case rel =>
        obtain ⟨n0, n1, n2, n3, n4, n5, n6⟩ := set7_new (a := el ys (k * 7)) (b := el ys (k * 7 + 1)) (c := el ys (k * 7 + 2)) (d := el ys (k * 7 + 3)) (e := el ys (k * 7 + 4)) (f := el ys (k * 7 + 5)) (x := el ys (k * 7 + 6)) hk7
        exact ⟨k + 1, set7 zs k _ _ _ _ _ _ _, by omega, by go_num, by rw [set7_len]; exact HL.out, O2.out.set7 k _ _ _ _ _ _ _, snoc7 (fun i hi => (set7_old hi).trans (HE.out i hi)) n0 n1 n2 n3 n4 n5 n6, by have := HS.out; simp; omega, (kept_set (kept_set (kept_set (kept_set (kept_set (kept_set (kept_set (kept_new HK.out _) _ _ _ (.inr (by omega))) _ _ _ (.inr (by omega))) _ _ _ (.inr (by omega))) _ _ _ (.inr (by omega))) _ _ _ (.inr (by omega))) _ _ _ (.inr (by omega))) _ _ _ (.inr (by omega)))⟩
      case measure => simp [intOf]; omega
    · clear hown
      go_wp2
      go_ret
      have e : zs = ys := ext_of (HL.out.trans HX.out.symm) (fun i hi => HE.out i (by have := HL.out; omega))
      exact ⟨rfl, by rw [← e]; exact HO.out, HS.out, HK.out⟩
theorem isCodePlace (w : World) (q : Int) : Calls Tryz.prog 77 #[iv q] w fun e w' => e = .returned (.bool (decide (0 ≤ q) && (decide (q ≤ 512) && (q % 2 == 0)))) ∧ w' = w := by
  cases h0 : decide ((0 : Int) ≤ q)
  · go_enter Tryz.func77, Tryz.ntmps77
    go_wp2_with fail
    go_ret
    exact ⟨rB (by simp), rfl⟩
  · cases h1 : decide (q ≤ 512)
    · go_enter Tryz.func77, Tryz.ntmps77
      go_wp2_with fail
      go_ret
      exact ⟨rB (by simp), rfl⟩
    · have q0 : 0 ≤ q := by simpa using h0
      have q1 : q ≤ 512 := by simpa using h1
      cases h2 : decide (q % 2 = 1)
      all_goals
        go_enter Tryz.func77, Tryz.ntmps77
        go_wp2_with (first | (go_at_call 94; refine (isOdd _ _ q0 (by omega)).mono ?_; rintro e w' ⟨rfl, hw9⟩; have hw8 := hw9.symm; clear hw9; subst hw8; rw [h2]))
        go_ret
        exact ⟨rB (by simp at h2 ⊢; omega), rfl⟩
set_option maxRecDepth 20000 in
set_option maxHeartbeats 4000000 in
theorem implPart (w : World) (a : Option Addr) (ca n : Nat) (ys : List Int) (ha : Came w a ys) (ly : ys.length = 7 * n) (n1 : 1 ≤ n) (hn : n ≤ 2000000) (hc : n ≤ ca) (hok : Pl.inOk (Pl.inAt ys (n - 1)) = true) :
    Calls Tryz.prog 97 #[.slice a n ca] w fun e w' => e = .returned (.slice a (Pl.headN ys n) ca) ∧ Kept 0 0 w w' := by
  have HA := hide ha
  have HY := hide ly
  obtain ⟨m, rfl⟩ : ∃ m, n = m + 1 := ⟨n - 1, by omega⟩
  rw [Nat.add_sub_cancel] at hok
  obtain ⟨g1, off1, rfl, p0, p1, p2, p3, p4, p5, p6⟩ := HA.out.1.at7 HY.out (show m < m + 1 by omega)
  clear ha ly
  cases hs : Pl.straight (Pl.inAt ys m)
  · have hh : Hid (Pl.headN ys (m + 1) = m) := hide (by unfold Pl.headN; rw [Nat.add_sub_cancel, hs]; simp)
    go_enter Tryz.func97, Tryz.ntmps97
    go_wp2_with (first | (go_at_call 128; refine (implStr _ (el ys (m * 7)) (el ys (m * 7 + 1)) (el ys (m * 7 + 2)) (el ys (m * 7 + 3)) (el ys (m * 7 + 4)) (el ys (m * 7 + 5)) (el ys (m * 7 + 6)) (Pl.inD_of hok)).mono ?_; rw [show Pl.straight ⟨el ys (m * 7), el ys (m * 7 + 1), el ys (m * 7 + 2), el ys (m * 7 + 3), el ys (m * 7 + 4), el ys (m * 7 + 5), el ys (m * 7 + 6)⟩ = Pl.straight (Pl.inAt ys m) from rfl, hs]; rintro e9 w5 ⟨rfl, k5⟩; have K5 := hide ((Kept.refl 0 0 w).trans k5); clear k5))
    go_ret
    exact ⟨by rw [hh.out]; rfl, K5.out⟩
  · have hh : Hid (Pl.headN ys (m + 1) = m + 1) := hide (by unfold Pl.headN; rw [Nat.add_sub_cancel, hs]; simp)
    go_enter Tryz.func97, Tryz.ntmps97
    go_wp2_with (first | (go_at_call 128; refine (implStr _ (el ys (m * 7)) (el ys (m * 7 + 1)) (el ys (m * 7 + 2)) (el ys (m * 7 + 3)) (el ys (m * 7 + 4)) (el ys (m * 7 + 5)) (el ys (m * 7 + 6)) (Pl.inD_of hok)).mono ?_; rw [show Pl.straight ⟨el ys (m * 7), el ys (m * 7 + 1), el ys (m * 7 + 2), el ys (m * 7 + 3), el ys (m * 7 + 4), el ys (m * 7 + 5), el ys (m * 7 + 6)⟩ = Pl.straight (Pl.inAt ys m) from rfl, hs]; rintro e9 w5 ⟨rfl, k5⟩; have K5 := hide ((Kept.refl 0 0 w).trans k5); clear k5))
    go_ret
    exact ⟨by rw [hh.out]; rfl, K5.out⟩
theorem Came.take {w : World} {a : Option Addr} {xs : List Int} (h : Came w a xs) (m : Nat) : Came w a (xs.take m) := by
  refine ⟨?_, ?_⟩
  · intro i hi
    have hi2 : i < m ∧ i < xs.length := by rw [List.length_take] at hi; omega
    obtain ⟨g, o, e, c⟩ := h.1 i hi2.2
    refine ⟨g, o, e, ?_⟩
    rw [List.getElem?_take, if_pos hi2.1]
    exact c
  · intro i hi
    have hi2 : i < m ∧ i < xs.length := by rw [List.length_take] at hi; omega
    rw [List.getElem?_take, if_pos hi2.1]
    exact h.2 i hi2.2
/-- a block's row of instructions, as the program tells it -/
def Pl.blockOk (ys : List Int) (n : Nat) : Bool := decide (1 ≤ n) && (decide (n ≤ 8) && (Pl.inOk (Pl.inAt ys (n - 1)) && Pl.rowS ys (Pl.headN ys n)))
theorem head_row {ys : List Int} {n m : Nat} (hl : ys.length = 7 * n) (hm : m ≤ n) : (ys.take (7 * m)).length = 7 * m ∧ Pl.rowS (ys.take (7 * m)) m = Pl.rowS ys m ∧ Pl.deads (ys.take (7 * m)) m m = Pl.deads ys m m :=
  ⟨by rw [List.length_take]; omega, Pl.rowS_eq fun k hk => Pl.inAt_take hk, Pl.deads_of fun k hk => Pl.inAt_take hk⟩
set_option maxRecDepth 20000 in
set_option maxHeartbeats 4000000 in
theorem implBlock (w : World) (a : Option Addr) (ca n : Nat) (ys : List Int) (ha : Came w a ys) (ly : ys.length = 7 * n) (hn : n ≤ 2000000) (hc : n ≤ ca) :
    Calls Tryz.prog 78 #[.slice a n ca] w fun e w' => e = .returned (.bool (Pl.blockOk ys n)) ∧ Kept 0 0 w w' := by
  have HA := hide ha
  have HY := hide ly
  clear ha ly
  rcases Nat.eq_zero_or_pos n with h0 | h0
  · subst h0
    go_enter Tryz.func78, Tryz.ntmps78
    go_wp2_with fail
    go_ret
    exact ⟨rB (by simp [Pl.blockOk]), Kept.refl _ _ _⟩
  · by_cases h8 : n ≤ 8
    · obtain ⟨m, rfl⟩ : ∃ m, n = m + 1 := ⟨n - 1, by omega⟩
      obtain ⟨g1, off1, rfl, p0, p1, p2, p3, p4, p5, p6⟩ := HA.out.1.at7 HY.out (show m < m + 1 by omega)
      have hyl := HY.out
      have wa0 : (Lit.int .i64 (el ys (m * 7))).wf = true := wfAt HA.out.2 (by omega)
      have wa1 : (Lit.int .i64 (el ys (m * 7 + 1))).wf = true := wfAt HA.out.2 (by omega)
      have wa2 : (Lit.int .i64 (el ys (m * 7 + 2))).wf = true := wfAt HA.out.2 (by omega)
      have wa3 : (Lit.int .i64 (el ys (m * 7 + 3))).wf = true := wfAt HA.out.2 (by omega)
      have wa4 : (Lit.int .i64 (el ys (m * 7 + 4))).wf = true := wfAt HA.out.2 (by omega)
      have wa5 : (Lit.int .i64 (el ys (m * 7 + 5))).wf = true := wfAt HA.out.2 (by omega)
      have wa6 : (Lit.int .i64 (el ys (m * 7 + 6))).wf = true := wfAt HA.out.2 (by omega)
      have hh := Pl.headN_le ys (m + 1)
      obtain ⟨l1, l2, l3⟩ := head_row hyl hh
      have L1 := hide l1
      have L2 := hide l2
      have m8 : (m : Int) < 8 := by omega
      clear l1 l2 l3 hyl
      cases hb : Pl.inOk (Pl.inAt ys m)
      · go_enter Tryz.func78, Tryz.ntmps78
        go_wp2_with (first | (go_at_call 95; refine (implGoodIns _ (el ys (m * 7)) (el ys (m * 7 + 1)) (el ys (m * 7 + 2)) (el ys (m * 7 + 3)) (el ys (m * 7 + 4)) (el ys (m * 7 + 5)) (el ys (m * 7 + 6)) wa0 wa1 wa2 wa3 wa4 wa5 wa6).mono ?_; rw [show Pl.inOk ⟨el ys (m * 7), el ys (m * 7 + 1), el ys (m * 7 + 2), el ys (m * 7 + 3), el ys (m * 7 + 4), el ys (m * 7 + 5), el ys (m * 7 + 6)⟩ = Pl.inOk (Pl.inAt ys m) from rfl, hb]; rintro e9 w2 ⟨rfl, k2⟩; have K2 := hide k2; clear k2))
        go_ret
        exact ⟨rB (by simp [Pl.blockOk, hb]), K2.out⟩
      · obtain ⟨R, hR⟩ : ∃ R, R = Pl.rowS ys (Pl.headN ys (m + 1)) := ⟨_, rfl⟩
        have RO : Hid (Pl.rowOk (ys.take (7 * Pl.headN ys (m + 1))) (Pl.headN ys (m + 1)) = R) := hide (by unfold Pl.rowOk; rw [L2.out, ← hR]; simp; omega)
        have HR := hide hR
        obtain ⟨J, hJ⟩ : ∃ J, J = Pl.headN ys (m + 1) := ⟨_, rfl⟩
        rw [← hJ] at L1 RO hh
        have HJ := hide hJ
        clear hR hJ
        go_enter Tryz.func78, Tryz.ntmps78
        go_wp2_with (first | (go_at_call 95; refine (implGoodIns _ (el ys (m * 7)) (el ys (m * 7 + 1)) (el ys (m * 7 + 2)) (el ys (m * 7 + 3)) (el ys (m * 7 + 4)) (el ys (m * 7 + 5)) (el ys (m * 7 + 6)) wa0 wa1 wa2 wa3 wa4 wa5 wa6).mono ?_; rw [show Pl.inOk ⟨el ys (m * 7), el ys (m * 7 + 1), el ys (m * 7 + 2), el ys (m * 7 + 3), el ys (m * 7 + 4), el ys (m * 7 + 5), el ys (m * 7 + 6)⟩ = Pl.inOk (Pl.inAt ys m) from rfl, hb]; rintro e9 w2 ⟨rfl, k2⟩; have K2 := hide k2; clear k2) | (go_at_call 97; refine (implPart _ _ ca (m + 1) ys (HA.out.keptS K2.out) HY.out (by omega) hn hc hb).mono ?_; rw [← HJ.out]; rintro e9 w4 ⟨rfl, k4⟩; have K4 := hide (K2.out.trans k4); clear k4) | (go_at_call 96; refine (implRow _ _ ca J (ys.take (7 * J)) ((HA.out.keptS K4.out).take _) L1.out (by omega)).mono ?_; rw [RO.out]; rintro e9 w5 ⟨rfl, k5⟩; have K5 := hide (K4.out.trans k5); clear k5))
        go_ret
        exact ⟨rB (by simp only [Pl.blockOk, Nat.add_sub_cancel, hb, ← HR.out]; simp; omega), K5.out⟩
    · have h9 : ¬ ((n : Int) - 1 < 8) := by omega
      have h7 : (0 : Int) ≤ (n : Int) - 1 := by omega
      go_enter Tryz.func78, Tryz.ntmps78
      go_wp2_with fail
      go_ret
      exact ⟨rB (by simp [Pl.blockOk, h8]), Kept.refl _ _ _⟩
end Go.Proofs.YtnkapmchfneolaaGreat

namespace Go.Proofs.YtnkapmchfneolaaGreat
open Go.RowKit
set_option linter.unusedVariables false
set_option linter.unusedSimpArgs false
theorem news_bools {w : World} {g off : Nat} {xs : List Bool} (h : BRow w (some ⟨g, off, none⟩) xs) : ∀ j u, (xs.map Value.bool)[j]? = some u → w.cell? ((⟨g, off, none⟩ : Addr).add j) = some u := by
  intro j u hu
  have hj : j < xs.length := by
    rcases Nat.lt_or_ge j xs.length with h' | h'
    · exact h'
    · rw [List.getElem?_eq_none (by simpa using h')] at hu; cases hu
  obtain ⟨g', off', e, hc⟩ := h j hj
  cases e
  have e : u = .bool (xs[j]?.getD false) := by simpa [hj] using hu.symm
  rw [e]
  by_cases h0 : j = 0
  · subst h0; simpa [Addr.add] using hc
  · simpa [Addr.add, h0] using hc
/-- a row of bools copied over the head of a block of bools -/
theorem copy_bools (W : World) (g dCap sCap : Nat) (sp : Option Addr) (xs zs : List Bool) (hB : BBk W g zs) (hr : BRow W sp xs) (hl : xs.length ≤ zs.length) :
    ∃ W', (Builtin.copy_ #[93, 93] 3 #[.slice (some ⟨g, 0, none⟩) zs.length dCap, .slice sp xs.length sCap]).run Tryz.prog W = .ok (iv xs.length) W' ∧ BBk W' g (xs ++ zs.drop xs.length) ∧ Kept g (g + 1) W W' := by
  have HS : (Tryz.prog.info? 4).map (·.size) = some 1 := by kernel_rfl
  by_cases h0 : xs.length = 0
  · obtain rfl : xs = [] := List.eq_nil_of_length_eq_zero h0
    refine ⟨W, run_copy_none (P := Tryz.prog) W 93 93 3 4 _ _ _ _ _ _ Tryz.underlying93 HS (by simp), ?_, Kept.refl _ _ _⟩
    simpa using hB
  · obtain ⟨ga, oa, rfl, _⟩ := hr 0 (by omega)
    have h := run_copy_row Tryz.prog W 93 93 3 4 g 0 zs.length dCap ⟨ga, oa, none⟩ xs.length sCap (zs.map Value.bool).toArray 4 (xs.map Value.bool) Tryz.underlying93 HS hB (by simp only [List.length_map]; exact (Nat.min_eq_left hl).symm) (news_bools hr) (by simpa using hl) (by intro u hu; obtain ⟨z, _, rfl⟩ := List.mem_map.1 hu; rfl)
    refine ⟨_, by rw [h, List.length_map]; rfl, ?_, ?_⟩
    · have hq := Blk.setRow hB (ds := (List.take 0 (zs.map Value.bool).toArray.toList ++ xs.map Value.bool ++ List.drop (0 + (xs.map Value.bool).length) (zs.map Value.bool).toArray.toList).toArray)
      unfold BBk
      simpa using hq
    · exact ⟨rfl, rfl, rfl, by simp, fun k hk hn => setRow_other W g k _ (by omega)⟩
set_option maxRecDepth 20000 in
set_option maxHeartbeats 4000000 in
theorem implSkips (w : World) (a : Option Addr) (ca n : Nat) (ys : List Int) (ha : Came w a ys) (ly : ys.length = 7 * n) (n1 : 1 ≤ n) (n8 : n ≤ 8) (hc : n ≤ ca) (hok : Pl.inOk (Pl.inAt ys (n - 1)) = true) (hr : Pl.rowS ys (Pl.headN ys n) = true) :
    Calls Tryz.prog 99 #[.slice a n ca] w fun e w' => e = .returned (.slice (some ⟨w.heap.size, 0, none⟩) n n) ∧ BOwn w' w.heap.size (Pl.skV ys n) ∧ w.heap.size < w'.heap.size ∧ Kept 0 0 w w' := by
  have HA := hide ha
  have HY := hide ly
  have hh := Pl.headN_le ys n
  obtain ⟨l1, l2, l3⟩ := head_row ly hh
  obtain ⟨J, hJ⟩ : ∃ J, J = Pl.headN ys n := ⟨_, rfl⟩
  have HJ := hide hJ
  rw [← hJ] at l1 l2 l3 hh hr
  have L1 := hide l1
  have L2 := hide (l2.trans hr)
  have L3 := hide l3
  have mk := mkB n (by omega)
  have B := hide (bbk_newN w n)
  have K := hide (kept_alloc w (.cells (Array.replicate n (.bool false)) 4))
  have S : Hid (w.heap.size < (w.alloc (.cells (Array.replicate n (.bool false)) 4)).heap.size) := hide (by rw [World.size_alloc]; omega)
  have ES : Hid (Pl.deads ys J J ++ (List.replicate n false).drop (Pl.deads ys J J).length = Pl.skV ys n) := hide (by unfold Pl.skV; rw [← hJ, Pl.deads_len, List.drop_replicate])
  clear ha ly l1 l2 l3 hJ hr
  go_enter Tryz.func99, Tryz.ntmps99
  go_wp2_with fail
  clear mk
  generalize w.alloc (.cells (Array.replicate n (.bool false)) 4) = W0 at *
  go_wp2_with (first | (go_at_call 97; refine (implPart _ _ ca n ys (HA.out.keptS K.out) HY.out n1 (by omega) hc hok).mono ?_; rw [← HJ.out]; rintro e9 w4 ⟨rfl, k4⟩; have K4 := hide (K.out.trans k4); have B4 := hide (B.out.keptS k4 (by omega)); have q4 := k4.size; clear k4) | (go_at_call 129; refine (implDeadIn _ _ ca J (ys.take (7 * J)) ((HA.out.keptS K4.out).take _) L1.out (by omega) L2.out).mono ?_; rw [L3.out]; rintro e9 w5 ⟨rfl, o5, k5, s5⟩; have K5 := hide (K4.out.trans k5); have B5 := B4.out.keptS k5 (by omega); obtain ⟨W7, hcp, C7, k7⟩ := copy_bools w5 w.heap.size n J (some ⟨w4.heap.size, 0, none⟩) _ _ B5 o5.row (by rw [Pl.deads_len, List.length_replicate]; omega); rw [Pl.deads_len, List.length_replicate] at hcp; rw [ES.out] at C7; have CC := hide C7; have K7 := hide (kept_over K5.out k7 (by omega)); have S7 : Hid (w.heap.size < W7.heap.size) := hide (by have h1 := S.out; have h2 := k7.size; have h3 := s5; omega); clear o5 k5 s5 B5 C7 k7))
  go_ret
  exact ⟨rfl, CC.out.own, S7.out, K7.out⟩
theorem VOwn.drew {w : World} {g : Nat} {vs : List Value} (h : VOwn w g vs) : VOwn w.drew g vs := h
theorem Blk.drew {w : World} {b : Nat} {cs : Array Value} {ty : TypeId} (h : Blk w b cs ty) : Blk w.drew b cs ty := h
theorem VOwn.head {w : World} {g : Nat} {zs vs : List Value} (h : VOwn w g zs) (hl : vs.length ≤ zs.length) (he : ∀ i, i < vs.length → vl zs i = vl vs i) : VOwn w g vs := by
  intro i hi
  obtain ⟨hc, hf⟩ := h i (by omega)
  exact ⟨by rw [← he i hi]; exact hc, hf⟩
theorem vown_of_blk {w : World} {b : Nat} {cs : Array Value} {ty : TypeId} (h : Blk w b cs ty) : VOwn w b cs.toList := by
  intro i hi
  refine ⟨h.cell (by unfold vl; simp at hi; simp [hi]), h.frozen i⟩
theorem Tryz.zeros8 : Tryz.zeroCells127.size = 72 := by kernel_rfl
set_option maxRecDepth 100000 in
set_option maxHeartbeats 16000000 in
theorem implUnitOf (w : World) (f : Int) (a : Option Addr) (ca n : Nat) (ys ts : List Int) (ha : Came w a ys) (ly : ys.length = 7 * n) (n1 : 1 ≤ n) (n8 : n ≤ 8) (hc : n ≤ ca) (hok : ∀ k, k < n → Pl.inOk (Pl.inAt ys k) = true) (hr : Pl.rowS ys (Pl.headN ys n) = true) (f0 : 0 ≤ f) (f1 : f ≤ 512) (hts : ∀ k, k < n → el ts k = Pl.placeB ys f k) :
    Calls Tryz.prog 80 #[iv f, .slice a n ca] w fun e w' => e = .returned (.agg #[iv f, iv (Pl.placeB ys f n), .slice (some ⟨w.heap.size + 1, 0, none⟩) n n]) ∧ MOwn w' (w.heap.size + 1) n ys ts (Pl.skV ys n) ∧ w.heap.size + 1 < w'.heap.size ∧ Kept 0 0 w w' := by
  have HA := hide ha
  have HY := hide ly
  have HT := hide hts
  have HOK := hide hok
  have K0 := hide (kept_new (kept_alloc w (.cells #[iv 0, iv 0, .slice none 0 0] 35)) (.cells Tryz.zeroCells127 127))
  have U0 := hide ((Blk.new w #[iv 0, iv 0, .slice none 0 0] 35).alloc (.cells Tryz.zeroCells127 127))
  have Z0 := Blk.new (w.alloc (.cells #[iv 0, iv 0, .slice none 0 0] 35)) Tryz.zeroCells127 127
  have S0 : Hid (((w.alloc (.cells #[iv 0, iv 0, .slice none 0 0] 35)).alloc (.cells Tryz.zeroCells127 127)).heap.size = w.heap.size + 1 + 1) := hide (by simp)
  simp only [World.size_alloc] at Z0
  have V0 := vown_of_blk Z0
  have HV0 := hide V0
  obtain ⟨zs0, hz0⟩ : ∃ zs0, zs0 = Tryz.zeroCells127.toList := ⟨_, rfl⟩
  have hzl : Hid (zs0.length = 9 * 8) := hide (by rw [hz0]; simp [Tryz.zeros8])
  rw [← hz0] at HV0
  clear ha ly hok hts Z0 V0 hz0
  go_enter Tryz.func80, Tryz.ntmps80
  go_wp2_with fail
  obtain ⟨W0, hW0⟩ : ∃ W0 : World, W0 = (w.alloc (.cells #[iv 0, iv 0, .slice none 0 0] 35)).alloc (.cells Tryz.zeroCells127 127) := ⟨_, rfl⟩
  rw [← hW0] at K0 U0 HV0 S0 ⊢
  clear hW0
  have s0 := S0.out
  refine (implSkips _ _ ca n ys (HA.out.keptS K0.out) HY.out n1 n8 hc (HOK.out _ (by omega)) hr).mono ?_
  rintro e9 w2 ⟨rfl, o2, s2, k2⟩
  rw [s0]
  rw [s0] at o2
  have K2 := hide (K0.out.trans k2)
  have U2 := hide (U0.out.kept0 k2)
  have V2 := hide (HV0.out.keptS k2 (by omega))
  have O2 := hide o2
  have S2 : Hid (w.heap.size + 1 + 1 < w2.heap.size) := hide (by omega)
  clear o2 s2 k2
  go_wp2_with fail
  go_loopw [7, 15] (fun at_ j wr => ∃ (k : Nat) (zs : List Value), k ≤ n ∧ j = .int .i64 k ∧ at_ = iv (Pl.placeB ys f k) ∧ zs.length = 9 * 8 ∧ VOwn wr (w.heap.size + 1) zs ∧ (∀ i, i < k * 9 → vl zs i = vl (miL ys ts (Pl.skV ys n) n) i) ∧ Kept 0 0 w wr ∧ Kept (w.heap.size + 1) (w.heap.size + 1 + 1) w2 wr) (fun _ j _ => n - (intOf j).toNat)
  case atStart => exact ⟨0, zs0, Nat.zero_le _, rfl, rfl, hzl.out, V2.out, fun i hi => absurd hi (by omega), K2.out, Kept.refl _ _ _⟩
  case round =>
    obtain ⟨k, zs, hk, rfl, rfl, hl, hown, heq, hkept, hk2⟩ := hrel
    have HE := hide heq
    have HL := hide hl
    have HO := hide hown
    have HK := hide hkept
    have HT2 := hide hk2
    clear heq hl hown hkept hk2
    obtain ⟨pl0, pl1⟩ := Pl.placeB_in ys f k
    have hws := HT2.out.size
    have hw2 := S2.out
    by_cases hlt : k < n
    · obtain ⟨g1, off1, rfl, p0, p1, p2, p3, p4, p5, p6⟩ := (HA.out.keptS HK.out).1.at7 HY.out hlt
      have BX := hide (Blk.new wr #[iv (el ys (k * 7)), iv (el ys (k * 7 + 1)), iv (el ys (k * 7 + 2)), iv (el ys (k * 7 + 3)), iv (el ys (k * 7 + 4)), iv (el ys (k * 7 + 5)), iv (el ys (k * 7 + 6))] 87)
      have O3 := hide (O2.out.keptS HT2.out (by omega))
      obtain ⟨hc9, hf9⟩ := (O3.out.keptS (kept_alloc wr (.cells #[iv (el ys (k * 7)), iv (el ys (k * 7 + 1)), iv (el ys (k * 7 + 2)), iv (el ys (k * 7 + 3)), iv (el ys (k * 7 + 4)), iv (el ys (k * 7 + 5)), iv (el ys (k * 7 + 6))] 87)) (by omega)) k (by rw [Pl.skV_len]; omega)
      rw [show (Pl.skV ys n)[k]?.getD false = bl (Pl.skV ys n) k from rfl] at hc9
      have px := BX.out.all
      have V3 := hide (HO.out.keptS (kept_alloc wr (.cells #[iv (el ys (k * 7)), iv (el ys (k * 7 + 1)), iv (el ys (k * 7 + 2)), iv (el ys (k * 7 + 3)), iv (el ys (k * 7 + 4)), iv (el ys (k * 7 + 5)), iv (el ys (k * 7 + 6))] 87)) (by omega))
      obtain ⟨⟨c0, c1, c2, c3, c4, c5, c6, c7, c8⟩, f0', f1', f2', f3', f4', f5', f6', f7', f8'⟩ := V3.out.at9 HL.out (show k < 8 by omega)
      go_wp2_with fail
      go_region_with fail
      all_goals
        obtain ⟨WY, hWY⟩ : ∃ WY : World, WY = ((((((((((wr.alloc (.cells #[iv (el ys (k * 7)), iv (el ys (k * 7 + 1)), iv (el ys (k * 7 + 2)), iv (el ys (k * 7 + 3)), iv (el ys (k * 7 + 4)), iv (el ys (k * 7 + 5)), iv (el ys (k * 7 + 6))] 87)).setCell ⟨w.heap.size + 1, k * 9, none⟩ (iv (el ys (k * 7)))).setCell ⟨w.heap.size + 1, k * 9 + 1, none⟩ (iv (el ys (k * 7 + 1)))).setCell ⟨w.heap.size + 1, k * 9 + 2, none⟩ (iv (el ys (k * 7 + 2)))).setCell ⟨w.heap.size + 1, k * 9 + 3, none⟩ (iv (el ys (k * 7 + 3)))).setCell ⟨w.heap.size + 1, k * 9 + 4, none⟩ (iv (el ys (k * 7 + 4)))).setCell ⟨w.heap.size + 1, k * 9 + 5, none⟩ (iv (el ys (k * 7 + 5)))).setCell ⟨w.heap.size + 1, k * 9 + 6, none⟩ (iv (el ys (k * 7 + 6)))).setCell ⟨w.heap.size + 1, k * 9 + 7, none⟩ (iv (Pl.placeB ys f k))).setCell ⟨w.heap.size + 1, k * 9 + 8, none⟩ (.bool (bl (Pl.skV ys n) k))).drew := ⟨_, rfl⟩
        have V4 : Hid (VOwn WY (w.heap.size + 1) (set9 zs k (iv (el ys (k * 7))) (iv (el ys (k * 7 + 1))) (iv (el ys (k * 7 + 2))) (iv (el ys (k * 7 + 3))) (iv (el ys (k * 7 + 4))) (iv (el ys (k * 7 + 5))) (iv (el ys (k * 7 + 6))) (iv (Pl.placeB ys f k)) (.bool (bl (Pl.skV ys n) k)))) := hide (by rw [hWY]; exact (V3.out.set9 k (iv (el ys (k * 7))) (iv (el ys (k * 7 + 1))) (iv (el ys (k * 7 + 2))) (iv (el ys (k * 7 + 3))) (iv (el ys (k * 7 + 4))) (iv (el ys (k * 7 + 5))) (iv (el ys (k * 7 + 6))) (iv (Pl.placeB ys f k)) (.bool (bl (Pl.skV ys n) k))).drew)
        have K4 : Hid (Kept 0 0 w WY) := hide (by rw [hWY]; exact kept_drew (kept_set (kept_set (kept_set (kept_set (kept_set (kept_set (kept_set (kept_set (kept_set (kept_new HK.out _) _ _ _ (.inr (by omega))) _ _ _ (.inr (by omega))) _ _ _ (.inr (by omega))) _ _ _ (.inr (by omega))) _ _ _ (.inr (by omega))) _ _ _ (.inr (by omega))) _ _ _ (.inr (by omega))) _ _ _ (.inr (by omega))) _ _ _ (.inr (by omega))))
        have T4 : Hid (Kept (w.heap.size + 1) (w.heap.size + 1 + 1) w2 WY) := hide (by rw [hWY]; exact kept_drew (kept_set (kept_set (kept_set (kept_set (kept_set (kept_set (kept_set (kept_set (kept_set (kept_new HT2.out _) _ _ _ (.inl (by omega))) _ _ _ (.inl (by omega))) _ _ _ (.inl (by omega))) _ _ _ (.inl (by omega))) _ _ _ (.inl (by omega))) _ _ _ (.inl (by omega))) _ _ _ (.inl (by omega))) _ _ _ (.inl (by omega))) _ _ _ (.inl (by omega))))
        have X4 : Hid (Blk WY wr.heap.size #[iv (el ys (k * 7)), iv (el ys (k * 7 + 1)), iv (el ys (k * 7 + 2)), iv (el ys (k * 7 + 3)), iv (el ys (k * 7 + 4)), iv (el ys (k * 7 + 5)), iv (el ys (k * 7 + 6))] 87) := hide (by rw [hWY]; exact ((((((((((BX.out.other _ _ _ (by omega)).other _ _ _ (by omega)).other _ _ _ (by omega)).other _ _ _ (by omega)).other _ _ _ (by omega)).other _ _ _ (by omega)).other _ _ _ (by omega)).other _ _ _ (by omega)).other _ _ _ (by omega))).drew)
        rw [← hWY]
        have hlk := HOK.out k hlt
        have hlm := Pl.modeR hlk
        have wm : (Lit.int .i64 (el ys (k * 7 + 3))).wf = true := wfSm (by have h1 : 0 ≤ el ys (k * 7 + 3) := hlm.2.2.2.2.2.1; omega) (by have h1 : el ys (k * 7 + 3) ≤ 7 := hlm.2.2.2.2.2.2.1; omega)
        have hL0 : (if Pl.lng (el ys (k * 7 + 3)) = true then (2 : Int) else 1) = Pl.lenB (Pl.inAt ys k) := by
          rw [show Pl.lng (el ys (k * 7 + 3)) = Pl.extM (Pl.inAt ys k).m from by
            unfold Pl.lng
            rw [show Pl.modeOk (el ys (k * 7 + 3)) = true from by
              have h1 : 0 ≤ (Pl.inAt ys k).m := hlm.2.2.2.2.2.1
              have h2 : (Pl.inAt ys k).m ≤ 7 := hlm.2.2.2.2.2.2.1
              have h3 : (Pl.inAt ys k).m = el ys (k * 7 + 3) := rfl
              simp [Pl.modeOk, Pl.within]; omega]
            rfl]
          rfl
        have hL2 := Pl.lenB_in (Pl.inAt ys k)
        have hP : Pl.placeB ys f (k + 1) = Pl.placeB ys f k + 2 * Pl.lenB (Pl.inAt ys k) := rfl
        obtain ⟨L, hL⟩ : ∃ L, L = Pl.lenB (Pl.inAt ys k) := ⟨_, rfl⟩
        rw [← hL] at hL0 hL2 hP
        have HL0 := hide hL0
        have HP := hide hP
        have px := X4.out.all
        clear hWY c0 c1 c2 c3 c4 c5 c6 c7 c8 f0' f1' f2' f3' f4' f5' f6' f7' f8' p0 p1 p2 p3 p4 p5 p6 hc9 hf9 hlk hlm hL hL0 hP
        go_wp2_with (first | (go_at_call 100; refine (lengthOf _ (el ys (k * 7)) (el ys (k * 7 + 1)) (el ys (k * 7 + 2)) (el ys (k * 7 + 3)) (el ys (k * 7 + 4)) (el ys (k * 7 + 5)) (el ys (k * 7 + 6)) wm).mono ?_; rw [HL0.out]; rintro e9 w6 ⟨rfl, k6⟩; have V6 := hide (V4.out.keptS k6 (by omega)); have K6 := hide (K4.out.trans k6); have T6 := hide (T4.out.trans k6.any); clear k6))
        go_roundw
        case rel =>
          have hk9 : k * 9 + 8 < zs.length := by have := HL.out; omega
          obtain ⟨n0, n1, n2, n3, n4, n5, n6, n7, n8⟩ := set9_new (a := iv (el ys (k * 7))) (b := iv (el ys (k * 7 + 1))) (c := iv (el ys (k * 7 + 2))) (d := iv (el ys (k * 7 + 3))) (e := iv (el ys (k * 7 + 4))) (f := iv (el ys (k * 7 + 5))) (x := iv (el ys (k * 7 + 6))) (t := iv (Pl.placeB ys f k)) (q := .bool (bl (Pl.skV ys n) k)) hk9
          obtain ⟨m7, m8, m9⟩ := miL_at ys ts (Pl.skV ys n) hlt
          rw [HT.out k hlt] at m8
          exact ⟨k + 1, set9 zs k _ _ _ _ _ _ _ _ _, by omega, by go_num, by rw [HP.out]; go_num, by rw [set9_len]; exact HL.out, V6.out, snoc9 (fun i hi => (set9_old hi).trans (HE.out i hi)) (n0.trans (m7 0 (by decide)).symm) (n1.trans (m7 1 (by decide)).symm) (n2.trans (m7 2 (by decide)).symm) (n3.trans (m7 3 (by decide)).symm) (n4.trans (m7 4 (by decide)).symm) (n5.trans (m7 5 (by decide)).symm) (n6.trans (m7 6 (by decide)).symm) (n7.trans m8.symm) (n8.trans m9.symm), K6.out, T6.out⟩
        case measure => simp [intOf]; omega
    · obtain rfl : k = n := by omega
      have U9 := hide (U2.out.kept HT2.out (by omega))
      have pu := U9.out.all
      have fu := U9.out.fz
      have M9 : MOwn wr (w.heap.size + 1) k ys ts (Pl.skV ys k) := HO.out.head (by rw [miL_len, HL.out]; omega) (fun i hi => HE.out i (by rw [miL_len] at hi; omega))
      have HM := hide M9
      have hsz := HK.out.size
      have n8i : (k : Int) ≤ 8 := by omega
      clear M9
      go_wp2_with fail
      refine bodyPost_ret (v := .agg #[iv f, iv (Pl.placeB ys f k), .slice (some ⟨w.heap.size + 1, 0, none⟩) k k]) ?_ rfl ⟨rfl, ?_, ?_, ?_⟩
      · rw [results_one rfl]; go_simp
      · exact ((VOwn.setOther HM.out _ _ _ (by omega)).setOther _ _ _ (by omega)).setOther _ _ _ (by omega)
      · simp only [World.size_setCell]; omega
      · exact (kept_set (kept_set (kept_set HK.out _ _ _ (.inr (by omega))) _ _ _ (.inr (by omega))) _ _ _ (.inr (by omega)))
end Go.Proofs.YtnkapmchfneolaaGreat

