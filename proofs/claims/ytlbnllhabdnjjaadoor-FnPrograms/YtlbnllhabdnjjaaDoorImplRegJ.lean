/- What the program's NeedsExt answers, for every argument. -/
import Derived.Test.YtlbnllhabdnjjaaDoorImplOp
import Derived.Test.YtlbnllhabdnjjaaDoorImplRegI
import Derived.BigQuiet
import Derived.Deep.QuietTactic
namespace Go.Proofs.YtlbnllhabdnjjaaDoor
open Go.RowKit
set_option linter.unusedVariables false
theorem implNeedsExt (w : World) (m : Int) (wfm : (Lit.int .i64 m).wf = true) :
    Calls Tryd.prog 69 #[.int .i64 m] w fun r w' => r = .returned (.tuple #[.bool (Pl.modeOk m && Pl.extM m), .bool (Pl.modeOk m)]) ∧ Kept 0 0 w w' := by
  cases h : Pl.modeOk m
  · go_enter Tryd.func69, Tryd.ntmps69
    go_wp2_with (first | (go_at_call 61; refine (wayOfNo m 0 0 _ h).mono ?_; rintro r w1 ⟨rfl, k1⟩))
    go_quiet (fail)
    go_wp2_with fail
    go_ret2
    exact ⟨by simp, kept_drewN k1 _⟩
  · rcases modes h with rfl | rfl | rfl | rfl | rfl | rfl | rfl | rfl
    · go_enter Tryd.func69, Tryd.ntmps69
      go_wp2_with (first | (go_at_call 61; refine (wayOf0 0 0 _).mono ?_; rintro r w1 ⟨rfl, k1⟩))
      go_quiet (first | (go_at_call 76; exact Calls.quiet_of_same (hasExt0 _ _)) | fail)
      go_wp2_with fail
      go_ret2
      exact ⟨rfl, kept_drewN k1 _⟩
    · go_enter Tryd.func69, Tryd.ntmps69
      go_wp2_with (first | (go_at_call 61; refine (wayOf1 0 0 _).mono ?_; rintro r w1 ⟨rfl, k1⟩))
      go_quiet (first | (go_at_call 76; exact Calls.quiet_of_same (hasExt1 _ _)) | fail)
      go_wp2_with fail
      go_ret2
      exact ⟨rfl, kept_drewN k1 _⟩
    · go_enter Tryd.func69, Tryd.ntmps69
      go_wp2_with (first | (go_at_call 61; refine (wayOf2 0 0 _).mono ?_; rintro r w1 ⟨rfl, k1⟩))
      go_quiet (first | (go_at_call 76; exact Calls.quiet_of_same (hasExt2 _ _)) | fail)
      go_wp2_with fail
      go_ret2
      exact ⟨rfl, kept_drewN k1 _⟩
    · go_enter Tryd.func69, Tryd.ntmps69
      go_wp2_with (first | (go_at_call 61; refine (wayOf3 0 0 _).mono ?_; rintro r w1 ⟨rfl, k1⟩))
      go_quiet (first | (go_at_call 76; exact Calls.quiet_of_same (hasExt3 _ _)) | fail)
      go_wp2_with fail
      go_ret2
      exact ⟨rfl, kept_drewN k1 _⟩
    · go_enter Tryd.func69, Tryd.ntmps69
      go_wp2_with (first | (go_at_call 61; refine (wayOf4 0 0 _).mono ?_; rintro r w1 ⟨rfl, k1⟩))
      go_quiet (first | (go_at_call 76; exact Calls.quiet_of_same (hasExt4 _ _)) | fail)
      go_wp2_with fail
      go_ret2
      exact ⟨rfl, kept_drewN k1 _⟩
    · go_enter Tryd.func69, Tryd.ntmps69
      go_wp2_with (first | (go_at_call 61; refine (wayOf5 0 0 _).mono ?_; rintro r w1 ⟨rfl, k1⟩))
      go_quiet (first | (go_at_call 76; exact Calls.quiet_of_same (hasExt5 _ _)) | fail)
      go_wp2_with fail
      go_ret2
      exact ⟨rfl, kept_drewN k1 _⟩
    · go_enter Tryd.func69, Tryd.ntmps69
      go_wp2_with (first | (go_at_call 61; refine (wayOf6 0 0 _).mono ?_; rintro r w1 ⟨rfl, k1⟩))
      go_quiet (first | (go_at_call 76; exact Calls.quiet_of_same (hasExt6 _ _)) | fail)
      go_wp2_with fail
      go_ret2
      exact ⟨rfl, kept_drewN k1 _⟩
    · go_enter Tryd.func69, Tryd.ntmps69
      go_wp2_with (first | (go_at_call 61; refine (wayOf7 0 0 _).mono ?_; rintro r w1 ⟨rfl, k1⟩))
      go_quiet (first | (go_at_call 76; exact Calls.quiet_of_same (hasExt7 _ _)) | fail)
      go_wp2_with fail
      go_ret2
      exact ⟨rfl, kept_drewN k1 _⟩
end Go.Proofs.YtlbnllhabdnjjaaDoor
