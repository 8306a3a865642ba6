/- What the program's small functions of chapter 7 answer: tests of modes, the first word, the instruction of two words. -/
import Derived.Test.YtlbnllhabdnjjaaDoorInsFit
import Derived.Test.YtlbnllhabdnjjaaDoorImplRegJ
import Derived.Test.YtlbnllhabdnjjaaDoorImplWrap
import Derived.Test.YtlbnllhabdnjjaaDoorRegFrame
namespace Go.Proofs.YtlbnllhabdnjjaaDoor
open Go.RowKit
set_option linter.unusedVariables false
theorem isMem (m : Int) (w : World) : Calls Tryd.prog 74 #[.int .i64 m] w fun e w' => e = .returned (.bool (Pl.memM m)) ∧ w' = w := by
  by_cases h0 : 2 ≤ m
  · by_cases h1 : m ≤ 6
    · go_enter Tryd.func74, Tryd.ntmps74
      go_wp2
      go_ret
      exact ⟨rB (by simp [Pl.memM, Pl.within, h0, h1]), rfl⟩
    · go_enter Tryd.func74, Tryd.ntmps74
      go_wp2
      go_ret
      exact ⟨rB (by simp [Pl.memM, Pl.within, h0]; omega), rfl⟩
  · go_enter Tryd.func74, Tryd.ntmps74
    go_wp2
    go_ret
    exact ⟨rB (by simp [Pl.memM, Pl.within]; omega), rfl⟩
theorem canTake (m : Int) (w : World) : Calls Tryd.prog 65 #[.int .i64 m] w fun e w' => e = .returned (.bool ((m == 0) || Pl.memM m)) ∧ w' = w := by
  cases h0 : (m == 0)
  · go_enter Tryd.func65, Tryd.ntmps65
    go_wp2_with (go_at_call 74; refine (isMem _ _).mono ?_; rintro e w' ⟨rfl, hw⟩; have hw2 := hw.symm; clear hw; subst hw2)
    go_ret
    exact ⟨rB (by simp), rfl⟩
  · go_enter Tryd.func65, Tryd.ntmps65
    go_wp2
    go_ret
    exact ⟨rB (by simp), rfl⟩
theorem isPlain (m : Int) (w : World) : Calls Tryd.prog 66 #[.int .i64 m] w fun e w' => e = .returned (.bool (Pl.plainM m)) ∧ w' = w := by
  unfold Pl.plainM
  cases h0 : (m == 2) <;> cases h1 : (m == 5) <;> cases h2 : (m == 6) <;> (
    go_enter Tryd.func66, Tryd.ntmps66
    go_wp2
    go_ret
    exact ⟨rB (by simp), rfl⟩)
theorem okv17 (v : Int) : Pl.okv 1 v = Pl.within v 0 255 := by
  unfold Pl.okv Pl.within Pl.top
  rw [Bool.eq_iff_iff]; simp; omega
theorem isByte7 (v : Int) (w : World) (lo : -9223372036854775808 ≤ v) (hi : v ≤ 9223372036854775807) :
    Calls Tryd.prog 64 #[.int .i64 v] w fun e w' => e = .returned (.bool (Pl.within v 0 255)) ∧ w' = w := by
  go_enter Tryd.func64, Tryd.ntmps64
  go_wp2_with (go_at_call 73; refine (signedOf _ _ _ lo hi).mono ?_; rintro e w' ⟨rfl, hw⟩; have hw2 := hw.symm; clear hw; subst hw2; rw [okv17])
  go_ret
  exact ⟨rfl, rfl⟩
/-- whether an instruction of this mode has two words -/
def Pl.lng (m : Int) : Bool := Pl.modeOk m && Pl.extM m
theorem isLong (w : World) (op z r m k e s : Int) (wfm : (Lit.int .i64 m).wf = true) : Calls Tryd.prog 43 #[.agg #[.int .i64 op, .int .i64 z, .int .i64 r, .int .i64 m, .int .i64 k, .int .i64 e, .int .i64 s]] w fun r' w' => r' = .returned (.bool (Pl.lng m)) ∧ Kept 0 0 w w' := by
  have K0 := hide (kept_alloc w (.cells #[.int .i64 op, .int .i64 z, .int .i64 r, .int .i64 m, .int .i64 k, .int .i64 e, .int .i64 s] 36))
  go_enter Tryd.func43, Tryd.ntmps43
  go_wp2_with (go_at_call 69; refine (implNeedsExt _ m wfm).mono ?_; rintro e' w2 ⟨rfl, k2⟩)
  go_ret
  exact ⟨rfl, K0.out.trans k2⟩
theorem lengthOf (w : World) (op z r m k e s : Int) (wfm : (Lit.int .i64 m).wf = true) : Calls Tryd.prog 71 #[.agg #[.int .i64 op, .int .i64 z, .int .i64 r, .int .i64 m, .int .i64 k, .int .i64 e, .int .i64 s]] w fun r' w' => r' = .returned (.int .i64 (if Pl.lng m = true then 2 else 1)) ∧ Kept 0 0 w w' := by
  have K0 := hide (kept_alloc w (.cells #[.int .i64 op, .int .i64 z, .int .i64 r, .int .i64 m, .int .i64 k, .int .i64 e, .int .i64 s] 36))
  cases h : Pl.lng m
  · go_enter Tryd.func71, Tryd.ntmps71
    go_wp2_with (go_at_call 43; refine (isLong _ op z r m k e s wfm).mono ?_; rintro e' w2 ⟨rfl, k2⟩; rw [h])
    go_ret
    exact ⟨rfl, K0.out.trans k2⟩
  · go_enter Tryd.func71, Tryd.ntmps71
    go_wp2_with (go_at_call 43; refine (isLong _ op z r m k e s wfm).mono ?_; rintro e' w2 ⟨rfl, k2⟩; rw [h])
    go_ret
    exact ⟨rfl, K0.out.trans k2⟩
theorem namesStatus (w : World) (op z r m k e s : Int) : Calls Tryd.prog 75 #[.agg #[.int .i64 op, .int .i64 z, .int .i64 r, .int .i64 m, .int .i64 k, .int .i64 e, .int .i64 s]] w fun r' w' => r' = .returned (.bool ((r == 0) && Pl.nowO m e)) ∧ Kept 0 0 w w' := by
  have K0 := hide (kept_alloc w (.cells #[.int .i64 op, .int .i64 z, .int .i64 r, .int .i64 m, .int .i64 k, .int .i64 e, .int .i64 s] 36))
  unfold Pl.nowO
  cases h0 : (r == 0) <;> cases h1 : (m == 7) <;> cases h2 : decide (e ≤ 1023) <;> (
    go_enter Tryd.func75, Tryd.ntmps75
    go_wp2
    go_ret
    exact ⟨rB (by simp), K0.out⟩)
theorem fitsSize (w : World) (op z r m k e s : Int) (wfe : (Lit.int .i64 e).wf = true) : Calls Tryd.prog 41 #[.agg #[.int .i64 op, .int .i64 z, .int .i64 r, .int .i64 m, .int .i64 k, .int .i64 e, .int .i64 s]] w fun r' w' => r' = .returned (.bool (Pl.fitZ ⟨op, z, r, m, k, e, s⟩)) ∧ Kept 0 0 w w' := by
  have K0 := hide (kept_alloc w (.cells #[.int .i64 op, .int .i64 z, .int .i64 r, .int .i64 m, .int .i64 k, .int .i64 e, .int .i64 s] 36))
  obtain ⟨lo, hi⟩ := wfB wfe
  unfold Pl.fitZ
  simp only
  cases h0 : (m != 7) <;> cases h1 : (z != 1) <;> cases h2 : Pl.within e 0 255 <;> (
    go_enter Tryd.func41, Tryd.ntmps41
    go_wp2_with (go_at_call 64; refine (isByte7 _ _ lo hi).mono ?_; rintro e w' ⟨rfl, hw⟩; have hw2 := hw.symm; clear hw; subst hw2; rw [h2])
    go_ret
    exact ⟨rB (by simp at h0 h1; simp [h0, h1]), K0.out⟩)
end Go.Proofs.YtlbnllhabdnjjaaDoor
