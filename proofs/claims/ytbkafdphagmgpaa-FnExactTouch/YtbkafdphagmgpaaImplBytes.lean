/- What the program's tests of bytes answer; none changes the world. -/
import Derived.Test.YtbkafdphagmgpaaBus
import Derived.Test.YtbkafdphagmgpaaSgn
namespace Go.Proofs.Ytbkafdphagmgpaa
open Go.RowKit
set_option linter.unusedVariables false

theorem okv1 (v : Int) : Pl.okv 1 v = Pl.byteOk v := by
  unfold Pl.okv Pl.byteOk Pl.top
  rw [Bool.eq_iff_iff]; simp; omega
theorem isByte (v : Int) (w : World) (lo : -9223372036854775808 ≤ v) (hi : v ≤ 9223372036854775807) :
    Calls Try.prog 63 #[.int .i64 v] w fun e w' => e = .returned (.bool (Pl.byteOk v)) ∧ w' = w := by
  go_enter Try.func63, Try.ntmps63
  go_wp2_with (go_at_call 71; refine (signedOf _ _ _ lo hi).mono ?_; rintro e w' ⟨rfl, hw⟩; have hw2 := hw.symm; clear hw; subst hw2; rw [okv1])
  go_ret
  exact ⟨rfl, rfl⟩
theorem areBytes (w : World) (a : Option Addr) (ca : Nat) (xs : List Int) (ha : Came w a xs) (lx : xs.length ≤ 2000000) :
    Calls Try.prog 36 #[.slice a xs.length ca] w fun e w' => e = .returned (.bool (Pl.bytesOk xs)) ∧ w' = w := by
  have HA := hide ha
  clear ha
  go_enter Try.func36, Try.ntmps36
  go_wp2
  go_loop [4, 7] (fun _ j => ∃ k : Nat, k ≤ xs.length ∧ j = .int .i64 k ∧ ∀ i, i < k → Pl.byteOk (el xs i) = true) (fun _ j => xs.length - (intOf j).toNat)
  case atStart => exact ⟨0, Nat.zero_le _, rfl, fun i hi => absurd hi (Nat.not_lt_zero i)⟩
  case round =>
    obtain ⟨k, hk, rfl, heq⟩ := hrel
    have HE := hide heq
    clear heq
    by_cases hlt : k < xs.length
    · obtain ⟨g1, o1, rfl, hc1⟩ := HA.out.1 k hlt
      obtain ⟨lo, hi⟩ := HA.out.2 k hlt
      rw [show xs[k]?.getD 0 = el xs k from rfl] at hc1 lo hi
      cases hb : Pl.byteOk (el xs k)
      · go_wp2_with (go_at_call 63; refine (isByte _ _ lo hi).mono ?_; rintro e w' ⟨rfl, rfl⟩; rw [hb])
        go_ret
        exact ⟨rB (Pl.bytesOk_no hlt hb).symm, rfl⟩
      · go_wp2_with (go_at_call 63; refine (isByte _ _ lo hi).mono ?_; rintro e w' ⟨rfl, rfl⟩; rw [hb])
        go_round
        case rel => exact ⟨k + 1, by omega, by go_num, snoc_all HE.out hb⟩
        case measure => simp [intOf]; omega
    · go_wp2
      go_ret
      exact ⟨rB (Pl.bytesOk_of (fun i hi => HE.out i (by omega))).symm, rfl⟩
end Go.Proofs.Ytbkafdphagmgpaa
