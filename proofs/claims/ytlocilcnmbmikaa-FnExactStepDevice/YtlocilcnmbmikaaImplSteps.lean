/- What the program's tests of steps answer, for every step and row of steps. -/
import Derived.Test.YtlocilcnmbmikaaImplBytes
import Derived.Test.YtlocilcnmbmikaaDevPl
import Derived.Test.YtlocilcnmbmikaaDevSteps
namespace Go.Proofs.Ytlocilcnmbmikaa
open Go.RowKit
set_option linter.unusedVariables false

theorem implPort (p : Int) (w : World) : Calls Try.prog 60 #[.int .i64 p] w fun e w' => e = .returned (.bool (Pl.port p)) ∧ w' = w := by
  by_cases h0 : 0 ≤ p
  all_goals
    by_cases h1 : p ≤ 3
    all_goals
      go_enter Try.func60, Try.ntmps60
      go_wp2
      go_ret
      exact ⟨rB (by simp [Pl.port, Pl.inR, h0, h1] <;> omega), rfl⟩
theorem byte_in (v : Int) : Pl.byteOk v = Pl.inR v 0 255 := rfl

set_option maxHeartbeats 4000000 in
theorem implDevStep (w : World) (k p v : Int) (lo : -9223372036854775808 ≤ v) (hi : v ≤ 9223372036854775807) :
    Calls Try.prog 46 #[.agg #[.int .i64 k, .int .i64 p, .int .i64 v]] w fun e w' => e = .returned (.bool (Pl.stepOk k p v)) ∧ Kept 0 0 w w' := by
  have HK := hide (kept_alloc w (.cells #[.int .i64 k, .int .i64 p, .int .i64 v] 38))
  by_cases k1 : k = 1
  · subst k1
    have E : Hid (Pl.stepOk 1 p v = ((p == 0) && (v == 0))) := hide rfl
    cases h1 : (p == 0)
    all_goals
      go_enter Try.func46, Try.ntmps46
      go_wp2
      go_ret
      exact ⟨rB (by rw [E.out, h1]; simp), HK.out⟩
  · have q1 : (k == 1) = false := by simpa using k1
    by_cases k2 : k = 2
    · subst k2
      have E : Hid (Pl.stepOk 2 p v = ((p == 0) && Pl.byteOk v)) := hide rfl
      cases h1 : (p == 0)
      · go_enter Try.func46, Try.ntmps46
        go_wp2
        go_ret
        exact ⟨rB (by rw [E.out, h1]; simp), HK.out⟩
      · go_enter Try.func46, Try.ntmps46
        go_wp2_with (go_at_call 41; refine (isByte _ _ lo hi).mono ?_; rintro e w' ⟨rfl, hw⟩; have hw2 := hw.symm; clear hw; subst hw2)
        go_ret
        exact ⟨rB (by rw [E.out, h1]; simp), HK.out⟩
    · have q2 : (k == 2) = false := by simpa using k2
      by_cases k3 : k = 3
      · subst k3
        have E : Hid (Pl.stepOk 3 p v = (Pl.port p && (v == 0))) := hide rfl
        cases h1 : Pl.port p
        all_goals
          go_enter Try.func46, Try.ntmps46
          go_wp2_with (go_at_call 60; refine (implPort _ _).mono ?_; rintro e w' ⟨rfl, hw⟩; have hw2 := hw.symm; clear hw; subst hw2; rw [h1])
          go_ret
          exact ⟨rB (by rw [E.out, h1]; simp), HK.out⟩
      · have q3 : (k == 3) = false := by simpa using k3
        by_cases k4 : k = 4
        · subst k4
          have E : Hid (Pl.stepOk 4 p v = (Pl.port p && Pl.byteOk v)) := hide rfl
          cases h1 : Pl.port p
          · go_enter Try.func46, Try.ntmps46
            go_wp2_with (go_at_call 60; refine (implPort _ _).mono ?_; rintro e w' ⟨rfl, hw⟩; have hw2 := hw.symm; clear hw; subst hw2; rw [h1])
            go_ret
            exact ⟨rB (by rw [E.out, h1]; simp), HK.out⟩
          · go_enter Try.func46, Try.ntmps46
            go_wp2_with (first | (go_at_call 60; refine (implPort _ _).mono ?_; rintro e w' ⟨rfl, hw⟩; have hw2 := hw.symm; clear hw; subst hw2; rw [h1]) | (go_at_call 41; refine (isByte _ _ lo hi).mono ?_; rintro e w' ⟨rfl, hw⟩; have hw2 := hw.symm; clear hw; subst hw2))
            go_ret
            exact ⟨rB (by rw [E.out, h1]; simp), HK.out⟩
        · have q4 : (k == 4) = false := by simpa using k4
          go_enter Try.func46, Try.ntmps46
          go_wp2
          go_ret
          exact ⟨rB (by simp [Pl.stepOk, k1, k2, k3, k4]), HK.out⟩

theorem implDevSteps (w : World) (a : Option Addr) (ca n : Nat) (zs : List Int) (ha : Came w a zs) (lz : zs.length = 3 * n) (bn : n ≤ 2000000) :
    Calls Try.prog 50 #[.slice a n ca] w fun e w' => e = .returned (.bool ((List.range n).all (Pl.stepAt zs))) ∧ Kept 0 0 w w' := by
  have HA := hide ha
  have HZ := hide lz
  clear ha lz
  go_enter Try.func50, Try.ntmps50
  go_wp2
  go_loopw [4, 7] (fun _ j wr => ∃ k : Nat, k ≤ n ∧ j = .int .i64 k ∧ (∀ i, i < k → Pl.stepAt zs i = true) ∧ Kept 0 0 w wr) (fun _ j _ => n - (intOf j).toNat)
  case atStart => exact ⟨0, Nat.zero_le _, rfl, fun i hi => absurd hi (Nat.not_lt_zero i), Kept.refl _ _ _⟩
  case round =>
    obtain ⟨k, hk, rfl, heq, hkept⟩ := hrel
    have HE := hide heq
    have HK := hide hkept
    clear heq hkept
    by_cases hlt : k < n
    · obtain ⟨lo, hi⟩ := HA.out.2 (k * 3 + 2) (by have := HZ.out; omega)
      rw [show zs[k * 3 + 2]?.getD 0 = el zs (k * 3 + 2) from rfl] at lo hi
      obtain ⟨g1, o1, rfl, p0, p1, p2⟩ := ((HA.out.keptS HK.out).1).at3 HZ.out hlt
      cases hb : Pl.stepAt zs k
      · have hb2 : Pl.stepOk (el zs (k * 3)) (el zs (k * 3 + 1)) (el zs (k * 3 + 2)) = false := hb
        go_wp2_with (go_at_call 46; refine (implDevStep _ _ _ _ lo hi).mono ?_; rintro e w2 ⟨rfl, k2⟩; rw [hb2])
        go_ret
        refine ⟨rB ?_, (kept_new HK.out _).trans k2⟩
        cases c : (List.range n).all (Pl.stepAt zs)
        · rfl
        · have := List.all_eq_true.1 c k (List.mem_range.2 hlt); rw [hb] at this; cases this
      · have hb2 : Pl.stepOk (el zs (k * 3)) (el zs (k * 3 + 1)) (el zs (k * 3 + 2)) = true := hb
        go_wp2_with (go_at_call 46; refine (implDevStep _ _ _ _ lo hi).mono ?_; rintro e w2 ⟨rfl, k2⟩; rw [hb2])
        go_round
        case rel => exact ⟨k + 1, by omega, by go_num, snoc_all HE.out hb, (kept_new HK.out _).trans k2⟩
        case measure => simp [intOf]; omega
    · go_wp2
      go_ret
      refine ⟨rB ?_, HK.out⟩
      have : (List.range n).all (Pl.stepAt zs) = true := by
        rw [List.all_eq_true]; intro i hi; exact HE.out i (by have := List.mem_range.1 hi; omega)
      rw [this]
end Go.Proofs.Ytlocilcnmbmikaa
