/- What the program's small functions of chapter 4 answer: addresses, parts, accesses; none writes. -/
import Derived.Test.YtbkafdphagmgpaaBus
import Derived.Test.YtbkafdphagmgpaaBusFns
import Derived.Test.YtbkafdphagmgpaaSgn
namespace Go.Proofs.Ytbkafdphagmgpaa
open Go.RowKit
set_option linter.unusedVariables false

theorem isAddress (a : Int) (w : World) : Calls Try.prog 54 #[.int .i64 a] w fun e w' => e = .returned (.bool (Pl.addr a)) ∧ w' = w := by
  by_cases h0 : 0 ≤ a
  all_goals
    by_cases h1 : a ≤ 65535
    all_goals
      go_enter Try.func54, Try.ntmps54
      go_wp2
      go_ret
      exact ⟨rB (by simp [Pl.addr, h0, h1] <;> omega), rfl⟩
theorem isAccessKind (a : Int) (w : World) : Calls Try.prog 60 #[.int .i64 a] w fun e w' => e = .returned (.bool (Pl.accKind a)) ∧ w' = w := by
  by_cases h0 : 1 ≤ a
  all_goals
    by_cases h1 : a ≤ 3
    all_goals
      go_enter Try.func60, Try.ntmps60
      go_wp2
      go_ret
      exact ⟨rB (by simp [Pl.accKind, h0, h1] <;> omega), rfl⟩
theorem isOdd (a : Int) (w : World) (h0 : 0 ≤ a) (h1 : a ≤ 65535) : Calls Try.prog 55 #[.int .i64 a] w fun e w' => e = .returned (.bool (decide (a % 2 = 1))) ∧ w' = w := by
  go_enter Try.func55, Try.ntmps55
  go_wp2
  go_ret
  refine ⟨rB ?_, rfl⟩
  rw [Bool.eq_iff_iff]
  simp
  omega
theorem partOf (a : Int) (w : World) : Calls Try.prog 56 #[.int .i64 a] w fun e w' => e = .returned (.int .i64 (Pl.kind a)) ∧ w' = w := by
  by_cases h1 : 512 ≤ a
  · have E : Hid (Pl.kind a = 1) := hide (by simp [Pl.kind, h1])
    go_enter Try.func56, Try.ntmps56
    go_wp2
    go_ret
    exact ⟨rI E.out.symm, rfl⟩
  · by_cases h2 : 496 ≤ a
    · have E : Hid (Pl.kind a = 0) := hide (by unfold Pl.kind; rw [if_neg (by omega), if_neg (by omega)])
      go_enter Try.func56, Try.ntmps56
      go_wp2
      go_ret
      exact ⟨rI E.out.symm, rfl⟩
    · by_cases h3 : 448 ≤ a
      · have E : Hid (Pl.kind a = 1) := hide (by unfold Pl.kind; rw [if_pos (by omega)])
        go_enter Try.func56, Try.ntmps56
        go_wp2
        go_ret
        exact ⟨rI E.out.symm, rfl⟩
      · by_cases h4 : 384 ≤ a
        · have E : Hid (Pl.kind a = 3) := hide (by unfold Pl.kind; rw [if_neg (by omega), if_pos (by omega)])
          go_enter Try.func56, Try.ntmps56
          go_wp2
          go_ret
          exact ⟨rI E.out.symm, rfl⟩
        · have E : Hid (Pl.kind a = 0) := hide (by unfold Pl.kind; rw [if_neg (by omega), if_neg (by omega)])
          go_enter Try.func56, Try.ntmps56
          go_wp2
          go_ret
          exact ⟨rI E.out.symm, rfl⟩
theorem kindOf (a : Int) (w : World) (wf : (Lit.int .i64 a).wf = true) : Calls Try.prog 27 #[.int .i64 a] w fun e w' => e = .returned (.tuple #[.int .i64 (Pl.kindV a), .bool (Pl.addr a)]) ∧ Kept 0 0 w w' := by
  cases h : Pl.addr a
  · have E : Hid (Pl.kindV a = 0) := hide (by simp [Pl.kindV, h])
    go_enter Try.func27, Try.ntmps27
    go_wp2_with fail
    refine (isAddress _ _).mono ?_
    rintro e w' ⟨rfl, rfl⟩
    rw [h]
    go_wp2_with fail
    go_ret2
    exact ⟨rIB E.out.symm rfl, Kept.refl _ _ _⟩
  · have E : Hid (Pl.kindV a = Pl.kind a) := hide (by simp [Pl.kindV, h])
    go_enter Try.func27, Try.ntmps27
    go_wp2_with fail
    refine (isAddress _ _).mono ?_
    rintro e w' ⟨rfl, rfl⟩
    rw [h]
    go_wp2_with fail
    refine (partOf _ _).mono ?_
    rintro e w' ⟨rfl, rfl⟩
    go_wp2_with fail
    go_ret2
    exact ⟨rIB E.out.symm rfl, Kept.refl _ _ _⟩

namespace Pl
def isAcc (k s a v c : Int) : Bool := okv s v && (accKind k && (addr a && (decide (0 ≤ c) && decide (c ≤ 3))))
theorem accOk_isAcc (k s a v c : Int) : accOk k s a v c = (isAcc k s a v c && !((k == 3) && (c == 0))) := by
  unfold accOk isAcc
  rw [Bool.eq_iff_iff]
  simp only [Bool.and_eq_true, Bool.or_eq_true, Bool.not_eq_true', decide_eq_true_eq, bne_iff_ne, ne_eq, Bool.and_eq_false_iff, beq_eq_false_iff_ne]
  constructor
  · rintro ⟨a1, a2, a3, a4, a5⟩; exact ⟨⟨a2, a1, a3, a4⟩, a5⟩
  · rintro ⟨⟨a2, a1, a3, a4⟩, a5⟩; exact ⟨a1, a2, a3, a4, a5⟩
end Pl
theorem isAccess (k s a v c : Int) (w : World) (lo : -9223372036854775808 ≤ v) (hi : v ≤ 9223372036854775807) : Calls Try.prog 65 #[.agg #[.int .i64 k, .int .i64 s, .int .i64 a, .int .i64 v, .int .i64 c]] w fun e w' => e = .returned (.bool (Pl.isAcc k s a v c)) ∧ ∃ o, w' = w.alloc o := by
  cases h1 : Pl.okv s v
  · go_enter Try.func65, Try.ntmps65
    go_wp2_with (first | (go_at_call 71; refine (signedOf _ _ _ lo hi).mono ?_; rintro e w' ⟨rfl, rfl⟩; rw [h1]) | (go_at_call 60; refine (isAccessKind _ _).mono ?_; rintro e w' ⟨rfl, rfl⟩) | (go_at_call 54; refine (isAddress _ _).mono ?_; rintro e w' ⟨rfl, rfl⟩))
    go_ret
    exact ⟨rB (by unfold Pl.isAcc; rw [h1]; rfl), _, rfl⟩
  · cases h2 : Pl.accKind k
    · go_enter Try.func65, Try.ntmps65
      go_wp2_with (first | (go_at_call 71; refine (signedOf _ _ _ lo hi).mono ?_; rintro e w' ⟨rfl, rfl⟩; rw [h1]) | (go_at_call 60; refine (isAccessKind _ _).mono ?_; rintro e w' ⟨rfl, rfl⟩; rw [h2]) | (go_at_call 54; refine (isAddress _ _).mono ?_; rintro e w' ⟨rfl, rfl⟩))
      go_ret
      exact ⟨rB (by unfold Pl.isAcc; rw [h1, h2]; rfl), _, rfl⟩
    · cases h3 : Pl.addr a
      · go_enter Try.func65, Try.ntmps65
        go_wp2_with (first | (go_at_call 71; refine (signedOf _ _ _ lo hi).mono ?_; rintro e w' ⟨rfl, rfl⟩; rw [h1]) | (go_at_call 60; refine (isAccessKind _ _).mono ?_; rintro e w' ⟨rfl, rfl⟩; rw [h2]) | (go_at_call 54; refine (isAddress _ _).mono ?_; rintro e w' ⟨rfl, rfl⟩; rw [h3]))
        go_ret
        exact ⟨rB (by unfold Pl.isAcc; rw [h1, h2, h3]; rfl), _, rfl⟩
      · cases h4 : decide (0 ≤ c)
        all_goals
          cases h5 : decide (c ≤ 3)
          all_goals
            go_enter Try.func65, Try.ntmps65
            go_wp2_with (first | (go_at_call 71; refine (signedOf _ _ _ lo hi).mono ?_; rintro e w' ⟨rfl, rfl⟩; rw [h1]) | (go_at_call 60; refine (isAccessKind _ _).mono ?_; rintro e w' ⟨rfl, rfl⟩; rw [h2]) | (go_at_call 54; refine (isAddress _ _).mono ?_; rintro e w' ⟨rfl, rfl⟩; rw [h3]))
            go_ret
            exact ⟨rB (by unfold Pl.isAcc; rw [h1, h2, h3, h4, h5]; rfl), _, rfl⟩
theorem isLogged (k s a v c : Int) (w : World) (lo : -9223372036854775808 ≤ v) (hi : v ≤ 9223372036854775807) : Calls Try.prog 43 #[.agg #[.int .i64 k, .int .i64 s, .int .i64 a, .int .i64 v, .int .i64 c]] w fun e w' => e = .returned (.bool (Pl.accOk k s a v c)) ∧ ∃ o p, w' = (w.alloc o).alloc p := by
  cases h1 : Pl.isAcc k s a v c
  · go_enter Try.func43, Try.ntmps43
    go_wp2_with (go_at_call 65; refine (isAccess _ _ _ _ _ _ lo hi).mono ?_; rintro e w' ⟨rfl, o, rfl⟩; rw [h1])
    go_ret
    exact ⟨rB (by rw [Pl.accOk_isAcc, h1]; rfl), _, _, rfl⟩
  · cases h2 : (k == 3)
    · go_enter Try.func43, Try.ntmps43
      go_wp2_with (go_at_call 65; refine (isAccess _ _ _ _ _ _ lo hi).mono ?_; rintro e w' ⟨rfl, o, rfl⟩; rw [h1])
      go_ret
      exact ⟨rB (by rw [Pl.accOk_isAcc, h1, h2]; rfl), _, _, rfl⟩
    · cases h3 : (c == 0)
      all_goals
        go_enter Try.func43, Try.ntmps43
        go_wp2_with (go_at_call 65; refine (isAccess _ _ _ _ _ _ lo hi).mono ?_; rintro e w' ⟨rfl, o, rfl⟩; rw [h1])
        go_ret
        exact ⟨rB (by rw [Pl.accOk_isAcc, h1, h2, h3]; rfl), _, _, rfl⟩
theorem isAsked (k s a v c : Int) (w : World) (lo : -9223372036854775808 ≤ v) (hi : v ≤ 9223372036854775807) : Calls Try.prog 49 #[.agg #[.int .i64 k, .int .i64 s, .int .i64 a, .int .i64 v, .int .i64 c]] w fun e w' => e = .returned (.bool (Pl.isAcc k s a v c && ((k == 2) || (v == 0)))) ∧ ∃ o p, w' = (w.alloc o).alloc p := by
  cases h1 : Pl.isAcc k s a v c
  · go_enter Try.func49, Try.ntmps49
    go_wp2_with (go_at_call 65; refine (isAccess _ _ _ _ _ _ lo hi).mono ?_; rintro e w' ⟨rfl, o, rfl⟩; rw [h1])
    go_ret
    exact ⟨rfl, _, _, rfl⟩
  · cases h2 : (k == 2)
    · cases h3 : (v == 0)
      all_goals
        go_enter Try.func49, Try.ntmps49
        go_wp2_with (go_at_call 65; refine (isAccess _ _ _ _ _ _ lo hi).mono ?_; rintro e w' ⟨rfl, o, rfl⟩; rw [h1])
        go_ret
        exact ⟨rfl, _, _, rfl⟩
    · go_enter Try.func49, Try.ntmps49
      go_wp2_with (go_at_call 65; refine (isAccess _ _ _ _ _ _ lo hi).mono ?_; rintro e w' ⟨rfl, o, rfl⟩; rw [h1])
      go_ret
      exact ⟨rfl, _, _, rfl⟩
end Go.Proofs.Ytbkafdphagmgpaa
