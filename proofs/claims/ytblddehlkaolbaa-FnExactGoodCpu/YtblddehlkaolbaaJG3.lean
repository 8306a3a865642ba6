/- What the program's GoodRegs answers, for all registers. What the program's small functions of chapter 4 answer: addresses, parts, accesses; none writes. What the program's tests of bytes answer; none changes the world. What the program's GoodBus answers, for every bus. Every cell of a block at once. What the program's GoodCpu answers, for every processor. The law on GoodCpu: of whatever arguments, its Go function returns true, and no block that was there has turned. A processor that came in to a law, opened: four lists that lie in memory, the accesses spoken of as the row of their numbers. -/
import Derived.Test.YtblddehlkaolbaaJG2
import Derived.Test.YtblddehlkaolbaaJG1
import Derived.Deep.DeepCutAuto
import Derived.Deep.RegionHeld3
import Derived.Deep.RegionWith
import Derived.BigRegion
import Derived.Deep.AppendLies
import Derived.Maps.AppendAt
import Derived.Laws.AppendOwnNone
import Derived.Deep.RegionLawGrows
import Derived.Lib.SmallJoins
import Derived.Deep.Slices
import Derived.ProofKit
import Derived.OpenShut
namespace Go.Proofs.Ytblddehlkaolbaa
open Go.RowKit
set_option linter.unusedVariables false
set_option maxHeartbeats 4000000 in
theorem implGoodRegs (w : World) (d : Pl.Rg) (a b : Option Addr) (ca cb : Nat) (ha : Came w a d.xs) (hb : Came w b d.ys) (lx : d.xs.length ≤ 2000000) (ly : d.ys.length ≤ 2000000) (wfd : Pl.WfR d) :
    Calls Try.prog 44 #[.agg #[.slice a d.xs.length ca, .slice b d.ys.length cb, .int .i64 d.o, .int .i64 d.p, .int .i64 d.f, .int .i64 d.m, .bool d.s, .bool d.t]] w fun e w' => e = .returned (.bool (Pl.rgOk d)) ∧ Kept 0 0 w w' := by
  have HA := hide ha
  have HB := hide hb
  have HK := hide (kept_alloc w (.cells #[.slice a d.xs.length ca, .slice b d.ys.length cb, .int .i64 d.o, .int .i64 d.p, .int .i64 d.f, .int .i64 d.m, .bool d.s, .bool d.t] 24))
  clear ha hb
  have G : Hid (Pl.rgOk d = ((d.xs.all Pl.wordOk && decide ((d.xs.length : Int) = 4)) && ((d.ys.all Pl.wordOk && decide ((d.ys.length : Int) = 4)) && (Pl.wordOk d.o && (Pl.wordOk d.p && (Pl.within d.f 0 31 && (decide (0 ≤ d.m) && decide (d.m ≤ 7)))))))) := hide rfl
  cases l1 : ((d.xs.length : Int) == 4)
  · have q1 : decide ((d.xs.length : Int) = 4) = false := by simpa using l1
    go_enter Try.func44, Try.ntmps44
    go_wp2
    go_ret
    exact ⟨rB (by rw [G.out, q1]; simp), HK.out⟩
  · have q1 : decide ((d.xs.length : Int) = 4) = true := by simpa using l1
    cases h2 : d.xs.all Pl.wordOk
    · have qh2 : True := trivial
      go_enter Try.func44, Try.ntmps44
      go_wp2_with (first | (go_at_call 78; refine (areWords _ a ca d.xs (HA.out.keptS HK.out) lx).mono ?_; rintro e w' ⟨rfl, hw⟩; have hw2 := hw.symm; clear hw; subst hw2; rw [h2]; have Z1 : True := trivial))
      go_ret
      exact ⟨rB (by rw [G.out, q1, h2]; simp), HK.out⟩
    · have qh2 : True := trivial
      cases l3 : ((d.ys.length : Int) == 4)
      · have q3 : decide ((d.ys.length : Int) = 4) = false := by simpa using l3
        go_enter Try.func44, Try.ntmps44
        go_wp2_with (first | (go_at_call 78; refine (areWords _ a ca d.xs (HA.out.keptS HK.out) lx).mono ?_; rintro e w' ⟨rfl, hw⟩; have hw2 := hw.symm; clear hw; subst hw2; rw [h2]; have Z1 : True := trivial))
        go_ret
        exact ⟨rB (by rw [G.out, q1, h2, q3]; simp), HK.out⟩
      · have q3 : decide ((d.ys.length : Int) = 4) = true := by simpa using l3
        cases h4 : d.ys.all Pl.wordOk
        · have qh4 : True := trivial
          go_enter Try.func44, Try.ntmps44
          go_wp2_with (first | (go_at_call 78; have z := Z1; refine (areWords _ b cb d.ys (HB.out.keptS HK.out) ly).mono ?_; rintro e w' ⟨rfl, hw⟩; have hw2 := hw.symm; clear hw; subst hw2; rw [h4]) | (go_at_call 78; refine (areWords _ a ca d.xs (HA.out.keptS HK.out) lx).mono ?_; rintro e w' ⟨rfl, hw⟩; have hw2 := hw.symm; clear hw; subst hw2; rw [h2]; have Z1 : True := trivial))
          go_ret
          exact ⟨rB (by rw [G.out, q1, h2, q3, h4]; simp), HK.out⟩
        · have qh4 : True := trivial
          cases h5 : Pl.wordOk d.o
          · have qh5 : True := trivial
            go_enter Try.func44, Try.ntmps44
            go_wp2_with (first | (go_at_call 78; have z := Z1; refine (areWords _ b cb d.ys (HB.out.keptS HK.out) ly).mono ?_; rintro e w' ⟨rfl, hw⟩; have hw2 := hw.symm; clear hw; subst hw2; rw [h4]) | (go_at_call 78; refine (areWords _ a ca d.xs (HA.out.keptS HK.out) lx).mono ?_; rintro e w' ⟨rfl, hw⟩; have hw2 := hw.symm; clear hw; subst hw2; rw [h2]; have Z1 : True := trivial) | (go_at_call 30; refine (isWord d.o _ (wfB wfd.o).1 (wfB wfd.o).2).mono ?_; rintro e w' ⟨rfl, hw⟩; have hw2 := hw.symm; clear hw; subst hw2; rw [h5]; have Z3 : True := trivial))
            go_ret
            exact ⟨rB (by rw [G.out, q1, h2, q3, h4, h5]; simp), HK.out⟩
          · have qh5 : True := trivial
            cases h6 : Pl.wordOk d.p
            · have qh6 : True := trivial
              go_enter Try.func44, Try.ntmps44
              go_wp2_with (first | (go_at_call 78; have z := Z1; refine (areWords _ b cb d.ys (HB.out.keptS HK.out) ly).mono ?_; rintro e w' ⟨rfl, hw⟩; have hw2 := hw.symm; clear hw; subst hw2; rw [h4]) | (go_at_call 78; refine (areWords _ a ca d.xs (HA.out.keptS HK.out) lx).mono ?_; rintro e w' ⟨rfl, hw⟩; have hw2 := hw.symm; clear hw; subst hw2; rw [h2]; have Z1 : True := trivial) | (go_at_call 30; have z := Z3; refine (isWord d.p _ (wfB wfd.p).1 (wfB wfd.p).2).mono ?_; rintro e w' ⟨rfl, hw⟩; have hw2 := hw.symm; clear hw; subst hw2; rw [h6]) | (go_at_call 30; refine (isWord d.o _ (wfB wfd.o).1 (wfB wfd.o).2).mono ?_; rintro e w' ⟨rfl, hw⟩; have hw2 := hw.symm; clear hw; subst hw2; rw [h5]; have Z3 : True := trivial))
              go_ret
              exact ⟨rB (by rw [G.out, q1, h2, q3, h4, h5, h6]; simp), HK.out⟩
            · have qh6 : True := trivial
              cases h7 : Pl.within d.f 0 31
              · have qh7 : True := trivial
                go_enter Try.func44, Try.ntmps44
                go_wp2_with (first | (go_at_call 78; have z := Z1; refine (areWords _ b cb d.ys (HB.out.keptS HK.out) ly).mono ?_; rintro e w' ⟨rfl, hw⟩; have hw2 := hw.symm; clear hw; subst hw2; rw [h4]) | (go_at_call 78; refine (areWords _ a ca d.xs (HA.out.keptS HK.out) lx).mono ?_; rintro e w' ⟨rfl, hw⟩; have hw2 := hw.symm; clear hw; subst hw2; rw [h2]; have Z1 : True := trivial) | (go_at_call 30; have z := Z3; refine (isWord d.p _ (wfB wfd.p).1 (wfB wfd.p).2).mono ?_; rintro e w' ⟨rfl, hw⟩; have hw2 := hw.symm; clear hw; subst hw2; rw [h6]) | (go_at_call 30; refine (isWord d.o _ (wfB wfd.o).1 (wfB wfd.o).2).mono ?_; rintro e w' ⟨rfl, hw⟩; have hw2 := hw.symm; clear hw; subst hw2; rw [h5]; have Z3 : True := trivial) | (go_at_call 79; refine (isFlags6 d.f _).mono ?_; rintro e w' ⟨rfl, hw⟩; have hw2 := hw.symm; clear hw; subst hw2; rw [h7]))
                go_ret
                exact ⟨rB (by rw [G.out, q1, h2, q3, h4, h5, h6, h7]; simp), HK.out⟩
              · have qh7 : True := trivial
                cases h8 : decide (0 ≤ d.m)
                · have qh8 : True := trivial
                  go_enter Try.func44, Try.ntmps44
                  go_wp2_with (first | (go_at_call 78; have z := Z1; refine (areWords _ b cb d.ys (HB.out.keptS HK.out) ly).mono ?_; rintro e w' ⟨rfl, hw⟩; have hw2 := hw.symm; clear hw; subst hw2; rw [h4]) | (go_at_call 78; refine (areWords _ a ca d.xs (HA.out.keptS HK.out) lx).mono ?_; rintro e w' ⟨rfl, hw⟩; have hw2 := hw.symm; clear hw; subst hw2; rw [h2]; have Z1 : True := trivial) | (go_at_call 30; have z := Z3; refine (isWord d.p _ (wfB wfd.p).1 (wfB wfd.p).2).mono ?_; rintro e w' ⟨rfl, hw⟩; have hw2 := hw.symm; clear hw; subst hw2; rw [h6]) | (go_at_call 30; refine (isWord d.o _ (wfB wfd.o).1 (wfB wfd.o).2).mono ?_; rintro e w' ⟨rfl, hw⟩; have hw2 := hw.symm; clear hw; subst hw2; rw [h5]; have Z3 : True := trivial) | (go_at_call 79; refine (isFlags6 d.f _).mono ?_; rintro e w' ⟨rfl, hw⟩; have hw2 := hw.symm; clear hw; subst hw2; rw [h7]))
                  go_ret
                  exact ⟨rB (by rw [G.out, q1, h2, q3, h4, h5, h6, h7, h8]; simp), HK.out⟩
                · have qh8 : True := trivial
                  cases h9 : decide (d.m ≤ 7)
                  · have qh9 : True := trivial
                    go_enter Try.func44, Try.ntmps44
                    go_wp2_with (first | (go_at_call 78; have z := Z1; refine (areWords _ b cb d.ys (HB.out.keptS HK.out) ly).mono ?_; rintro e w' ⟨rfl, hw⟩; have hw2 := hw.symm; clear hw; subst hw2; rw [h4]) | (go_at_call 78; refine (areWords _ a ca d.xs (HA.out.keptS HK.out) lx).mono ?_; rintro e w' ⟨rfl, hw⟩; have hw2 := hw.symm; clear hw; subst hw2; rw [h2]; have Z1 : True := trivial) | (go_at_call 30; have z := Z3; refine (isWord d.p _ (wfB wfd.p).1 (wfB wfd.p).2).mono ?_; rintro e w' ⟨rfl, hw⟩; have hw2 := hw.symm; clear hw; subst hw2; rw [h6]) | (go_at_call 30; refine (isWord d.o _ (wfB wfd.o).1 (wfB wfd.o).2).mono ?_; rintro e w' ⟨rfl, hw⟩; have hw2 := hw.symm; clear hw; subst hw2; rw [h5]; have Z3 : True := trivial) | (go_at_call 79; refine (isFlags6 d.f _).mono ?_; rintro e w' ⟨rfl, hw⟩; have hw2 := hw.symm; clear hw; subst hw2; rw [h7]))
                    go_ret
                    exact ⟨rB (by rw [G.out, q1, h2, q3, h4, h5, h6, h7, h8, h9]; simp), HK.out⟩
                  · have qh9 : True := trivial
                    go_enter Try.func44, Try.ntmps44
                    go_wp2_with (first | (go_at_call 78; have z := Z1; refine (areWords _ b cb d.ys (HB.out.keptS HK.out) ly).mono ?_; rintro e w' ⟨rfl, hw⟩; have hw2 := hw.symm; clear hw; subst hw2; rw [h4]) | (go_at_call 78; refine (areWords _ a ca d.xs (HA.out.keptS HK.out) lx).mono ?_; rintro e w' ⟨rfl, hw⟩; have hw2 := hw.symm; clear hw; subst hw2; rw [h2]; have Z1 : True := trivial) | (go_at_call 30; have z := Z3; refine (isWord d.p _ (wfB wfd.p).1 (wfB wfd.p).2).mono ?_; rintro e w' ⟨rfl, hw⟩; have hw2 := hw.symm; clear hw; subst hw2; rw [h6]) | (go_at_call 30; refine (isWord d.o _ (wfB wfd.o).1 (wfB wfd.o).2).mono ?_; rintro e w' ⟨rfl, hw⟩; have hw2 := hw.symm; clear hw; subst hw2; rw [h5]; have Z3 : True := trivial) | (go_at_call 79; refine (isFlags6 d.f _).mono ?_; rintro e w' ⟨rfl, hw⟩; have hw2 := hw.symm; clear hw; subst hw2; rw [h7]))
                    go_ret
                    exact ⟨rB (by rw [G.out, q1, h2, q3, h4, h5, h6, h7, h8, h9]; simp), HK.out⟩
end Go.Proofs.Ytblddehlkaolbaa

namespace Go.Proofs.Ytblddehlkaolbaa
open Go.RowKit
set_option linter.unusedVariables false

theorem isAddress (a : Int) (w : World) : Calls Try.prog 103 #[.int .i64 a] w fun e w' => e = .returned (.bool (Pl.addr a)) ∧ w' = w := by
  by_cases h0 : 0 ≤ a
  all_goals
    by_cases h1 : a ≤ 65535
    all_goals
      go_enter Try.func103, Try.ntmps103
      go_wp2
      go_ret
      exact ⟨rB (by simp [Pl.addr, h0, h1] <;> omega), rfl⟩
theorem isAccessKind (a : Int) (w : World) : Calls Try.prog 102 #[.int .i64 a] w fun e w' => e = .returned (.bool (Pl.accKind a)) ∧ w' = w := by
  by_cases h0 : 1 ≤ a
  all_goals
    by_cases h1 : a ≤ 3
    all_goals
      go_enter Try.func102, Try.ntmps102
      go_wp2
      go_ret
      exact ⟨rB (by simp [Pl.accKind, h0, h1] <;> omega), rfl⟩
namespace Pl
def isAcc (k s a v c : Int) : Bool := okv s v && (accKind k && (addr a && (decide (0 ≤ c) && decide (c ≤ 3))))
theorem accOk_isAcc (k s a v c : Int) : accOk k s a v c = (isAcc k s a v c && !((k == 3) && (c == 0))) := by
  unfold accOk isAcc
  rw [Bool.eq_iff_iff]
  simp only [Bool.and_eq_true, Bool.or_eq_true, Bool.not_eq_true', decide_eq_true_eq, bne_iff_ne, ne_eq, Bool.and_eq_false_iff, beq_eq_false_iff_ne]
  constructor
  · rintro ⟨a1, a2, a3, a4, a5⟩; exact ⟨⟨a2, a1, a3, a4⟩, a5⟩
  · rintro ⟨⟨a2, a1, a3, a4⟩, a5⟩; exact ⟨a1, a2, a3, a4, a5⟩
end Pl
theorem isAccess (k s a v c : Int) (w : World) (lo : -9223372036854775808 ≤ v) (hi : v ≤ 9223372036854775807) : Calls Try.prog 95 #[.agg #[.int .i64 k, .int .i64 s, .int .i64 a, .int .i64 v, .int .i64 c]] w fun e w' => e = .returned (.bool (Pl.isAcc k s a v c)) ∧ ∃ o, w' = w.alloc o := by
  cases h1 : Pl.okv s v
  · go_enter Try.func95, Try.ntmps95
    go_wp2_with (first | (go_at_call 66; refine (signedOf _ _ _ lo hi).mono ?_; rintro e w' ⟨rfl, rfl⟩; rw [h1]) | (go_at_call 102; refine (isAccessKind _ _).mono ?_; rintro e w' ⟨rfl, rfl⟩) | (go_at_call 103; refine (isAddress _ _).mono ?_; rintro e w' ⟨rfl, rfl⟩))
    go_ret
    exact ⟨rB (by unfold Pl.isAcc; rw [h1]; rfl), _, rfl⟩
  · cases h2 : Pl.accKind k
    · go_enter Try.func95, Try.ntmps95
      go_wp2_with (first | (go_at_call 66; refine (signedOf _ _ _ lo hi).mono ?_; rintro e w' ⟨rfl, rfl⟩; rw [h1]) | (go_at_call 102; refine (isAccessKind _ _).mono ?_; rintro e w' ⟨rfl, rfl⟩; rw [h2]) | (go_at_call 103; refine (isAddress _ _).mono ?_; rintro e w' ⟨rfl, rfl⟩))
      go_ret
      exact ⟨rB (by unfold Pl.isAcc; rw [h1, h2]; rfl), _, rfl⟩
    · cases h3 : Pl.addr a
      · go_enter Try.func95, Try.ntmps95
        go_wp2_with (first | (go_at_call 66; refine (signedOf _ _ _ lo hi).mono ?_; rintro e w' ⟨rfl, rfl⟩; rw [h1]) | (go_at_call 102; refine (isAccessKind _ _).mono ?_; rintro e w' ⟨rfl, rfl⟩; rw [h2]) | (go_at_call 103; refine (isAddress _ _).mono ?_; rintro e w' ⟨rfl, rfl⟩; rw [h3]))
        go_ret
        exact ⟨rB (by unfold Pl.isAcc; rw [h1, h2, h3]; rfl), _, rfl⟩
      · cases h4 : decide (0 ≤ c)
        all_goals
          cases h5 : decide (c ≤ 3)
          all_goals
            go_enter Try.func95, Try.ntmps95
            go_wp2_with (first | (go_at_call 66; refine (signedOf _ _ _ lo hi).mono ?_; rintro e w' ⟨rfl, rfl⟩; rw [h1]) | (go_at_call 102; refine (isAccessKind _ _).mono ?_; rintro e w' ⟨rfl, rfl⟩; rw [h2]) | (go_at_call 103; refine (isAddress _ _).mono ?_; rintro e w' ⟨rfl, rfl⟩; rw [h3]))
            go_ret
            exact ⟨rB (by unfold Pl.isAcc; rw [h1, h2, h3, h4, h5]; rfl), _, rfl⟩
theorem isLogged (k s a v c : Int) (w : World) (lo : -9223372036854775808 ≤ v) (hi : v ≤ 9223372036854775807) : Calls Try.prog 80 #[.agg #[.int .i64 k, .int .i64 s, .int .i64 a, .int .i64 v, .int .i64 c]] w fun e w' => e = .returned (.bool (Pl.accOk k s a v c)) ∧ ∃ o p, w' = (w.alloc o).alloc p := by
  cases h1 : Pl.isAcc k s a v c
  · go_enter Try.func80, Try.ntmps80
    go_wp2_with (go_at_call 95; refine (isAccess _ _ _ _ _ _ lo hi).mono ?_; rintro e w' ⟨rfl, o, rfl⟩; rw [h1])
    go_ret
    exact ⟨rB (by rw [Pl.accOk_isAcc, h1]; rfl), _, _, rfl⟩
  · cases h2 : (k == 3)
    · go_enter Try.func80, Try.ntmps80
      go_wp2_with (go_at_call 95; refine (isAccess _ _ _ _ _ _ lo hi).mono ?_; rintro e w' ⟨rfl, o, rfl⟩; rw [h1])
      go_ret
      exact ⟨rB (by rw [Pl.accOk_isAcc, h1, h2]; rfl), _, _, rfl⟩
    · cases h3 : (c == 0)
      all_goals
        go_enter Try.func80, Try.ntmps80
        go_wp2_with (go_at_call 95; refine (isAccess _ _ _ _ _ _ lo hi).mono ?_; rintro e w' ⟨rfl, o, rfl⟩; rw [h1])
        go_ret
        exact ⟨rB (by rw [Pl.accOk_isAcc, h1, h2, h3]; rfl), _, _, rfl⟩
end Go.Proofs.Ytblddehlkaolbaa

namespace Go.Proofs.Ytblddehlkaolbaa
open Go.RowKit
set_option linter.unusedVariables false

theorem okv1 (v : Int) : Pl.okv 1 v = Pl.byteOk v := by
  unfold Pl.okv Pl.byteOk Pl.top
  rw [Bool.eq_iff_iff]; simp; omega
theorem isByte (v : Int) (w : World) (lo : -9223372036854775808 ≤ v) (hi : v ≤ 9223372036854775807) :
    Calls Try.prog 87 #[.int .i64 v] w fun e w' => e = .returned (.bool (Pl.byteOk v)) ∧ w' = w := by
  go_enter Try.func87, Try.ntmps87
  go_wp2_with (go_at_call 66; refine (signedOf _ _ _ lo hi).mono ?_; rintro e w' ⟨rfl, hw⟩; have hw2 := hw.symm; clear hw; subst hw2; rw [okv1])
  go_ret
  exact ⟨rfl, rfl⟩
theorem areBytes (w : World) (a : Option Addr) (ca : Nat) (xs : List Int) (ha : Came w a xs) (lx : xs.length ≤ 2000000) :
    Calls Try.prog 64 #[.slice a xs.length ca] w fun e w' => e = .returned (.bool (Pl.bytesOk xs)) ∧ w' = w := by
  have HA := hide ha
  clear ha
  go_enter Try.func64, Try.ntmps64
  go_wp2
  go_loop [4, 7] (fun _ j => ∃ k : Nat, k ≤ xs.length ∧ j = .int .i64 k ∧ ∀ i, i < k → Pl.byteOk (el xs i) = true) (fun _ j => xs.length - (intOf j).toNat)
  case atStart => exact ⟨0, Nat.zero_le _, rfl, fun i hi => absurd hi (Nat.not_lt_zero i)⟩
  case round =>
    obtain ⟨k, hk, rfl, heq⟩ := hrel
    have HE := hide heq
    clear heq
    by_cases hlt : k < xs.length
    · obtain ⟨g1, o1, rfl, hc1⟩ := HA.out.1 k hlt
      obtain ⟨lo, hi⟩ := HA.out.2 k hlt
      rw [show xs[k]?.getD 0 = el xs k from rfl] at hc1 lo hi
      cases hb : Pl.byteOk (el xs k)
      · go_wp2_with (go_at_call 87; refine (isByte _ _ lo hi).mono ?_; rintro e w' ⟨rfl, rfl⟩; rw [hb])
        go_ret
        exact ⟨rB (Pl.bytesOk_no hlt hb).symm, rfl⟩
      · go_wp2_with (go_at_call 87; refine (isByte _ _ lo hi).mono ?_; rintro e w' ⟨rfl, rfl⟩; rw [hb])
        go_round
        case rel => exact ⟨k + 1, by omega, by go_num, snoc_all HE.out hb⟩
        case measure => simp [intOf]; omega
    · go_wp2
      go_ret
      exact ⟨rB (Pl.bytesOk_of (fun i hi => HE.out i (by omega))).symm, rfl⟩
end Go.Proofs.Ytblddehlkaolbaa

namespace Go.Proofs.Ytblddehlkaolbaa
open Go.RowKit
set_option linter.unusedVariables false

theorem Wide.at5 {ys : List Int} (h : Wide ys) {m k : Nat} (hl : ys.length = 5 * m) (hk : k < m) : -9223372036854775808 ≤ el ys (k * 5 + 3) ∧ el ys (k * 5 + 3) ≤ 9223372036854775807 := h (k * 5 + 3) (by omega)

theorem goodBus (w : World) (a b : Option Addr) (ca cb m : Nat) (xs ys : List Int) (ha : Came w a xs) (hb : Came w b ys) (lx : xs.length ≤ 2000000) (ly : ys.length = 5 * m) (bm : m ≤ 2000000) :
    Calls Try.prog 45 #[.agg #[.slice a xs.length ca, .slice b m cb]] w fun e w' => e = .returned (.bool (Pl.goodBus xs ys m)) ∧ Kept 0 0 w w' := by
  have HA := hide ha
  have HB := hide hb
  have HY := hide ly
  have HK0 := hide (kept_alloc w (.cells #[.slice a xs.length ca, .slice b m cb] 27))
  clear ha hb ly
  cases h1 : ((xs.length : Int) != 512)
  · have hl5 : xs.length = 512 := by simp at h1; omega
    have G : Hid (Pl.goodBus xs ys m = (Pl.accsOk ys m && (Pl.bytesOk xs && decide (m ≤ 400)))) := hide (by
      unfold Pl.goodBus
      rw [show decide (xs.length = 512) = true from by simp [hl5], Bool.true_and])
    clear hl5
    cases h2 : Pl.bytesOk xs
    · go_enter Try.func45, Try.ntmps45
      go_wp2_with (go_at_call 64; refine (areBytes _ a ca xs (HA.out.keptS HK0.out) lx).mono ?_; rintro e w' ⟨rfl, rfl⟩; rw [h2])
      go_ret
      exact ⟨rB (by rw [G.out, h2, Bool.false_and, Bool.and_false]), HK0.out⟩
    · cases h3 : decide ((400 : Int) < (m : Int))
      · go_enter Try.func45, Try.ntmps45
        go_wp2_with (first | (go_at_call 64; refine (areBytes _ a ca xs (HA.out.keptS HK0.out) lx).mono ?_; rintro e w' ⟨rfl, rfl⟩; rw [h2]) | fail)
        obtain ⟨W, hW⟩ : ∃ W : World, W = w.alloc (.cells #[.slice a xs.length ca, .slice b m cb] 27) := ⟨_, rfl⟩
        rw [← hW] at HK0 ⊢
        clear hW
        go_loopw [4, 24] (fun _ j wr => ∃ k : Nat, k ≤ m ∧ j = .int .i64 k ∧ (∀ i, i < k → Pl.accAt ys i = true) ∧ Kept 0 0 W wr) (fun _ j _ => m - (intOf j).toNat)
        case atStart => exact ⟨0, Nat.zero_le _, rfl, fun i hi => absurd hi (Nat.not_lt_zero i), Kept.refl _ _ _⟩
        case round =>
          obtain ⟨k, hk, rfl, heq, hkept⟩ := hrel
          have HE := hide heq
          have HK := hide hkept
          clear heq hkept
          by_cases hlt : k < m
          · obtain ⟨lo, hi⟩ := HB.out.2.at5 HY.out hlt
            obtain ⟨g1, o1, rfl, p0, p1, p2, p3, p4⟩ := ((HB.out.keptS (HK0.out.trans HK.out)).1).five HY.out hlt
            cases hb : Pl.accAt ys k
            · have hb2 : Pl.accOk (el ys (k * 5)) (el ys (k * 5 + 1)) (el ys (k * 5 + 2)) (el ys (k * 5 + 3)) (el ys (k * 5 + 4)) = false := hb
              clear hb
              go_wp2_with (go_at_call 80; refine (isLogged _ _ _ _ _ _ lo hi).mono ?_; rintro e w' ⟨rfl, o, p, rfl⟩; rw [hb2])
              go_ret
              exact ⟨rB (by unfold Pl.goodBus; rw [Pl.accsOk_no hlt hb2]; rfl), HK0.out.trans (kept_new (kept_new (kept_new HK.out _) _) _)⟩
            · have hb2 : Pl.accOk (el ys (k * 5)) (el ys (k * 5 + 1)) (el ys (k * 5 + 2)) (el ys (k * 5 + 3)) (el ys (k * 5 + 4)) = true := hb
              clear hb
              go_wp2_with (go_at_call 80; refine (isLogged _ _ _ _ _ _ lo hi).mono ?_; rintro e w' ⟨rfl, o, p, rfl⟩; rw [hb2])
              go_roundw
              case rel => exact ⟨k + 1, by omega, by go_num, snoc_all HE.out hb2, kept_new (kept_new (kept_new HK.out _) _) _⟩
              case measure => simp [intOf]; omega
          · have HA1 : Hid (Pl.accsOk ys m = true) := hide (Pl.accsOk_of (fun i hi => HE.out i (by omega)))
            go_wp2_with fail
            go_ret
            refine ⟨rB ?_, HK0.out.trans HK.out⟩
            rw [G.out, HA1.out, h2]
            simp at h3
            simp; omega
      · go_enter Try.func45, Try.ntmps45
        go_wp2_with (go_at_call 64; refine (areBytes _ a ca xs (HA.out.keptS HK0.out) lx).mono ?_; rintro e w' ⟨rfl, rfl⟩; rw [h2])
        go_ret
        refine ⟨rB ?_, HK0.out⟩
        rw [G.out]
        simp at h3
        rw [show decide (m ≤ 400) = false from by simp; omega]
        simp
  · have hl5 : Hid (¬ xs.length = 512) := hide (by simp at h1; omega)
    go_enter Try.func45, Try.ntmps45
    go_wp2_with (go_at_call 64; fail)
    go_ret
    refine ⟨rB ?_, HK0.out⟩
    unfold Pl.goodBus
    rw [show decide (xs.length = 512) = false from by simp [hl5.out]]
    simp
end Go.Proofs.Ytblddehlkaolbaa

namespace Go.Proofs.Ytblddehlkaolbaa
open Go.RowKit
theorem Blk.all {w : World} {b : Nat} {cs : Array Value} {ty : TypeId} (h : Blk w b cs ty) (i : Nat) : w.cell? ⟨b, i, none⟩ = cs[i]? := by
  have e : w.heap[b]? = some (.cells cs ty (0, 0)) := h
  unfold World.cell?
  dsimp only
  rw [e]
  simp
end Go.Proofs.Ytblddehlkaolbaa

namespace Go.Proofs.Ytblddehlkaolbaa
open Go.RowKit
set_option linter.unusedVariables false
set_option maxHeartbeats 1000000 in
theorem implGoodCpu (w : World) (c : Pl.Cp) (a b e q : Option Addr) (ca cb ce cq : Nat) (ha : Came w a c.r.xs) (hb : Came w b c.r.ys) (he : Came w e c.bx) (hq : Came w q c.bl) (lx : c.r.xs.length ≤ 2000000) (ly : c.r.ys.length ≤ 2000000) (lb : c.bx.length ≤ 2000000) (ll : c.bl.length = 5 * c.bm) (lm : c.bm ≤ 2000000) (wf : Pl.WfR c.r) :
    Calls Try.prog 19 #[.agg #[.slice a c.r.xs.length ca, .slice b c.r.ys.length cb, .int .i64 c.r.o, .int .i64 c.r.p, .int .i64 c.r.f, .int .i64 c.r.m, .bool c.r.s, .bool c.r.t, .slice e c.bx.length ce, .slice q c.bm cq, .bool c.st, .bool c.ha]] w fun r w' => r = .returned (.bool (Pl.cpOk c)) ∧ Kept 0 0 w w' := by
  have K0 := hide (kept_alloc w (.cells #[.slice a c.r.xs.length ca, .slice b c.r.ys.length cb, .int .i64 c.r.o, .int .i64 c.r.p, .int .i64 c.r.f, .int .i64 c.r.m, .bool c.r.s, .bool c.r.t, .slice e c.bx.length ce, .slice q c.bm cq, .bool c.st, .bool c.ha] 29))
  have HBA := hide (Blk.new w #[.slice a c.r.xs.length ca, .slice b c.r.ys.length cb, .int .i64 c.r.o, .int .i64 c.r.p, .int .i64 c.r.f, .int .i64 c.r.m, .bool c.r.s, .bool c.r.t, .slice e c.bx.length ce, .slice q c.bm cq, .bool c.st, .bool c.ha] 29)
  obtain ⟨X, hX⟩ : ∃ X : World, w.alloc (.cells #[.slice a c.r.xs.length ca, .slice b c.r.ys.length cb, .int .i64 c.r.o, .int .i64 c.r.p, .int .i64 c.r.f, .int .i64 c.r.m, .bool c.r.s, .bool c.r.t, .slice e c.bx.length ce, .slice q c.bm cq, .bool c.st, .bool c.ha] 29) = X := ⟨_, rfl⟩
  rw [hX] at K0 HBA
  have HA := hide (ha.keptS K0.out)
  have HB := hide (hb.keptS K0.out)
  have HE := hide (he.keptS K0.out)
  have HQ := hide (hq.keptS K0.out)
  clear ha hb he hq
  have p := HBA.out.all
  cases h1 : Pl.rgOk c.r
  · go_enter Try.func19, Try.ntmps19
    go_wp2_with (go_at_call 44; refine (implGoodRegs _ c.r a b ca cb HA.out HB.out lx ly wf).mono ?_; rintro e9 W ⟨rfl, k9⟩; rw [h1]; have HK1 := hide k9; have HB1 := hide (HBA.out.kept0 k9); have HE1 := hide (HE.out.keptS k9); have HQ1 := hide (HQ.out.keptS k9); clear k9 p; have p := HB1.out.all)
    go_ret
    exact ⟨rB (by unfold Pl.cpOk; simp [h1]), K0.out.trans HK1.out⟩
  · cases h2 : Pl.goodBus c.bx c.bl c.bm
    · go_enter Try.func19, Try.ntmps19
      go_wp2_with (first | (go_at_call 45; have z9 := HB1; refine (goodBus _ e q ce cq c.bm c.bx c.bl HE1.out HQ1.out lb ll lm).mono ?_; rintro e9 W2 ⟨rfl, k9⟩; rw [h2]; have HK2 := hide k9; have HB2 := hide (HB1.out.kept0 k9); clear k9 p; have p := HB2.out.all) | (go_at_call 44; refine (implGoodRegs _ c.r a b ca cb HA.out HB.out lx ly wf).mono ?_; rintro e9 W ⟨rfl, k9⟩; rw [h1]; have HK1 := hide k9; have HB1 := hide (HBA.out.kept0 k9); have HE1 := hide (HE.out.keptS k9); have HQ1 := hide (HQ.out.keptS k9); clear k9 p; have p := HB1.out.all))
      go_ret
      exact ⟨rB (by unfold Pl.cpOk; simp [h1, h2]), (K0.out.trans HK1.out).trans HK2.out⟩
    · rcases Bool.eq_false_or_eq_true c.st with h3 | h3
      all_goals
        have H3 := hide h3
        clear h3
        go_enter Try.func19, Try.ntmps19
        go_wp2_with (first | (go_at_call 45; have z9 := HB1; refine (goodBus _ e q ce cq c.bm c.bx c.bl HE1.out HQ1.out lb ll lm).mono ?_; rintro e9 W2 ⟨rfl, k9⟩; rw [h2]; have HK2 := hide k9; have HB2 := hide (HB1.out.kept0 k9); clear k9 p; have p := HB2.out.all; rw [H3.out] at p) | (go_at_call 44; refine (implGoodRegs _ c.r a b ca cb HA.out HB.out lx ly wf).mono ?_; rintro e9 W ⟨rfl, k9⟩; rw [h1]; have HK1 := hide k9; have HB1 := hide (HBA.out.kept0 k9); have HE1 := hide (HE.out.keptS k9); have HQ1 := hide (HQ.out.keptS k9); clear k9 p; have p := HB1.out.all))
        go_ret
        exact ⟨rB (by unfold Pl.cpOk; simp [h1, h2, H3.out]), (K0.out.trans HK1.out).trans HK2.out⟩
end Go.Proofs.Ytblddehlkaolbaa

namespace Go.Proofs.Ytblddehlkaolbaa
open Go.RowKit
set_option linter.unusedVariables false
set_option maxRecDepth 100000 in
set_option maxHeartbeats 16000000 in
theorem lawGoodCpu (d : Pl.Cp) (a b e q : Option Addr) (ca cb ce cq : Nat) (w : World) (hx : Came w a d.r.xs) (hy : Came w b d.r.ys) (hz : Came w e d.bx) (hq : Came w q d.bl) (lx : d.r.xs.length ≤ 9223372036854775807) (ly : d.r.ys.length ≤ 9223372036854775807) (lz : d.bx.length ≤ 9223372036854775807) (lm : d.bm ≤ 9223372036854775807) (ll : d.bl.length = 5 * d.bm) (wfd : Pl.WfR d.r) :
    Calls Try.prog 4 #[.agg #[.slice a d.r.xs.length ca, .slice b d.r.ys.length cb, .int .i64 d.r.o, .int .i64 d.r.p, .int .i64 d.r.f, .int .i64 d.r.m, .bool d.r.s, .bool d.r.t, .slice e d.bx.length ce, .slice q d.bm cq, .bool d.st, .bool d.ha]] w fun e w' => e = .returned (.bool true) ∧ Below w.heap.size w w' := by
  have HX := hide hx
  have HY := hide hy
  have HZ := hide hz
  have HQ := hide hq
  have HWF := hide wfd
  have HLL := hide ll
  have Bel := hide (kept_alloc w (.cells #[.slice a d.r.xs.length ca, .slice b d.r.ys.length cb, .int .i64 d.r.o, .int .i64 d.r.p, .int .i64 d.r.f, .int .i64 d.r.m, .bool d.r.s, .bool d.r.t, .slice e d.bx.length ce, .slice q d.bm cq, .bool d.st, .bool d.ha] 43)).below
  have WA := hide (Blk.new w #[.slice a d.r.xs.length ca, .slice b d.r.ys.length cb, .int .i64 d.r.o, .int .i64 d.r.p, .int .i64 d.r.f, .int .i64 d.r.m, .bool d.r.s, .bool d.r.t, .slice e d.bx.length ce, .slice q d.bm cq, .bool d.st, .bool d.ha] 43)
  obtain ⟨X0, hX0⟩ : ∃ X : World, w.alloc (.cells #[.slice a d.r.xs.length ca, .slice b d.r.ys.length cb, .int .i64 d.r.o, .int .i64 d.r.p, .int .i64 d.r.f, .int .i64 d.r.m, .bool d.r.s, .bool d.r.t, .slice e d.bx.length ce, .slice q d.bm cq, .bool d.st, .bool d.ha] 43) = X := ⟨_, rfl⟩
  have nX0 : X0.heap.size = w.heap.size + 1 := by simp [← hX0]
  rw [hX0] at Bel WA
  clear hx hy hz hq wfd ll
  by_cases hs : szC d.r.xs.length d.r.ys.length d.bx.length d.bm 1048576 < 0
  · go_enter Try.func4, Try.ntmps4
    have p0_0 := WA.out.cell (i := 0) rfl
    have p0_1 := WA.out.cell (i := 1) rfl
    have p0_2 := WA.out.cell (i := 2) rfl
    have p0_3 := WA.out.cell (i := 3) rfl
    have p0_4 := WA.out.cell (i := 4) rfl
    have p0_5 := WA.out.cell (i := 5) rfl
    have p0_6 := WA.out.cell (i := 6) rfl
    have p0_7 := WA.out.cell (i := 7) rfl
    have p0_8 := WA.out.cell (i := 8) rfl
    have p0_9 := WA.out.cell (i := 9) rfl
    have p0_10 := WA.out.cell (i := 10) rfl
    have p0_11 := WA.out.cell (i := 11) rfl
    go_wp2_with fail
    refine (szCpu _ d a b e q ca cb ce cq 1048576 lx ly lz lm (by decide) (by decide)).mono ?_
    rintro e9 w1 ⟨rfl, k⟩
    have Bn := hide (below_kept Bel.out k (by omega))
    clear k
    go_wp2_with fail
    go_ret
    exact ⟨rfl, Bn.out⟩
  · have hb := szC_neg hs
    have bx : d.r.xs.length ≤ 2000000 := by omega
    have by_ : d.r.ys.length ≤ 2000000 := by omega
    have bz : d.bx.length ≤ 2000000 := by omega
    have bm : d.bm ≤ 2000000 := by omega
    have ds : decide (szC d.r.xs.length d.r.ys.length d.bx.length d.bm 1048576 < 0) = false := by simpa using hs
    clear hs hb
    generalize hKK : Pl.cpOk d = K
    have HKK := hide hKK
    clear hKK
    go_enter Try.func4, Try.ntmps4
    have p0_0 := WA.out.cell (i := 0) rfl
    have p0_1 := WA.out.cell (i := 1) rfl
    have p0_2 := WA.out.cell (i := 2) rfl
    have p0_3 := WA.out.cell (i := 3) rfl
    have p0_4 := WA.out.cell (i := 4) rfl
    have p0_5 := WA.out.cell (i := 5) rfl
    have p0_6 := WA.out.cell (i := 6) rfl
    have p0_7 := WA.out.cell (i := 7) rfl
    have p0_8 := WA.out.cell (i := 8) rfl
    have p0_9 := WA.out.cell (i := 9) rfl
    have p0_10 := WA.out.cell (i := 10) rfl
    have p0_11 := WA.out.cell (i := 11) rfl
    go_wp2_with fail
    clear p0_0 p0_1 p0_2 p0_3 p0_4 p0_5 p0_6 p0_7 p0_8 p0_9 p0_10 p0_11
    refine (szCpu _ d a b e q ca cb ce cq 1048576 lx ly lz lm (by decide) (by decide)).mono ?_
    rintro e9 w1 ⟨rfl, k⟩
    have Beln := hide (below_kept Bel.out k (by omega))
    have WAn := hide (WA.out.kept k (by omega))
    clear Bel WA
    have Bel := Beln
    have WA := WAn
    clear Beln WAn
    have nw1 := k.size
    clear k
    clear hX0
    have p0_0 := WA.out.cell (i := 0) rfl
    have p0_1 := WA.out.cell (i := 1) rfl
    have p0_2 := WA.out.cell (i := 2) rfl
    have p0_3 := WA.out.cell (i := 3) rfl
    have p0_4 := WA.out.cell (i := 4) rfl
    have p0_5 := WA.out.cell (i := 5) rfl
    have p0_6 := WA.out.cell (i := 6) rfl
    have p0_7 := WA.out.cell (i := 7) rfl
    have p0_8 := WA.out.cell (i := 8) rfl
    have p0_9 := WA.out.cell (i := 9) rfl
    have p0_10 := WA.out.cell (i := 10) rfl
    have p0_11 := WA.out.cell (i := 11) rfl
    go_wp2_with fail
    clear p0_0 p0_1 p0_2 p0_3 p0_4 p0_5 p0_6 p0_7 p0_8 p0_9 p0_10 p0_11 ds
    refine (toCpu _ d a b e q ca cb ce cq (HX.out.below Bel.out).1 (HY.out.below Bel.out).1 (HZ.out.below Bel.out).1 (HQ.out.below Bel.out).1 bx by_ bz HLL.out bm).mono ?_
    rintro e9 w2 ⟨g1, g2, g3, g4, rfl, hs9, k⟩
    have Beln := hide (below_kept Bel.out k (by omega))
    have WAn := hide (WA.out.kept k (by omega))
    clear Bel WA
    have Bel := Beln
    have WA := WAn
    clear Beln WAn
    have nw2 := k.size
    have O1 := hide hs9
    clear k hs9
    go_wp2_with fail
    refine (specGoodCpu _ d _ _ _ _ _ _ _ _ O1.out.d.row O1.out.a'.row O1.out.b'.row O1.out.l.row bx by_ bz HLL.out bm).mono ?_
    rw [HKK.out]
    rintro e9 w3 ⟨rfl, k⟩
    have Beln := hide (below_kept Bel.out k (by omega))
    have WAn := hide (WA.out.kept k (by omega))
    have O1n := hide (O1.out.kept k (by omega))
    clear Bel WA O1
    have Bel := Beln
    have WA := WAn
    have O1 := O1n
    clear Beln WAn O1n
    have nw3 := k.size
    clear k
    clear O1
    have p0_0 := WA.out.cell (i := 0) rfl
    have p0_1 := WA.out.cell (i := 1) rfl
    have p0_2 := WA.out.cell (i := 2) rfl
    have p0_3 := WA.out.cell (i := 3) rfl
    have p0_4 := WA.out.cell (i := 4) rfl
    have p0_5 := WA.out.cell (i := 5) rfl
    have p0_6 := WA.out.cell (i := 6) rfl
    have p0_7 := WA.out.cell (i := 7) rfl
    have p0_8 := WA.out.cell (i := 8) rfl
    have p0_9 := WA.out.cell (i := 9) rfl
    have p0_10 := WA.out.cell (i := 10) rfl
    have p0_11 := WA.out.cell (i := 11) rfl
    go_wp2_with fail
    clear p0_0 p0_1 p0_2 p0_3 p0_4 p0_5 p0_6 p0_7 p0_8 p0_9 p0_10 p0_11
    refine (toCpu _ d a b e q ca cb ce cq (HX.out.below Bel.out).1 (HY.out.below Bel.out).1 (HZ.out.below Bel.out).1 (HQ.out.below Bel.out).1 bx by_ bz HLL.out bm).mono ?_
    rintro e9 w4 ⟨g5, g6, g7, g8, rfl, hs9, k⟩
    have Beln := hide (below_kept Bel.out k (by omega))
    have WAn := hide (WA.out.kept k (by omega))
    clear Bel WA
    have Bel := Beln
    have WA := WAn
    clear Beln WAn
    have nw4 := k.size
    have O3 := hide hs9
    clear k hs9
    have ka : Kept 0 0 w4 (w4.alloc (.cells #[.slice (some ⟨g5, 0, none⟩) d.r.xs.length d.r.xs.length, .slice (some ⟨g6, 0, none⟩) d.r.ys.length d.r.ys.length, .int .i64 d.r.o, .int .i64 d.r.p, .int .i64 d.r.f, .int .i64 d.r.m, .bool d.r.s, .bool d.r.t, .slice (some ⟨g7, 0, none⟩) d.bx.length d.bx.length, .slice (some ⟨g8, 0, none⟩) d.bm d.bm, .bool d.st, .bool d.ha] 29)) := kept_alloc w4 _
    have Beln := hide (below_kept Bel.out ka (by omega))
    have WAn := hide (WA.out.kept ka (by omega))
    have O3n := hide (O3.out.kept ka (by omega))
    clear Bel WA O3
    have Bel := Beln
    have WA := WAn
    have O3 := O3n
    clear Beln WAn O3n
    have B0 := (Blk.new w4 #[.slice (some ⟨g5, 0, none⟩) d.r.xs.length d.r.xs.length, .slice (some ⟨g6, 0, none⟩) d.r.ys.length d.r.ys.length, .int .i64 d.r.o, .int .i64 d.r.p, .int .i64 d.r.f, .int .i64 d.r.m, .bool d.r.s, .bool d.r.t, .slice (some ⟨g7, 0, none⟩) d.bx.length d.bx.length, .slice (some ⟨g8, 0, none⟩) d.bm d.bm, .bool d.st, .bool d.ha] 29)
    obtain ⟨X4, hX4⟩ : ∃ X : World, (w4.alloc (.cells #[.slice (some ⟨g5, 0, none⟩) d.r.xs.length d.r.xs.length, .slice (some ⟨g6, 0, none⟩) d.r.ys.length d.r.ys.length, .int .i64 d.r.o, .int .i64 d.r.p, .int .i64 d.r.f, .int .i64 d.r.m, .bool d.r.s, .bool d.r.t, .slice (some ⟨g7, 0, none⟩) d.bx.length d.bx.length, .slice (some ⟨g8, 0, none⟩) d.bm d.bm, .bool d.st, .bool d.ha] 29)) = X := ⟨_, rfl⟩
    have nX4 : X4.heap.size = w4.heap.size + 1 := by simp [← hX4]
    rw [hX4] at Bel WA O3 B0
    have VA := hide B0
    clear ka B0
    have p0_0 := VA.out.cell (i := 0) rfl
    have p0_1 := VA.out.cell (i := 1) rfl
    have p0_2 := VA.out.cell (i := 2) rfl
    have p0_3 := VA.out.cell (i := 3) rfl
    have p0_4 := VA.out.cell (i := 4) rfl
    have p0_5 := VA.out.cell (i := 5) rfl
    have p0_6 := VA.out.cell (i := 6) rfl
    have p0_7 := VA.out.cell (i := 7) rfl
    have p0_8 := VA.out.cell (i := 8) rfl
    have p0_9 := VA.out.cell (i := 9) rfl
    have p0_10 := VA.out.cell (i := 10) rfl
    have p0_11 := VA.out.cell (i := 11) rfl
    go_wp2_with fail
    clear p0_0 p0_1 p0_2 p0_3 p0_4 p0_5 p0_6 p0_7 p0_8 p0_9 p0_10 p0_11 hX4
    refine (implGoodCpu _ d _ _ _ _ _ _ _ _ ⟨O3.out.d.row, HX.out.2⟩ ⟨O3.out.a'.row, HY.out.2⟩ ⟨O3.out.b'.row, HZ.out.2⟩ ⟨O3.out.l.row, HQ.out.2⟩ bx by_ bz HLL.out bm HWF.out).mono ?_
    rw [HKK.out]
    rintro e9 w5 ⟨rfl, k⟩
    have Beln := hide (below_kept Bel.out k (by omega))
    have WAn := hide (WA.out.kept k (by omega))
    have O3n := hide (O3.out.kept k (by omega))
    have VAn := hide (VA.out.kept k (by omega))
    clear Bel WA O3 VA
    have Bel := Beln
    have WA := WAn
    have O3 := O3n
    have VA := VAn
    clear Beln WAn O3n VAn
    have nw5 := k.size
    clear k
    have p0_0 := WA.out.cell (i := 0) rfl
    have p0_1 := WA.out.cell (i := 1) rfl
    have p0_2 := WA.out.cell (i := 2) rfl
    have p0_3 := WA.out.cell (i := 3) rfl
    have p0_4 := WA.out.cell (i := 4) rfl
    have p0_5 := WA.out.cell (i := 5) rfl
    have p0_6 := WA.out.cell (i := 6) rfl
    have p0_7 := WA.out.cell (i := 7) rfl
    have p0_8 := WA.out.cell (i := 8) rfl
    have p0_9 := WA.out.cell (i := 9) rfl
    have p0_10 := WA.out.cell (i := 10) rfl
    have p0_11 := WA.out.cell (i := 11) rfl
    have p1_0 := VA.out.cell (i := 0) rfl
    have p1_1 := VA.out.cell (i := 1) rfl
    have p1_2 := VA.out.cell (i := 2) rfl
    have p1_3 := VA.out.cell (i := 3) rfl
    have p1_4 := VA.out.cell (i := 4) rfl
    have p1_5 := VA.out.cell (i := 5) rfl
    have p1_6 := VA.out.cell (i := 6) rfl
    have p1_7 := VA.out.cell (i := 7) rfl
    have p1_8 := VA.out.cell (i := 8) rfl
    have p1_9 := VA.out.cell (i := 9) rfl
    have p1_10 := VA.out.cell (i := 10) rfl
    have p1_11 := VA.out.cell (i := 11) rfl
    go_upto_region 10 with fail
    go_cut [22, 23, 24, 25, 26] (fun _ _ _ _ t wx => t = .bool false ∧ Kept 0 0 w5 wx)
    case first =>
      go_region_with (first | (go_at_call 18; refine (toCpu _ d a b e q ca cb ce cq (HX.out.below Bel.out.drew).1 (HY.out.below Bel.out.drew).1 (HZ.out.below Bel.out.drew).1 (HQ.out.below Bel.out.drew).1 bx by_ bz HLL.out bm).mono ?_; rintro e9 w7 ⟨g9, g10, g11, g12, rfl, hs9, kd⟩; have k := undrewK kd; have VN := hide (VA.out.kept0 k); have u0 := VN.out.cell (i := 0) rfl; have u1 := VN.out.cell (i := 1) rfl; have u2 := VN.out.cell (i := 2) rfl; have u3 := VN.out.cell (i := 3) rfl; have u4 := VN.out.cell (i := 4) rfl; have u5 := VN.out.cell (i := 5) rfl; have u6 := VN.out.cell (i := 6) rfl; have u7 := VN.out.cell (i := 7) rfl; have u8 := VN.out.cell (i := 8) rfl; have u9 := VN.out.cell (i := 9) rfl; have u10 := VN.out.cell (i := 10) rfl; have u11 := VN.out.cell (i := 11) rfl; have P3 := hide (O3.out.kept k (by omega)); have P5 := hide hs9; have K7 := hide k; clear k kd hs9) | (go_at_call 11; refine (eqCpu _ d _ _ _ _ _ _ _ _ _ _ _ _ _ _ _ _ P3.out.d.row P3.out.a'.row P3.out.b'.row P3.out.l.row P5.out.d.row P5.out.a'.row P5.out.b'.row P5.out.l.row bx by_ bz HLL.out bm).mono ?_; rintro e9 w8 ⟨rfl, k⟩; have K8 := hide (K7.out.trans k); clear k))
      all_goals
        go_wp2_with fail
        go_meet
        case rel => exact ⟨rfl, K8.out⟩
    case rest =>
      clear p0_0 p0_1 p0_2 p0_3 p0_4 p0_5 p0_6 p0_7 p0_8 p0_9 p0_10 p0_11 p1_0 p1_1 p1_2 p1_3 p1_4 p1_5 p1_6 p1_7 p1_8 p1_9 p1_10 p1_11
      rename_i wx
      obtain ⟨rfl, k⟩ := hcut
      have Beln := hide (below_kept Bel.out k (by omega))
      have WAn := hide (WA.out.kept k (by omega))
      have O3n := hide (O3.out.kept k (by omega))
      have VAn := hide (VA.out.kept k (by omega))
      clear Bel WA O3 VA
      have Bel := Beln
      have WA := WAn
      have O3 := O3n
      have VA := VAn
      clear Beln WAn O3n VAn
      have nwx := k.size
      clear k
      go_wp2_with fail
      go_ret
      exact ⟨rfl, Bel.out⟩
end Go.Proofs.Ytblddehlkaolbaa

namespace Go.Proofs.Ytblddehlkaolbaa
open Go.RowKit Go.WideShapes Go.ChangeShapes Go.ChangeAt
set_option linter.unusedVariables false
set_option linter.unusedSimpArgs false

theorem Try.cellsInt : Try.prog.cellsOf 3 = 1 := by kernel_rfl
theorem Try.cellsAcc : Try.prog.cellsOf 119 = 5 := by kernel_rfl
theorem Try.cellsBus : Try.prog.cellsOf 41 = 2 := by kernel_rfl
theorem Try.cellsBool : Try.prog.cellsOf 4 = 1 := by kernel_rfl
theorem Try.cellsInts : Try.prog.cellsOf 22 = 1 := by kernel_rfl
theorem Try.cellsAccs : Try.prog.cellsOf 39 = 1 := by kernel_rfl
theorem Try.cellsRegs : Try.prog.cellsOf 38 = 8 := by kernel_rfl
theorem Try.cellsCpu : Try.prog.cellsOf 43 = 12 := by kernel_rfl


/-- from numbers at each place to the row of them -/
theorem Addr.add_add_own (a : Addr) (i j : Nat) : (a.add i).add j = a.add (i + j) := by
  unfold Addr.add
  by_cases hi : i = 0 <;> by_cases hj : j = 0 <;> simp [hi, hj, Nat.add_assoc]
set_option maxRecDepth 100000 in
theorem came_of {w : World} {x : Addr} {n : Nat} (h : ∀ i, i < n → ∃ z : Int, w.cell? (x.add i) = some (.int .i64 z) ∧ (Lit.int .i64 z).wf = true) : ∃ xs : List Int, xs.length = n ∧ Came w (some x) xs := by
  obtain ⟨f, hf⟩ := Go.Deep.choose_lt h
  refine ⟨(List.range n).map f, by simp, ?_, ?_⟩
  · intro i hi
    have hi' : i < n := by simpa using hi
    obtain ⟨g, off, spot⟩ := x
    have hspot : spot = none := by simpa [Addr.add] using World.cell?_spot (hf 0 (by omega)).1
    subst hspot
    refine ⟨g, off, rfl, ?_⟩
    have hc := (hf i hi').1
    by_cases h0 : i = 0
    · subst h0; simpa [Addr.add, hi'] using hc
    · simpa [Addr.add, h0, hi'] using hc
  · intro i hi
    have hi' : i < n := by simpa using hi
    have := bounds_i64 (hf i hi').2
    simpa [hi'] using this

section
variable {H : Type} {enc : TypeId × Value → H} {w : World} {base : Nat} {spare : Nat → Bool} {held : Bool}

set_option maxRecDepth 100000 in
theorem open_intRow {fuel : Nat} {v : Value} {y : DataW H × List MemPlace} (h : DataW.trod enc Try.prog w base spare held fuel 22 [v] = some y) :
    ∃ (a : Option Addr) (cap : Nat) (xs : List Int), v = .slice a xs.length cap ∧ Came w a xs ∧ xs.length ≤ maxLen := by
  rcases open_ints Try.underlying22 Try.underlying3 Try.cellsInt h with ⟨hc, _⟩ | ⟨x, len, cap, zs, hc, _, hl, hm, hz, _, hcell, hwz⟩
  · simp at hc
    exact ⟨none, 0, [], hc, ⟨fun i hi => absurd hi (Nat.not_lt_zero i), fun i hi => absurd hi (Nat.not_lt_zero i)⟩, Nat.zero_le _⟩
  · simp at hc
    have hlen : len ≤ zs.length := by rw [hz]; split <;> omega
    obtain ⟨xs, rfl, hx⟩ := came_of (w := w) (x := x) (n := len) (fun i hi => ⟨zs.getD i 0, hcell i (by omega), hwz _ (by
      have : i < zs.length := by omega
      simp [List.getD, this])⟩)
    exact ⟨some x, cap, xs, hc, hx, by omega⟩

set_option maxRecDepth 100000 in
theorem open_accRow {fuel : Nat} {v : Value} {y : DataW H × List MemPlace} (h : DataW.trod enc Try.prog w base spare held fuel 39 [v] = some y) :
    ∃ (a : Option Addr) (m cap : Nat) (ys : List Int), v = .slice a m cap ∧ Came w a ys ∧ ys.length = 5 * m ∧ m ≤ maxLen := by
  rcases Go.Deep.open_slice Try.underlying39 h with ⟨hc, _⟩ | ⟨x, len, cap, m, n, D, Pl, hc, _, hl, hm, hmm, _, hel⟩
  · simp at hc
    exact ⟨none, 0, 0, [], hc, ⟨fun i hi => absurd hi (Nat.not_lt_zero i), fun i hi => absurd hi (Nat.not_lt_zero i)⟩, rfl, Nat.zero_le _⟩
  · simp at hc
    have hlen : len ≤ m := by rw [hmm]; split <;> omega
    obtain ⟨ys, hy, hx⟩ := came_of (w := w) (x := x) (n := 5 * len) (by
      intro i hi
      obtain ⟨cs', h1, h2⟩ := hel (i / 5) (by omega)
      rw [Try.cellsAcc] at h1
      obtain ⟨_, hl5, hcs⟩ := World.cells?_some h1
      obtain ⟨zs, k, _, _, _, hzl, hf⟩ := DataW.trod_struct Try.underlying119 h2
      have hget := hcs (i % 5) (by omega)
      rw [Addr.add_add_own, show i / 5 * 5 + i % 5 = i from by omega] at hget
      rw [hget]
      obtain ⟨c0, c1, c2, c3, c4, rfl⟩ : ∃ c0 c1 c2 c3 c4, cs' = [c0, c1, c2, c3, c4] := by
        match cs', hl5 with
        | [c0, c1, c2, c3, c4], _ => exact ⟨c0, c1, c2, c3, c4, rfl⟩
      obtain ⟨z0, z1, z2, z3, z4, rfl⟩ : ∃ z0 z1 z2 z3 z4, zs = [z0, z1, z2, z3, z4] := by
        match zs, hzl with
        | [z0, z1, z2, z3, z4], _ => exact ⟨z0, z1, z2, z3, z4, rfl⟩
      have t0 := hf 0 _ rfl
      have t1 := hf 1 _ rfl
      have t2 := hf 2 _ rfl
      have t3 := hf 3 _ rfl
      have t4 := hf 4 _ rfl
      simp [Try.cellsInt] at t0 t1 t2 t3 t4
      obtain ⟨n0, e0, _, b0⟩ := DataW.trod_int Try.underlying3 t0
      obtain ⟨n1, e1, _, b1⟩ := DataW.trod_int Try.underlying3 t1
      obtain ⟨n2, e2, _, b2⟩ := DataW.trod_int Try.underlying3 t2
      obtain ⟨n3, e3, _, b3⟩ := DataW.trod_int Try.underlying3 t3
      obtain ⟨n4, e4, _, b4⟩ := DataW.trod_int Try.underlying3 t4
      simp at e0 e1 e2 e3 e4
      subst e0 e1 e2 e3 e4
      obtain h | h | h | h | h : i % 5 = 0 ∨ i % 5 = 1 ∨ i % 5 = 2 ∨ i % 5 = 3 ∨ i % 5 = 4 := by omega
      all_goals rw [h]
      · exact ⟨n0, rfl, b0⟩
      · exact ⟨n1, rfl, b1⟩
      · exact ⟨n2, rfl, b2⟩
      · exact ⟨n3, rfl, b3⟩
      · exact ⟨n4, rfl, b4⟩)
    exact ⟨some x, len, cap, ys, hc, hx, hy, by omega⟩

set_option maxRecDepth 100000 in
theorem open_Cpu {r : Reach} {b0 : Nat} {v : Value} {d : DataW H} {p : List MemPlace} (hv : Value.okWide Try.prog w r b0 43 v) (h : DataW.Trod enc Try.prog w base spare held 43 v d p) :
    ∃ (a0 : Option Addr) (c0 : Nat) (x0 : List Int) (a1 : Option Addr) (c1 : Nat) (x1 : List Int) (i2 i3 i4 i5 : Int) (i6 i7 : Bool) (a8 : Option Addr) (c8 : Nat) (x8 : List Int) (a9 : Option Addr) (m9 c9 : Nat) (x9 : List Int) (i10 i11 : Bool), v = .agg #[.slice a0 x0.length c0, .slice a1 x1.length c1, .int .i64 i2, .int .i64 i3, .int .i64 i4, .int .i64 i5, .bool i6, .bool i7, .slice a8 x8.length c8, .slice a9 m9 c9, .bool i10, .bool i11] ∧ (Came w a0 x0 ∧ x0.length ≤ maxLen) ∧ (Came w a1 x1 ∧ x1.length ≤ maxLen) ∧ (Lit.int .i64 i2).wf = true ∧ (Lit.int .i64 i3).wf = true ∧ (Lit.int .i64 i4).wf = true ∧ (Lit.int .i64 i5).wf = true ∧ (Came w a8 x8 ∧ x8.length ≤ maxLen) ∧ (Came w a9 x9 ∧ x9.length = 5 * m9 ∧ m9 ≤ maxLen) := by
  obtain ⟨cs, rfl, hsz⟩ := okWide_struct Try.underlying43 hv
  rw [Try.cellsCpu] at hsz
  obtain ⟨cl⟩ := cs
  obtain ⟨c_0, c_1, c_2, c_3, c_4, c_5, c_6, c_7, c_8, c_9, c_10, c_11, rfl⟩ : ∃ c_0 c_1 c_2 c_3 c_4 c_5 c_6 c_7 c_8 c_9 c_10 c_11, cl = [c_0, c_1, c_2, c_3, c_4, c_5, c_6, c_7, c_8, c_9, c_10, c_11] := by
    match cl, hsz with
    | [c_0, c_1, c_2, c_3, c_4, c_5, c_6, c_7, c_8, c_9, c_10, c_11], _ => exact ⟨c_0, c_1, c_2, c_3, c_4, c_5, c_6, c_7, c_8, c_9, c_10, c_11, rfl⟩
  obtain ⟨fuel, hf0⟩ := h
  obtain ⟨zs, k, _, _, _, hzl, hf⟩ := DataW.trod_struct Try.underlying43 hf0
  obtain ⟨y_0, y_1, y_2, y_3, rfl⟩ : ∃ y_0 y_1 y_2 y_3, zs = [y_0, y_1, y_2, y_3] := by
    match zs, hzl with
    | [y_0, y_1, y_2, y_3], _ => exact ⟨y_0, y_1, y_2, y_3, rfl⟩
  have s0 := hf 0 _ rfl
  have s1 := hf 1 _ rfl
  have s2 := hf 2 _ rfl
  have s3 := hf 3 _ rfl
  simp [Value.cells, Try.cellsRegs, Try.cellsBus, Try.cellsBool] at s0 s1 s2 s3
  obtain ⟨zs, k2, _, _, _, hzl, hr⟩ := DataW.trod_struct Try.underlying38 s0
  obtain ⟨z_0, z_1, z_2, z_3, z_4, z_5, z_6, z_7, rfl⟩ : ∃ z_0 z_1 z_2 z_3 z_4 z_5 z_6 z_7, zs = [z_0, z_1, z_2, z_3, z_4, z_5, z_6, z_7] := by
    match zs, hzl with
    | [z_0, z_1, z_2, z_3, z_4, z_5, z_6, z_7], _ => exact ⟨z_0, z_1, z_2, z_3, z_4, z_5, z_6, z_7, rfl⟩
  have t0 := hr 0 _ rfl
  have t1 := hr 1 _ rfl
  have t2 := hr 2 _ rfl
  have t3 := hr 3 _ rfl
  have t4 := hr 4 _ rfl
  have t5 := hr 5 _ rfl
  have t6 := hr 6 _ rfl
  have t7 := hr 7 _ rfl
  simp [Value.cells, Try.cellsInt, Try.cellsBool, Try.cellsInts] at t0 t1 t2 t3 t4 t5 t6 t7
  obtain ⟨zs, k3, _, _, _, hzl, hb⟩ := DataW.trod_struct Try.underlying41 s1
  obtain ⟨x_0, x_1, rfl⟩ : ∃ x_0 x_1, zs = [x_0, x_1] := by
    match zs, hzl with
    | [x_0, x_1], _ => exact ⟨x_0, x_1, rfl⟩
  have t8 := hb 0 _ rfl
  have t9 := hb 1 _ rfl
  simp [Value.cells, Try.cellsInts, Try.cellsAccs] at t8 t9
  obtain ⟨a0, c0, x0, q0, hx0, lx0⟩ := open_intRow t0
  obtain ⟨a1, c1, x1, q1, hx1, lx1⟩ := open_intRow t1
  obtain ⟨i2, q2, _, wf2⟩ := DataW.trod_int Try.underlying3 t2
  obtain ⟨i3, q3, _, wf3⟩ := DataW.trod_int Try.underlying3 t3
  obtain ⟨i4, q4, _, wf4⟩ := DataW.trod_int Try.underlying3 t4
  obtain ⟨i5, q5, _, wf5⟩ := DataW.trod_int Try.underlying3 t5
  obtain ⟨i6, q6, _⟩ := DataW.trod_bool Try.underlying4 t6
  obtain ⟨i7, q7, _⟩ := DataW.trod_bool Try.underlying4 t7
  obtain ⟨a8, c8, x8, q8, hx8, lx8⟩ := open_intRow t8
  obtain ⟨a9, m9, c9, x9, q9, hx9, ly9, lm9⟩ := open_accRow t9
  obtain ⟨i10, q10, _⟩ := DataW.trod_bool Try.underlying4 s2
  obtain ⟨i11, q11, _⟩ := DataW.trod_bool Try.underlying4 s3
  simp at q0 q1 q2 q3 q4 q5 q6 q7 q8 q9 q10 q11
  subst q0 q1 q2 q3 q4 q5 q6 q7 q8 q9 q10 q11
  exact ⟨a0, c0, x0, a1, c1, x1, i2, i3, i4, i5, i6, i7, a8, c8, x8, a9, m9, c9, x9, i10, i11, rfl, ⟨hx0, lx0⟩, ⟨hx1, lx1⟩, wf2, wf3, wf4, wf5, ⟨hx8, lx8⟩, ⟨hx9, ly9, lm9⟩⟩
end
end Go.Proofs.Ytblddehlkaolbaa

