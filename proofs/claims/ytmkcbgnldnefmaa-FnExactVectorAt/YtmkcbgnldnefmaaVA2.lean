/- What the model's tests of words and operands answer. What the models of chapter 6 answer that make nothing: tests of registers and operands, the status. What the model of StatusOf answers, for every argument. What the model's GoodCpu answers, for every processor. VectorAt in numbers. What the model's InfoOf, FrameOf, VectorAt answer. What the program's test of a value of a size answers: one contract a function; none changes the world. What the program's tests of words, sizes and register numbers answer; none changes the world. What the program's small functions of chapter 6 answer: tests of numbers and registers; no old block is changed. What the program's GoodRegs answers, for all registers. What the program's small functions of chapter 4 answer: addresses, parts, accesses; none writes. What the program's tests of bytes answer; none changes the world. What the program's GoodBus answers, for every bus. What the program's GoodCpu answers, for every processor. What the program's functions over the bytes of a bus as one array answer. When a word may be looked at, in numbers. Words at places of a memory, of both sides. What the program's PeekWord and SameMemory answer, for every argument. What the program's InfoOf, FrameOf, VectorAt answer. The law on VectorAt: of whatever arguments, its Go function returns true, and no block that was there has turned. A processor that came in to a law, opened: four lists that lie in memory, the accesses spoken of as the row of their numbers. -/
import Derived.Test.YtmkcbgnldnefmaaVA1
import Derived.BigQuiet
import Derived.Deep.QuietTactic
import Derived.Deep.AppendLies
import Derived.Deep.RegionHeld3
import Derived.Laws.CopyOwn
import Derived.Deep.WholeRow
import Derived.Deep.RegionLawGrows
import Derived.Maps.AppendAt
import Derived.Laws.AppendOwnNone
import Derived.Deep.MidRow
import Derived.DeepKeys
import Derived.Laws.Rows
import Derived.Laws.Tables
import Derived.Deep.DeepCutAuto
import Derived.Lib.SmallJoins
import Derived.Deep.Slices
import Derived.ProofKit
import Derived.OpenShut
namespace Go.Proofs.Ytmkcbgnldnefmaa
open Go.RowKit
set_option linter.unusedVariables false
theorem specWord (n : Int) (w : World) : Calls Try.prog 80 #[iv n] w fun e w' => e = .returned (.bool (Pl.wordOk n)) ∧ w' = w := by
  go_enter Try.func80, Try.ntmps80
  go_wp2_with (go_at_call 31; refine (l1In _ _ _ _).mono ?_; rintro e w' ⟨rfl, hw⟩; have hw2 := hw.symm; clear hw; subst hw2)
  go_ret
  exact ⟨rfl, rfl⟩
end Go.Proofs.Ytmkcbgnldnefmaa

namespace Go.Proofs.Ytmkcbgnldnefmaa
open Go.RowKit
set_option linter.unusedVariables false

theorem specFlags (n : Int) (w : World) : Calls Try.prog 81 #[iv n] w fun e w' => e = .returned (.bool (Pl.within n 0 31)) ∧ w' = w := by
  go_enter Try.func81, Try.ntmps81
  go_wp2_with (go_at_call 31; refine (l1In _ _ _ _).mono ?_; rintro e w' ⟨rfl, hw⟩; have hw2 := hw.symm; clear hw; subst hw2)
  go_ret
  exact ⟨rfl, rfl⟩
theorem specFour (w : World) (a : Option Addr) (ca : Nat) (xs : List Int) (ha : IRow w a xs) (lx : xs.length ≤ 2000000) :
    Calls Try.prog 79 #[.slice a xs.length ca] w fun e w' => e = .returned (.bool (Pl.fourOk xs)) ∧ w' = w := by
  have HA := hide ha
  clear ha
  go_enter Try.func79, Try.ntmps79
  go_wp2
  go_loop [4, 7] (fun _ j => ∃ k : Nat, k ≤ xs.length ∧ j = iv k ∧ ∀ i, i < k → Pl.wordOk (el xs i) = true) (fun _ j => xs.length - (intOf j).toNat)
  case atStart => exact ⟨0, Nat.zero_le _, rfl, fun i hi => absurd hi (Nat.not_lt_zero i)⟩
  case round =>
    obtain ⟨k, hk, rfl, heq⟩ := hrel
    have HE := hide heq
    clear heq
    by_cases hlt : k < xs.length
    · obtain ⟨g1, o1, rfl, hc1⟩ := HA.out k hlt
      rw [show xs[k]?.getD 0 = el xs k from rfl] at hc1
      cases hb : Pl.wordOk (el xs k)
      · go_wp2_with (go_at_call 80; refine (specWord _ _).mono ?_; rintro e w' ⟨rfl, rfl⟩; rw [hb])
        go_ret
        exact ⟨rB (Pl.all_no hlt hb).symm, rfl⟩
      · go_wp2_with (go_at_call 80; refine (specWord _ _).mono ?_; rintro e w' ⟨rfl, rfl⟩; rw [hb])
        go_round
        case rel => exact ⟨k + 1, by omega, by go_num, snoc_all HE.out hb⟩
        case measure => simp [intOf]; omega
    · have E : Hid (Pl.fourOk xs = decide ((xs.length : Int) = 4)) := hide (Pl.all_of (fun i hi => HE.out i (by omega)))
      cases h4 : ((xs.length : Int) == 4)
      all_goals
        go_wp2
        go_ret
        exact ⟨rB (by rw [E.out]; simp at h4; simp [h4]), rfl⟩
set_option maxHeartbeats 4000000 in
theorem specGoodRegs (w : World) (r : Pl.Rg) (a b : Option Addr) (ca cb : Nat) (ha : IRow w a r.xs) (hb : IRow w b r.ys) (lx : r.xs.length ≤ 2000000) (ly : r.ys.length ≤ 2000000) :
    Calls Try.prog 53 #[.agg #[.slice a r.xs.length ca, .slice b r.ys.length cb, iv r.o, iv r.p, iv r.f, iv r.m, .bool r.s, .bool r.t]] w fun e w' => e = .returned (.bool (Pl.rgOk r)) ∧ Kept 0 0 w w' := by
  have HA := hide ha
  have HB := hide hb
  have HK := hide (kept_alloc w (.cells #[.slice a r.xs.length ca, .slice b r.ys.length cb, iv r.o, iv r.p, iv r.f, iv r.m, .bool r.s, .bool r.t] 33))
  clear ha hb
  have G : Hid (Pl.rgOk r = (Pl.fourOk r.xs && (Pl.fourOk r.ys && (Pl.wordOk r.o && (Pl.wordOk r.p && (Pl.within r.f 0 31 && Pl.within r.m 0 7)))))) := hide rfl
  cases h1 : Pl.fourOk r.xs
  · go_enter Try.func53, Try.ntmps53
    go_wp2_with (first | (go_at_call 79; refine (specFour _ a ca r.xs (HA.out.keptS HK.out) lx).mono ?_; rintro e w' ⟨rfl, hw⟩; have hw2 := hw.symm; clear hw; subst hw2; rw [h1]; have Z1 : True := trivial))
    go_ret
    exact ⟨rB (by rw [G.out, h1]; simp), HK.out⟩
  · cases h2 : Pl.fourOk r.ys
    · go_enter Try.func53, Try.ntmps53
      go_wp2_with (first | (go_at_call 79; have z := Z1; refine (specFour _ b cb r.ys (HB.out.keptS HK.out) ly).mono ?_; rintro e w' ⟨rfl, hw⟩; have hw2 := hw.symm; clear hw; subst hw2; rw [h2]) | (go_at_call 79; refine (specFour _ a ca r.xs (HA.out.keptS HK.out) lx).mono ?_; rintro e w' ⟨rfl, hw⟩; have hw2 := hw.symm; clear hw; subst hw2; rw [h1]; have Z1 : True := trivial))
      go_ret
      exact ⟨rB (by rw [G.out, h1, h2]; simp), HK.out⟩
    · cases h3 : Pl.wordOk r.o
      · go_enter Try.func53, Try.ntmps53
        go_wp2_with (first | (go_at_call 79; have z := Z1; refine (specFour _ b cb r.ys (HB.out.keptS HK.out) ly).mono ?_; rintro e w' ⟨rfl, hw⟩; have hw2 := hw.symm; clear hw; subst hw2; rw [h2]) | (go_at_call 79; refine (specFour _ a ca r.xs (HA.out.keptS HK.out) lx).mono ?_; rintro e w' ⟨rfl, hw⟩; have hw2 := hw.symm; clear hw; subst hw2; rw [h1]; have Z1 : True := trivial) | (go_at_call 80; refine (specWord r.o _).mono ?_; rintro e w' ⟨rfl, hw⟩; have hw2 := hw.symm; clear hw; subst hw2; rw [h3]; have Z3 : True := trivial))
        go_ret
        exact ⟨rB (by rw [G.out, h1, h2, h3]; simp), HK.out⟩
      · cases h4 : Pl.wordOk r.p
        · go_enter Try.func53, Try.ntmps53
          go_wp2_with (first | (go_at_call 79; have z := Z1; refine (specFour _ b cb r.ys (HB.out.keptS HK.out) ly).mono ?_; rintro e w' ⟨rfl, hw⟩; have hw2 := hw.symm; clear hw; subst hw2; rw [h2]) | (go_at_call 79; refine (specFour _ a ca r.xs (HA.out.keptS HK.out) lx).mono ?_; rintro e w' ⟨rfl, hw⟩; have hw2 := hw.symm; clear hw; subst hw2; rw [h1]; have Z1 : True := trivial) | (go_at_call 80; have z := Z3; refine (specWord r.p _).mono ?_; rintro e w' ⟨rfl, hw⟩; have hw2 := hw.symm; clear hw; subst hw2; rw [h4]) | (go_at_call 80; refine (specWord r.o _).mono ?_; rintro e w' ⟨rfl, hw⟩; have hw2 := hw.symm; clear hw; subst hw2; rw [h3]; have Z3 : True := trivial))
          go_ret
          exact ⟨rB (by rw [G.out, h1, h2, h3, h4]; simp), HK.out⟩
        · cases h5 : Pl.within r.f 0 31
          · go_enter Try.func53, Try.ntmps53
            go_wp2_with (first | (go_at_call 79; have z := Z1; refine (specFour _ b cb r.ys (HB.out.keptS HK.out) ly).mono ?_; rintro e w' ⟨rfl, hw⟩; have hw2 := hw.symm; clear hw; subst hw2; rw [h2]) | (go_at_call 79; refine (specFour _ a ca r.xs (HA.out.keptS HK.out) lx).mono ?_; rintro e w' ⟨rfl, hw⟩; have hw2 := hw.symm; clear hw; subst hw2; rw [h1]; have Z1 : True := trivial) | (go_at_call 80; have z := Z3; refine (specWord r.p _).mono ?_; rintro e w' ⟨rfl, hw⟩; have hw2 := hw.symm; clear hw; subst hw2; rw [h4]) | (go_at_call 80; refine (specWord r.o _).mono ?_; rintro e w' ⟨rfl, hw⟩; have hw2 := hw.symm; clear hw; subst hw2; rw [h3]; have Z3 : True := trivial) | (go_at_call 81; refine (specFlags _ _).mono ?_; rintro e w' ⟨rfl, hw⟩; have hw2 := hw.symm; clear hw; subst hw2; rw [h5]))
            go_ret
            exact ⟨rB (by rw [G.out, h1, h2, h3, h4, h5]; simp), HK.out⟩
          · cases h6 : Pl.within r.m 0 7
            · go_enter Try.func53, Try.ntmps53
              go_wp2_with (first | (go_at_call 79; have z := Z1; refine (specFour _ b cb r.ys (HB.out.keptS HK.out) ly).mono ?_; rintro e w' ⟨rfl, hw⟩; have hw2 := hw.symm; clear hw; subst hw2; rw [h2]) | (go_at_call 79; refine (specFour _ a ca r.xs (HA.out.keptS HK.out) lx).mono ?_; rintro e w' ⟨rfl, hw⟩; have hw2 := hw.symm; clear hw; subst hw2; rw [h1]; have Z1 : True := trivial) | (go_at_call 80; have z := Z3; refine (specWord r.p _).mono ?_; rintro e w' ⟨rfl, hw⟩; have hw2 := hw.symm; clear hw; subst hw2; rw [h4]) | (go_at_call 80; refine (specWord r.o _).mono ?_; rintro e w' ⟨rfl, hw⟩; have hw2 := hw.symm; clear hw; subst hw2; rw [h3]; have Z3 : True := trivial) | (go_at_call 81; refine (specFlags _ _).mono ?_; rintro e w' ⟨rfl, hw⟩; have hw2 := hw.symm; clear hw; subst hw2; rw [h5]) | (go_at_call 31; refine (l1In _ _ _ _).mono ?_; rintro e w' ⟨rfl, hw⟩; have hw2 := hw.symm; clear hw; subst hw2; rw [show (decide (0 ≤ r.m) && decide (r.m ≤ 7)) = Pl.within r.m 0 7 from rfl, h6]))
              go_ret
              exact ⟨rB (by rw [G.out, h1, h2, h3, h4, h5, h6]; simp), HK.out⟩
            · go_enter Try.func53, Try.ntmps53
              go_wp2_with (first | (go_at_call 79; have z := Z1; refine (specFour _ b cb r.ys (HB.out.keptS HK.out) ly).mono ?_; rintro e w' ⟨rfl, hw⟩; have hw2 := hw.symm; clear hw; subst hw2; rw [h2]) | (go_at_call 79; refine (specFour _ a ca r.xs (HA.out.keptS HK.out) lx).mono ?_; rintro e w' ⟨rfl, hw⟩; have hw2 := hw.symm; clear hw; subst hw2; rw [h1]; have Z1 : True := trivial) | (go_at_call 80; have z := Z3; refine (specWord r.p _).mono ?_; rintro e w' ⟨rfl, hw⟩; have hw2 := hw.symm; clear hw; subst hw2; rw [h4]) | (go_at_call 80; refine (specWord r.o _).mono ?_; rintro e w' ⟨rfl, hw⟩; have hw2 := hw.symm; clear hw; subst hw2; rw [h3]; have Z3 : True := trivial) | (go_at_call 81; refine (specFlags _ _).mono ?_; rintro e w' ⟨rfl, hw⟩; have hw2 := hw.symm; clear hw; subst hw2; rw [h5]) | (go_at_call 31; refine (l1In _ _ _ _).mono ?_; rintro e w' ⟨rfl, hw⟩; have hw2 := hw.symm; clear hw; subst hw2; rw [show (decide (0 ≤ r.m) && decide (r.m ≤ 7)) = Pl.within r.m 0 7 from rfl, h6]))
              go_ret
              exact ⟨rB (by rw [G.out, h1, h2, h3, h4, h5, h6]; simp), HK.out⟩
end Go.Proofs.Ytmkcbgnldnefmaa

namespace Go.Proofs.Ytmkcbgnldnefmaa
open Go.RowKit
set_option linter.unusedVariables false

theorem w64 {n : Int} (h0 : -9223372036854775808 ≤ n) (h1 : n ≤ 9223372036854775807) : IntKind.i64.wrap n = n := by rw [IntKind.wrap_i64]; omega
end Go.Proofs.Ytmkcbgnldnefmaa

namespace Go.Proofs.Ytmkcbgnldnefmaa
open Go.RowKit
set_option linter.unusedVariables false
theorem specGoodCpu (w : World) (c : Pl.Cp) (a b e q : Option Addr) (ca cb ce cq : Nat) (ha : IRow w a c.r.xs) (hb : IRow w b c.r.ys) (he : IRow w e c.bx) (hq : IRow w q c.bl) (lx : c.r.xs.length ≤ 2000000) (ly : c.r.ys.length ≤ 2000000) (lb : c.bx.length ≤ 2000000) (ll : c.bl.length = 5 * c.bm) (lm : c.bm ≤ 2000000) :
    Calls Try.prog 30 #[.agg #[.slice a c.r.xs.length ca, .slice b c.r.ys.length cb, iv c.r.o, iv c.r.p, iv c.r.f, iv c.r.m, .bool c.r.s, .bool c.r.t, .slice e c.bx.length ce, .slice q c.bm cq, .bool c.st, .bool c.ha]] w fun r w' => r = .returned (.bool (Pl.cpOk c)) ∧ Kept 0 0 w w' := by
  have K0 := hide (kept_alloc w (.cells #[.slice a c.r.xs.length ca, .slice b c.r.ys.length cb, iv c.r.o, iv c.r.p, iv c.r.f, iv c.r.m, .bool c.r.s, .bool c.r.t, .slice e c.bx.length ce, .slice q c.bm cq, .bool c.st, .bool c.ha] 38))
  have BA := Blk.new w #[.slice a c.r.xs.length ca, .slice b c.r.ys.length cb, iv c.r.o, iv c.r.p, iv c.r.f, iv c.r.m, .bool c.r.s, .bool c.r.t, .slice e c.bx.length ce, .slice q c.bm cq, .bool c.st, .bool c.ha] 38
  obtain ⟨X, hX⟩ : ∃ X : World, w.alloc (.cells #[.slice a c.r.xs.length ca, .slice b c.r.ys.length cb, iv c.r.o, iv c.r.p, iv c.r.f, iv c.r.m, .bool c.r.s, .bool c.r.t, .slice e c.bx.length ce, .slice q c.bm cq, .bool c.st, .bool c.ha] 38) = X := ⟨_, rfl⟩
  rw [hX] at K0 BA
  have HBA := hide BA
  have HA := hide (ha.keptS K0.out)
  have HB := hide (hb.keptS K0.out)
  have HE := hide (he.keptS K0.out)
  have HQ := hide (hq.keptS K0.out)
  clear BA ha hb he hq
  have i0 := HBA.out.cell (i := 0) rfl
  have i1 := HBA.out.cell (i := 1) rfl
  have i2 := HBA.out.cell (i := 2) rfl
  have i3 := HBA.out.cell (i := 3) rfl
  have i4 := HBA.out.cell (i := 4) rfl
  have i5 := HBA.out.cell (i := 5) rfl
  have i6 := HBA.out.cell (i := 6) rfl
  have i7 := HBA.out.cell (i := 7) rfl
  have i8 := HBA.out.cell (i := 8) rfl
  have i9 := HBA.out.cell (i := 9) rfl
  have i10 := HBA.out.cell (i := 10) rfl
  have i11 := HBA.out.cell (i := 11) rfl
  cases h1 : Pl.rgOk c.r
  · go_enter Try.func30, Try.ntmps30
    go_wp2_with (first | (go_at_call 53; refine (specGoodRegs _ c.r a b ca cb HA.out HB.out lx ly).mono ?_; rintro e9 W ⟨rfl, k9⟩; rw [h1]; have HK1 := hide k9; have HB1 := hide (HBA.out.kept0 k9); have HE1 := hide (HE.out.keptS k9); have HQ1 := hide (HQ.out.keptS k9); clear k9 i0 i1 i2 i3 i4 i5 i6 i7 i8 i9 i10 i11; have i0 := HB1.out.cell (i := 0) rfl; have i1 := HB1.out.cell (i := 1) rfl; have i2 := HB1.out.cell (i := 2) rfl; have i3 := HB1.out.cell (i := 3) rfl; have i4 := HB1.out.cell (i := 4) rfl; have i5 := HB1.out.cell (i := 5) rfl; have i6 := HB1.out.cell (i := 6) rfl; have i7 := HB1.out.cell (i := 7) rfl; have i8 := HB1.out.cell (i := 8) rfl; have i9 := HB1.out.cell (i := 9) rfl; have i10 := HB1.out.cell (i := 10) rfl; have i11 := HB1.out.cell (i := 11) rfl))
    go_ret
    exact ⟨rB (by unfold Pl.cpOk; simp [h1]), K0.out.trans HK1.out⟩
  · cases h2 : Pl.goodBus c.bx c.bl c.bm
    · go_enter Try.func30, Try.ntmps30
      go_wp2_with (first | (go_at_call 37; have z9 := HB1; refine (specGoodBus _ e q ce cq c.bm c.bx c.bl HE1.out HQ1.out lb ll lm).mono ?_; rintro e9 W2 ⟨rfl, k9⟩; rw [h2]; have HK2 := hide k9; have HB2 := hide (HB1.out.kept0 k9); clear k9 i0 i1 i2 i3 i4 i5 i6 i7 i8 i9 i10 i11; have i0 := HB2.out.cell (i := 0) rfl; have i1 := HB2.out.cell (i := 1) rfl; have i2 := HB2.out.cell (i := 2) rfl; have i3 := HB2.out.cell (i := 3) rfl; have i4 := HB2.out.cell (i := 4) rfl; have i5 := HB2.out.cell (i := 5) rfl; have i6 := HB2.out.cell (i := 6) rfl; have i7 := HB2.out.cell (i := 7) rfl; have i8 := HB2.out.cell (i := 8) rfl; have i9 := HB2.out.cell (i := 9) rfl; have i10 := HB2.out.cell (i := 10) rfl; have i11 := HB2.out.cell (i := 11) rfl) | (go_at_call 53; refine (specGoodRegs _ c.r a b ca cb HA.out HB.out lx ly).mono ?_; rintro e9 W ⟨rfl, k9⟩; rw [h1]; have HK1 := hide k9; have HB1 := hide (HBA.out.kept0 k9); have HE1 := hide (HE.out.keptS k9); have HQ1 := hide (HQ.out.keptS k9); clear k9 i0 i1 i2 i3 i4 i5 i6 i7 i8 i9 i10 i11; have i0 := HB1.out.cell (i := 0) rfl; have i1 := HB1.out.cell (i := 1) rfl; have i2 := HB1.out.cell (i := 2) rfl; have i3 := HB1.out.cell (i := 3) rfl; have i4 := HB1.out.cell (i := 4) rfl; have i5 := HB1.out.cell (i := 5) rfl; have i6 := HB1.out.cell (i := 6) rfl; have i7 := HB1.out.cell (i := 7) rfl; have i8 := HB1.out.cell (i := 8) rfl; have i9 := HB1.out.cell (i := 9) rfl; have i10 := HB1.out.cell (i := 10) rfl; have i11 := HB1.out.cell (i := 11) rfl))
      go_ret
      exact ⟨rB (by unfold Pl.cpOk; simp [h1, h2]), (K0.out.trans HK1.out).trans HK2.out⟩
    · rcases Bool.eq_false_or_eq_true c.st with h3 | h3
      · have H3 := hide h3
        rw [H3.out] at i10
        clear h3
        go_enter Try.func30, Try.ntmps30
        go_wp2_with (first | (go_at_call 37; have z9 := HB1; refine (specGoodBus _ e q ce cq c.bm c.bx c.bl HE1.out HQ1.out lb ll lm).mono ?_; rintro e9 W2 ⟨rfl, k9⟩; rw [h2]; have HK2 := hide k9; have HB2 := hide (HB1.out.kept0 k9); clear k9 i0 i1 i2 i3 i4 i5 i6 i7 i8 i9 i10 i11; have i0 := HB2.out.cell (i := 0) rfl; have i1 := HB2.out.cell (i := 1) rfl; have i2 := HB2.out.cell (i := 2) rfl; have i3 := HB2.out.cell (i := 3) rfl; have i4 := HB2.out.cell (i := 4) rfl; have i5 := HB2.out.cell (i := 5) rfl; have i6 := HB2.out.cell (i := 6) rfl; have i7 := HB2.out.cell (i := 7) rfl; have i8 := HB2.out.cell (i := 8) rfl; have i9 := HB2.out.cell (i := 9) rfl; have i10 := HB2.out.cell (i := 10) rfl; have i11 := HB2.out.cell (i := 11) rfl; rw [H3.out] at i10) | (go_at_call 53; refine (specGoodRegs _ c.r a b ca cb HA.out HB.out lx ly).mono ?_; rintro e9 W ⟨rfl, k9⟩; rw [h1]; have HK1 := hide k9; have HB1 := hide (HBA.out.kept0 k9); have HE1 := hide (HE.out.keptS k9); have HQ1 := hide (HQ.out.keptS k9); clear k9 i0 i1 i2 i3 i4 i5 i6 i7 i8 i9 i10 i11; have i0 := HB1.out.cell (i := 0) rfl; have i1 := HB1.out.cell (i := 1) rfl; have i2 := HB1.out.cell (i := 2) rfl; have i3 := HB1.out.cell (i := 3) rfl; have i4 := HB1.out.cell (i := 4) rfl; have i5 := HB1.out.cell (i := 5) rfl; have i6 := HB1.out.cell (i := 6) rfl; have i7 := HB1.out.cell (i := 7) rfl; have i8 := HB1.out.cell (i := 8) rfl; have i9 := HB1.out.cell (i := 9) rfl; have i10 := HB1.out.cell (i := 10) rfl; have i11 := HB1.out.cell (i := 11) rfl; rw [H3.out] at i10))
        go_ret
        exact ⟨rB (by unfold Pl.cpOk; simp [h1, h2, H3.out]), (K0.out.trans HK1.out).trans HK2.out⟩
      · have H3 := hide h3
        rw [H3.out] at i10
        clear h3
        go_enter Try.func30, Try.ntmps30
        go_wp2_with (first | (go_at_call 37; have z9 := HB1; refine (specGoodBus _ e q ce cq c.bm c.bx c.bl HE1.out HQ1.out lb ll lm).mono ?_; rintro e9 W2 ⟨rfl, k9⟩; rw [h2]; have HK2 := hide k9; have HB2 := hide (HB1.out.kept0 k9); clear k9 i0 i1 i2 i3 i4 i5 i6 i7 i8 i9 i10 i11; have i0 := HB2.out.cell (i := 0) rfl; have i1 := HB2.out.cell (i := 1) rfl; have i2 := HB2.out.cell (i := 2) rfl; have i3 := HB2.out.cell (i := 3) rfl; have i4 := HB2.out.cell (i := 4) rfl; have i5 := HB2.out.cell (i := 5) rfl; have i6 := HB2.out.cell (i := 6) rfl; have i7 := HB2.out.cell (i := 7) rfl; have i8 := HB2.out.cell (i := 8) rfl; have i9 := HB2.out.cell (i := 9) rfl; have i10 := HB2.out.cell (i := 10) rfl; have i11 := HB2.out.cell (i := 11) rfl; rw [H3.out] at i10) | (go_at_call 53; refine (specGoodRegs _ c.r a b ca cb HA.out HB.out lx ly).mono ?_; rintro e9 W ⟨rfl, k9⟩; rw [h1]; have HK1 := hide k9; have HB1 := hide (HBA.out.kept0 k9); have HE1 := hide (HE.out.keptS k9); have HQ1 := hide (HQ.out.keptS k9); clear k9 i0 i1 i2 i3 i4 i5 i6 i7 i8 i9 i10 i11; have i0 := HB1.out.cell (i := 0) rfl; have i1 := HB1.out.cell (i := 1) rfl; have i2 := HB1.out.cell (i := 2) rfl; have i3 := HB1.out.cell (i := 3) rfl; have i4 := HB1.out.cell (i := 4) rfl; have i5 := HB1.out.cell (i := 5) rfl; have i6 := HB1.out.cell (i := 6) rfl; have i7 := HB1.out.cell (i := 7) rfl; have i8 := HB1.out.cell (i := 8) rfl; have i9 := HB1.out.cell (i := 9) rfl; have i10 := HB1.out.cell (i := 10) rfl; have i11 := HB1.out.cell (i := 11) rfl; rw [H3.out] at i10))
        go_ret
        exact ⟨rB (by unfold Pl.cpOk; simp [h1, h2, H3.out]), (K0.out.trans HK1.out).trans HK2.out⟩
end Go.Proofs.Ytmkcbgnldnefmaa

namespace Go.Proofs.Ytmkcbgnldnefmaa
open Go.RowKit
set_option linter.unusedVariables false
def Pl.vaOk (c : Pl.Cp) (v : Int) : Bool := (Pl.cpOk c && Pl.within v 0 31) && Pl.peekOk c.bx c.bl c.bm (2 * v)
def Pl.vaV (c : Pl.Cp) (v : Int) : Int := if Pl.cpOk c && Pl.within v 0 31 then Pl.peekV c.bx c.bl c.bm (2 * v) else 0
theorem wf_int {n : Int} (h0 : -1 ≤ n) (h1 : n ≤ 65536) : (Lit.int .i64 n).wf = true := by
  have e1 : IntKind.i64.min = -9223372036854775808 := rfl
  have e2 : IntKind.i64.max = 9223372036854775807 := rfl
  simp [Lit.wf]
  omega
end Go.Proofs.Ytmkcbgnldnefmaa

namespace Go.Proofs.Ytmkcbgnldnefmaa
open Go.RowKit
set_option linter.unusedVariables false
set_option maxRecDepth 100000 in
set_option maxHeartbeats 4000000 in
theorem specVectorAt (w : World) (c : Pl.Cp) (v : Int) (a b e q : Option Addr) (ca cb ce cq : Nat) (ha : IRow w a c.r.xs) (hb : IRow w b c.r.ys) (he : IRow w e c.bx) (hq : IRow w q c.bl) (lx : c.r.xs.length ≤ 2000000) (ly : c.r.ys.length ≤ 2000000) (lb : c.bx.length ≤ 2000000) (ll : c.bl.length = 5 * c.bm) (lm : c.bm ≤ 2000000) :
    Calls Try.prog 8 #[.agg (cpA c a b e q ca cb ce cq), iv v] w fun r w' => r = .returned (.tuple #[iv (Pl.vaV c v), .bool (Pl.vaOk c v)]) ∧ Kept 0 0 w w' := by
  have HA := hide ha
  have HB := hide hb
  have HE := hide he
  have HQ := hide hq
  clear ha hb he hq
  have K0 := hide (kept_alloc w (.cells (cpA c a b e q ca cb ce cq) 38))
  have BC0 := hide (Blk.new w (cpA c a b e q ca cb ce cq) 38)
  obtain ⟨X, hX⟩ : ∃ X : World, w.alloc (.cells (cpA c a b e q ca cb ce cq) 38) = X := ⟨_, rfl⟩
  rw [hX] at K0 BC0
  have p := BC0.out.all
  cases h1 : Pl.cpOk c
  · have EV : Hid (Pl.vaV c v = 0 ∧ Pl.vaOk c v = false) := hide (by simp [Pl.vaV, Pl.vaOk, h1])
    go_enter Try.func8, Try.ntmps8
    go_wp2_with (first | (go_at_call 30; refine (specGoodCpu _ c a b e q ca cb ce cq (HA.out.keptS K0.out) (HB.out.keptS K0.out) (HE.out.keptS K0.out) (HQ.out.keptS K0.out) lx ly lb ll lm).mono ?_; rintro e9 w1 ⟨rfl, k9⟩; rw [h1]; have K1 := hide (K0.out.trans k9); have BC1 := hide (BC0.out.kept0 k9); clear k9 p; have p := BC1.out.all))
    go_ret2
    exact ⟨rIB EV.out.1.symm EV.out.2.symm, K1.out⟩
  · obtain ⟨z, hz⟩ : ∃ z, z = (decide (0 ≤ v) && decide (v ≤ 31)) := ⟨_, rfl⟩
    cases h2 : z
    · have EV : Hid (Pl.vaV c v = 0 ∧ Pl.vaOk c v = false) := hide (by rw [h2] at hz; simp [Pl.vaV, Pl.vaOk, Pl.within, ← hz])
      go_enter Try.func8, Try.ntmps8
      go_wp2_with (first | (go_at_call 30; refine (specGoodCpu _ c a b e q ca cb ce cq (HA.out.keptS K0.out) (HB.out.keptS K0.out) (HE.out.keptS K0.out) (HQ.out.keptS K0.out) lx ly lb ll lm).mono ?_; rintro e9 w1 ⟨rfl, k9⟩; rw [h1]; have K1 := hide (K0.out.trans k9); have BC1 := hide (BC0.out.kept0 k9); clear k9 p; have p := BC1.out.all) | (go_at_call 31; refine (l1In _ _ _ _).mono ?_; rintro e9 w9 ⟨rfl, hw⟩; have hw2 := hw.symm; clear hw; subst hw2; rw [← hz, h2]))
      go_ret2
      exact ⟨rIB EV.out.1.symm EV.out.2.symm, K1.out⟩
    · have EV : Hid (Pl.vaV c v = Pl.peekV c.bx c.bl c.bm (2 * v) ∧ Pl.vaOk c v = Pl.peekOk c.bx c.bl c.bm (2 * v)) := hide (by rw [h2] at hz; simp [Pl.vaV, Pl.vaOk, Pl.within, h1, ← hz])
      have e2 : IntKind.i64.wrap (2 * v) = 2 * v := w64 (by rw [h2] at hz; simp at hz; omega) (by rw [h2] at hz; simp at hz; omega)
      go_enter Try.func8, Try.ntmps8
      go_wp2_with (first | (go_at_call 30; refine (specGoodCpu _ c a b e q ca cb ce cq (HA.out.keptS K0.out) (HB.out.keptS K0.out) (HE.out.keptS K0.out) (HQ.out.keptS K0.out) lx ly lb ll lm).mono ?_; rintro e9 w1 ⟨rfl, k9⟩; rw [h1]; have K1 := hide (K0.out.trans k9); have BC1 := hide (BC0.out.kept0 k9); clear k9 p; have p := BC1.out.all) | (go_at_call 31; refine (l1In _ _ _ _).mono ?_; rintro e9 w9 ⟨rfl, hw⟩; have hw2 := hw.symm; clear hw; subst hw2; rw [← hz, h2]) | (go_at_call 13; refine (specPeekWord _ e q ce cq c.bm c.bx c.bl (2 * v) (HE.out.keptS K1.out) (HQ.out.keptS K1.out) lb ll lm).mono ?_; rintro e9 w3 ⟨rfl, k9⟩; have K3 := hide (K1.out.trans k9); clear k9))
      go_ret2
      exact ⟨rIB EV.out.1.symm EV.out.2.symm, K3.out⟩
end Go.Proofs.Ytmkcbgnldnefmaa

namespace Go.Proofs.Ytmkcbgnldnefmaa
open Go.RowKit
set_option linter.unusedVariables false

theorem signedAs8 (v : Int) (w : World) (lo : -9223372036854775808 ≤ v) (hi : v ≤ 9223372036854775807) :
    Calls Try.prog 103 #[iv v] w fun e w' => e = .returned (.tuple #[iv (Pl.sgnV 1 v), .bool (Pl.okv 1 v)]) ∧ w' = w := by
  by_cases h : 0 ≤ v ∧ v < 256
  · obtain ⟨h0, h1⟩ := h
    have hs : IntKind.u8.signed = false := rfl
    have hm : IntKind.u8.max = 255 := by decide
    have hb : bits .xor .u8 255 0 = 255 := by decide
    by_cases h : 127 < v
    all_goals
      go_enter Try.func103, Try.ntmps103
      go_wp2
      go_ret2
      exact ⟨rIB (by simp [Pl.sgnV, Pl.okv, Pl.sg, Pl.top, h0, h1]; omega) (by simp [Pl.okv, Pl.top, h0, h1]), rfl⟩
  · go_enter Try.func103, Try.ntmps103
    go_wp2
    go_ret2
    have k : Pl.okv 1 v = false := by
      cases c : Pl.okv 1 v
      · rfl
      · have := Pl.top_ok c; omega
    exact ⟨rIB (by simp [Pl.sgnV, k]) k.symm, rfl⟩

theorem signedAs16 (v : Int) (w : World) (lo : -9223372036854775808 ≤ v) (hi : v ≤ 9223372036854775807) :
    Calls Try.prog 104 #[iv v] w fun e w' => e = .returned (.tuple #[iv (Pl.sgnV 2 v), .bool (Pl.okv 2 v)]) ∧ w' = w := by
  by_cases h : 0 ≤ v ∧ v < 65536
  · obtain ⟨h0, h1⟩ := h
    have hs : IntKind.u16.signed = false := rfl
    have hm : IntKind.u16.max = 65535 := by decide
    have hb : bits .xor .u16 65535 0 = 65535 := by decide
    by_cases h : 32767 < v
    all_goals
      go_enter Try.func104, Try.ntmps104
      go_wp2
      go_ret2
      exact ⟨rIB (by simp [Pl.sgnV, Pl.okv, Pl.sg, Pl.top, h0, h1]; omega) (by simp [Pl.okv, Pl.top, h0, h1]), rfl⟩
  · have hw : IntKind.u16.wrap v = v % 65536 := IntKind.wrap_u16 v
    go_enter Try.func104, Try.ntmps104
    go_wp2
    go_ret2
    have k : Pl.okv 2 v = false := by
      cases c : Pl.okv 2 v
      · rfl
      · have := Pl.top_ok c; omega
    exact ⟨rIB (by simp [Pl.sgnV, k]) k.symm, rfl⟩

theorem signedOf (s v : Int) (w : World) (lo : -9223372036854775808 ≤ v) (hi : v ≤ 9223372036854775807) :
    Calls Try.prog 97 #[iv s, iv v] w fun e w' => e = .returned (.tuple #[iv (Pl.sgnV s v), .bool (Pl.okv s v)]) ∧ w' = w := by
  by_cases h1 : s = 1
  · subst h1
    go_enter Try.func97, Try.ntmps97
    go_wp2_with fail
    refine (signedAs8 v _ lo hi).mono ?_
    rintro e w' ⟨rfl, rfl⟩
    go_wp2_with fail
    go_ret2
    exact ⟨rfl, rfl⟩
  · by_cases h2 : s = 2
    · subst h2
      go_enter Try.func97, Try.ntmps97
      go_wp2_with fail
      refine (signedAs16 v _ lo hi).mono ?_
      rintro e w' ⟨rfl, rfl⟩
      go_wp2_with fail
      go_ret2
      exact ⟨rfl, rfl⟩
    · have k : Pl.okv s v = false := by simp [Pl.okv, h1, h2]
      have k1 : (s == 1) = false := by simpa using h1
      have k2 : (s == 2) = false := by simpa using h2
      go_enter Try.func97, Try.ntmps97
      go_wp2_with fail
      go_ret2
      exact ⟨rIB (by simp [Pl.sgnV, k]) k.symm, rfl⟩

end Go.Proofs.Ytmkcbgnldnefmaa

namespace Go.Proofs.Ytmkcbgnldnefmaa
open Go.RowKit
set_option linter.unusedVariables false
theorem wfB {v : Int} (h : (Lit.int .i64 v).wf = true) : -9223372036854775808 ≤ v ∧ v ≤ 9223372036854775807 := bounds_i64 h
theorem okv2 (v : Int) : Pl.okv 2 v = Pl.wordOk v := by
  unfold Pl.okv Pl.wordOk Pl.within Pl.top
  rw [Bool.eq_iff_iff]; simp; omega
theorem isWord (v : Int) (w : World) (lo : -9223372036854775808 ≤ v) (hi : v ≤ 9223372036854775807) :
    Calls Try.prog 83 #[iv v] w fun e w' => e = .returned (.bool (Pl.wordOk v)) ∧ w' = w := by
  go_enter Try.func83, Try.ntmps83
  go_wp2_with (go_at_call 97; refine (signedOf _ _ _ lo hi).mono ?_; rintro e w' ⟨rfl, hw⟩; have hw2 := hw.symm; clear hw; subst hw2; rw [okv2])
  go_ret
  exact ⟨rfl, rfl⟩
end Go.Proofs.Ytmkcbgnldnefmaa

namespace Go.Proofs.Ytmkcbgnldnefmaa
open Go.RowKit
set_option linter.unusedVariables false

theorem isFlags6 (k : Int) (w : World) : Calls Try.prog 84 #[iv k] w fun e w' => e = .returned (.bool (Pl.within k 0 31)) ∧ w' = w := by
  by_cases h0 : 0 ≤ k
  · by_cases h1 : k ≤ 31
    · go_enter Try.func84, Try.ntmps84
      go_wp2
      go_ret
      exact ⟨rB (by simp [Pl.within, h0, h1]), rfl⟩
    · go_enter Try.func84, Try.ntmps84
      go_wp2
      go_ret
      exact ⟨rB (by simp [Pl.within, h0]; omega), rfl⟩
  · go_enter Try.func84, Try.ntmps84
    go_wp2
    go_ret
    exact ⟨rB (by simp [Pl.within]; omega), rfl⟩
theorem areWords (w : World) (a : Option Addr) (ca : Nat) (xs : List Int) (ha : Came w a xs) (lx : xs.length ≤ 2000000) :
    Calls Try.prog 82 #[.slice a xs.length ca] w fun e w' => e = .returned (.bool (xs.all Pl.wordOk)) ∧ w' = w := by
  have HA := hide ha
  clear ha
  go_enter Try.func82, Try.ntmps82
  go_wp2
  go_loop [4, 7] (fun _ j => ∃ k : Nat, k ≤ xs.length ∧ j = iv k ∧ ∀ i, i < k → Pl.wordOk (el xs i) = true) (fun _ j => xs.length - (intOf j).toNat)
  case atStart => exact ⟨0, Nat.zero_le _, rfl, fun i hi => absurd hi (Nat.not_lt_zero i)⟩
  case round =>
    obtain ⟨k, hk, rfl, heq⟩ := hrel
    have HE := hide heq
    clear heq
    by_cases hlt : k < xs.length
    · obtain ⟨g1, o1, rfl, hc1⟩ := HA.out.1 k hlt
      obtain ⟨lo, hi⟩ := HA.out.2 k hlt
      rw [show xs[k]?.getD 0 = el xs k from rfl] at hc1 lo hi
      cases hb : Pl.wordOk (el xs k)
      · go_wp2_with (go_at_call 83; refine (isWord _ _ lo hi).mono ?_; rintro e w' ⟨rfl, rfl⟩; rw [hb])
        go_ret
        refine ⟨rB ?_, rfl⟩
        have hm : xs[k]'hlt ∈ xs := List.getElem_mem hlt
        have he : el xs k = xs[k]'hlt := by simp [el, List.getElem?_eq_getElem hlt]
        rw [he] at hb
        cases hq : xs.all Pl.wordOk
        · rfl
        · have := List.all_eq_true.1 hq _ hm
          rw [hb] at this; cases this
      · go_wp2_with (go_at_call 83; refine (isWord _ _ lo hi).mono ?_; rintro e w' ⟨rfl, rfl⟩; rw [hb])
        go_round
        case rel => exact ⟨k + 1, by omega, by go_num, snoc_all HE.out hb⟩
        case measure => simp [intOf]; omega
    · go_wp2
      go_ret
      refine ⟨rB ?_, rfl⟩
      symm
      rw [List.all_eq_true]
      intro x hx
      obtain ⟨i, hi, rfl⟩ := List.getElem_of_mem hx
      have := HE.out i (by omega)
      simpa [el, List.getElem?_eq_getElem hi] using this
end Go.Proofs.Ytmkcbgnldnefmaa

namespace Go.Proofs.Ytmkcbgnldnefmaa
open Go.RowKit
set_option linter.unusedVariables false
set_option maxHeartbeats 4000000 in
theorem implGoodRegs (w : World) (d : Pl.Rg) (a b : Option Addr) (ca cb : Nat) (ha : Came w a d.xs) (hb : Came w b d.ys) (lx : d.xs.length ≤ 2000000) (ly : d.ys.length ≤ 2000000) (wfd : Pl.WfR d) :
    Calls Try.prog 54 #[.agg #[.slice a d.xs.length ca, .slice b d.ys.length cb, iv d.o, iv d.p, iv d.f, iv d.m, .bool d.s, .bool d.t]] w fun e w' => e = .returned (.bool (Pl.rgOk d)) ∧ Kept 0 0 w w' := by
  have HA := hide ha
  have HB := hide hb
  have HK := hide (kept_alloc w (.cells #[.slice a d.xs.length ca, .slice b d.ys.length cb, iv d.o, iv d.p, iv d.f, iv d.m, .bool d.s, .bool d.t] 33))
  clear ha hb
  have G : Hid (Pl.rgOk d = ((d.xs.all Pl.wordOk && decide ((d.xs.length : Int) = 4)) && ((d.ys.all Pl.wordOk && decide ((d.ys.length : Int) = 4)) && (Pl.wordOk d.o && (Pl.wordOk d.p && (Pl.within d.f 0 31 && (decide (0 ≤ d.m) && decide (d.m ≤ 7)))))))) := hide rfl
  cases l1 : ((d.xs.length : Int) == 4)
  · have q1 : decide ((d.xs.length : Int) = 4) = false := by simpa using l1
    go_enter Try.func54, Try.ntmps54
    go_wp2
    go_ret
    exact ⟨rB (by rw [G.out, q1]; simp), HK.out⟩
  · have q1 : decide ((d.xs.length : Int) = 4) = true := by simpa using l1
    cases h2 : d.xs.all Pl.wordOk
    · have qh2 : True := trivial
      go_enter Try.func54, Try.ntmps54
      go_wp2_with (first | (go_at_call 82; refine (areWords _ a ca d.xs (HA.out.keptS HK.out) lx).mono ?_; rintro e w' ⟨rfl, hw⟩; have hw2 := hw.symm; clear hw; subst hw2; rw [h2]; have Z1 : True := trivial))
      go_ret
      exact ⟨rB (by rw [G.out, q1, h2]; simp), HK.out⟩
    · have qh2 : True := trivial
      cases l3 : ((d.ys.length : Int) == 4)
      · have q3 : decide ((d.ys.length : Int) = 4) = false := by simpa using l3
        go_enter Try.func54, Try.ntmps54
        go_wp2_with (first | (go_at_call 82; refine (areWords _ a ca d.xs (HA.out.keptS HK.out) lx).mono ?_; rintro e w' ⟨rfl, hw⟩; have hw2 := hw.symm; clear hw; subst hw2; rw [h2]; have Z1 : True := trivial))
        go_ret
        exact ⟨rB (by rw [G.out, q1, h2, q3]; simp), HK.out⟩
      · have q3 : decide ((d.ys.length : Int) = 4) = true := by simpa using l3
        cases h4 : d.ys.all Pl.wordOk
        · have qh4 : True := trivial
          go_enter Try.func54, Try.ntmps54
          go_wp2_with (first | (go_at_call 82; have z := Z1; refine (areWords _ b cb d.ys (HB.out.keptS HK.out) ly).mono ?_; rintro e w' ⟨rfl, hw⟩; have hw2 := hw.symm; clear hw; subst hw2; rw [h4]) | (go_at_call 82; refine (areWords _ a ca d.xs (HA.out.keptS HK.out) lx).mono ?_; rintro e w' ⟨rfl, hw⟩; have hw2 := hw.symm; clear hw; subst hw2; rw [h2]; have Z1 : True := trivial))
          go_ret
          exact ⟨rB (by rw [G.out, q1, h2, q3, h4]; simp), HK.out⟩
        · have qh4 : True := trivial
          cases h5 : Pl.wordOk d.o
          · have qh5 : True := trivial
            go_enter Try.func54, Try.ntmps54
            go_wp2_with (first | (go_at_call 82; have z := Z1; refine (areWords _ b cb d.ys (HB.out.keptS HK.out) ly).mono ?_; rintro e w' ⟨rfl, hw⟩; have hw2 := hw.symm; clear hw; subst hw2; rw [h4]) | (go_at_call 82; refine (areWords _ a ca d.xs (HA.out.keptS HK.out) lx).mono ?_; rintro e w' ⟨rfl, hw⟩; have hw2 := hw.symm; clear hw; subst hw2; rw [h2]; have Z1 : True := trivial) | (go_at_call 83; refine (isWord d.o _ (wfB wfd.o).1 (wfB wfd.o).2).mono ?_; rintro e w' ⟨rfl, hw⟩; have hw2 := hw.symm; clear hw; subst hw2; rw [h5]; have Z3 : True := trivial))
            go_ret
            exact ⟨rB (by rw [G.out, q1, h2, q3, h4, h5]; simp), HK.out⟩
          · have qh5 : True := trivial
            cases h6 : Pl.wordOk d.p
            · have qh6 : True := trivial
              go_enter Try.func54, Try.ntmps54
              go_wp2_with (first | (go_at_call 82; have z := Z1; refine (areWords _ b cb d.ys (HB.out.keptS HK.out) ly).mono ?_; rintro e w' ⟨rfl, hw⟩; have hw2 := hw.symm; clear hw; subst hw2; rw [h4]) | (go_at_call 82; refine (areWords _ a ca d.xs (HA.out.keptS HK.out) lx).mono ?_; rintro e w' ⟨rfl, hw⟩; have hw2 := hw.symm; clear hw; subst hw2; rw [h2]; have Z1 : True := trivial) | (go_at_call 83; have z := Z3; refine (isWord d.p _ (wfB wfd.p).1 (wfB wfd.p).2).mono ?_; rintro e w' ⟨rfl, hw⟩; have hw2 := hw.symm; clear hw; subst hw2; rw [h6]) | (go_at_call 83; refine (isWord d.o _ (wfB wfd.o).1 (wfB wfd.o).2).mono ?_; rintro e w' ⟨rfl, hw⟩; have hw2 := hw.symm; clear hw; subst hw2; rw [h5]; have Z3 : True := trivial))
              go_ret
              exact ⟨rB (by rw [G.out, q1, h2, q3, h4, h5, h6]; simp), HK.out⟩
            · have qh6 : True := trivial
              cases h7 : Pl.within d.f 0 31
              · have qh7 : True := trivial
                go_enter Try.func54, Try.ntmps54
                go_wp2_with (first | (go_at_call 82; have z := Z1; refine (areWords _ b cb d.ys (HB.out.keptS HK.out) ly).mono ?_; rintro e w' ⟨rfl, hw⟩; have hw2 := hw.symm; clear hw; subst hw2; rw [h4]) | (go_at_call 82; refine (areWords _ a ca d.xs (HA.out.keptS HK.out) lx).mono ?_; rintro e w' ⟨rfl, hw⟩; have hw2 := hw.symm; clear hw; subst hw2; rw [h2]; have Z1 : True := trivial) | (go_at_call 83; have z := Z3; refine (isWord d.p _ (wfB wfd.p).1 (wfB wfd.p).2).mono ?_; rintro e w' ⟨rfl, hw⟩; have hw2 := hw.symm; clear hw; subst hw2; rw [h6]) | (go_at_call 83; refine (isWord d.o _ (wfB wfd.o).1 (wfB wfd.o).2).mono ?_; rintro e w' ⟨rfl, hw⟩; have hw2 := hw.symm; clear hw; subst hw2; rw [h5]; have Z3 : True := trivial) | (go_at_call 84; refine (isFlags6 d.f _).mono ?_; rintro e w' ⟨rfl, hw⟩; have hw2 := hw.symm; clear hw; subst hw2; rw [h7]))
                go_ret
                exact ⟨rB (by rw [G.out, q1, h2, q3, h4, h5, h6, h7]; simp), HK.out⟩
              · have qh7 : True := trivial
                cases h8 : decide (0 ≤ d.m)
                · have qh8 : True := trivial
                  go_enter Try.func54, Try.ntmps54
                  go_wp2_with (first | (go_at_call 82; have z := Z1; refine (areWords _ b cb d.ys (HB.out.keptS HK.out) ly).mono ?_; rintro e w' ⟨rfl, hw⟩; have hw2 := hw.symm; clear hw; subst hw2; rw [h4]) | (go_at_call 82; refine (areWords _ a ca d.xs (HA.out.keptS HK.out) lx).mono ?_; rintro e w' ⟨rfl, hw⟩; have hw2 := hw.symm; clear hw; subst hw2; rw [h2]; have Z1 : True := trivial) | (go_at_call 83; have z := Z3; refine (isWord d.p _ (wfB wfd.p).1 (wfB wfd.p).2).mono ?_; rintro e w' ⟨rfl, hw⟩; have hw2 := hw.symm; clear hw; subst hw2; rw [h6]) | (go_at_call 83; refine (isWord d.o _ (wfB wfd.o).1 (wfB wfd.o).2).mono ?_; rintro e w' ⟨rfl, hw⟩; have hw2 := hw.symm; clear hw; subst hw2; rw [h5]; have Z3 : True := trivial) | (go_at_call 84; refine (isFlags6 d.f _).mono ?_; rintro e w' ⟨rfl, hw⟩; have hw2 := hw.symm; clear hw; subst hw2; rw [h7]))
                  go_ret
                  exact ⟨rB (by rw [G.out, q1, h2, q3, h4, h5, h6, h7, h8]; simp), HK.out⟩
                · have qh8 : True := trivial
                  cases h9 : decide (d.m ≤ 7)
                  · have qh9 : True := trivial
                    go_enter Try.func54, Try.ntmps54
                    go_wp2_with (first | (go_at_call 82; have z := Z1; refine (areWords _ b cb d.ys (HB.out.keptS HK.out) ly).mono ?_; rintro e w' ⟨rfl, hw⟩; have hw2 := hw.symm; clear hw; subst hw2; rw [h4]) | (go_at_call 82; refine (areWords _ a ca d.xs (HA.out.keptS HK.out) lx).mono ?_; rintro e w' ⟨rfl, hw⟩; have hw2 := hw.symm; clear hw; subst hw2; rw [h2]; have Z1 : True := trivial) | (go_at_call 83; have z := Z3; refine (isWord d.p _ (wfB wfd.p).1 (wfB wfd.p).2).mono ?_; rintro e w' ⟨rfl, hw⟩; have hw2 := hw.symm; clear hw; subst hw2; rw [h6]) | (go_at_call 83; refine (isWord d.o _ (wfB wfd.o).1 (wfB wfd.o).2).mono ?_; rintro e w' ⟨rfl, hw⟩; have hw2 := hw.symm; clear hw; subst hw2; rw [h5]; have Z3 : True := trivial) | (go_at_call 84; refine (isFlags6 d.f _).mono ?_; rintro e w' ⟨rfl, hw⟩; have hw2 := hw.symm; clear hw; subst hw2; rw [h7]))
                    go_ret
                    exact ⟨rB (by rw [G.out, q1, h2, q3, h4, h5, h6, h7, h8, h9]; simp), HK.out⟩
                  · have qh9 : True := trivial
                    go_enter Try.func54, Try.ntmps54
                    go_wp2_with (first | (go_at_call 82; have z := Z1; refine (areWords _ b cb d.ys (HB.out.keptS HK.out) ly).mono ?_; rintro e w' ⟨rfl, hw⟩; have hw2 := hw.symm; clear hw; subst hw2; rw [h4]) | (go_at_call 82; refine (areWords _ a ca d.xs (HA.out.keptS HK.out) lx).mono ?_; rintro e w' ⟨rfl, hw⟩; have hw2 := hw.symm; clear hw; subst hw2; rw [h2]; have Z1 : True := trivial) | (go_at_call 83; have z := Z3; refine (isWord d.p _ (wfB wfd.p).1 (wfB wfd.p).2).mono ?_; rintro e w' ⟨rfl, hw⟩; have hw2 := hw.symm; clear hw; subst hw2; rw [h6]) | (go_at_call 83; refine (isWord d.o _ (wfB wfd.o).1 (wfB wfd.o).2).mono ?_; rintro e w' ⟨rfl, hw⟩; have hw2 := hw.symm; clear hw; subst hw2; rw [h5]; have Z3 : True := trivial) | (go_at_call 84; refine (isFlags6 d.f _).mono ?_; rintro e w' ⟨rfl, hw⟩; have hw2 := hw.symm; clear hw; subst hw2; rw [h7]))
                    go_ret
                    exact ⟨rB (by rw [G.out, q1, h2, q3, h4, h5, h6, h7, h8, h9]; simp), HK.out⟩
end Go.Proofs.Ytmkcbgnldnefmaa

namespace Go.Proofs.Ytmkcbgnldnefmaa
open Go.RowKit
set_option linter.unusedVariables false

theorem isAddress (a : Int) (w : World) : Calls Try.prog 43 #[iv a] w fun e w' => e = .returned (.bool (Pl.addr a)) ∧ w' = w := by
  by_cases h0 : 0 ≤ a
  all_goals
    by_cases h1 : a ≤ 65535
    all_goals
      go_enter Try.func43, Try.ntmps43
      go_wp2
      go_ret
      exact ⟨rB (by simp [Pl.addr, h0, h1] <;> omega), rfl⟩
theorem isAccessKind (a : Int) (w : World) : Calls Try.prog 99 #[iv a] w fun e w' => e = .returned (.bool (Pl.accKind a)) ∧ w' = w := by
  by_cases h0 : 1 ≤ a
  all_goals
    by_cases h1 : a ≤ 3
    all_goals
      go_enter Try.func99, Try.ntmps99
      go_wp2
      go_ret
      exact ⟨rB (by simp [Pl.accKind, h0, h1] <;> omega), rfl⟩
theorem isOdd (a : Int) (w : World) (h0 : 0 ≤ a) (h1 : a ≤ 65535) : Calls Try.prog 61 #[iv a] w fun e w' => e = .returned (.bool (decide (a % 2 = 1))) ∧ w' = w := by
  go_enter Try.func61, Try.ntmps61
  go_wp2
  go_ret
  refine ⟨rB ?_, rfl⟩
  rw [Bool.eq_iff_iff]
  simp
  omega
theorem partOf (a : Int) (w : World) : Calls Try.prog 62 #[iv a] w fun e w' => e = .returned (iv (Pl.kind a)) ∧ w' = w := by
  by_cases h1 : 512 ≤ a
  · have E : Hid (Pl.kind a = 1) := hide (by simp [Pl.kind, h1])
    go_enter Try.func62, Try.ntmps62
    go_wp2
    go_ret
    exact ⟨rI E.out.symm, rfl⟩
  · by_cases h2 : 496 ≤ a
    · have E : Hid (Pl.kind a = 0) := hide (by unfold Pl.kind; rw [if_neg (by omega), if_neg (by omega)])
      go_enter Try.func62, Try.ntmps62
      go_wp2
      go_ret
      exact ⟨rI E.out.symm, rfl⟩
    · by_cases h3 : 448 ≤ a
      · have E : Hid (Pl.kind a = 1) := hide (by unfold Pl.kind; rw [if_pos (by omega)])
        go_enter Try.func62, Try.ntmps62
        go_wp2
        go_ret
        exact ⟨rI E.out.symm, rfl⟩
      · by_cases h4 : 384 ≤ a
        · have E : Hid (Pl.kind a = 3) := hide (by unfold Pl.kind; rw [if_neg (by omega), if_pos (by omega)])
          go_enter Try.func62, Try.ntmps62
          go_wp2
          go_ret
          exact ⟨rI E.out.symm, rfl⟩
        · have E : Hid (Pl.kind a = 0) := hide (by unfold Pl.kind; rw [if_neg (by omega), if_neg (by omega)])
          go_enter Try.func62, Try.ntmps62
          go_wp2
          go_ret
          exact ⟨rI E.out.symm, rfl⟩
namespace Pl
def isAcc (k s a v c : Int) : Bool := okv s v && (accKind k && (addr a && (decide (0 ≤ c) && decide (c ≤ 3))))
theorem accOk_isAcc (k s a v c : Int) : accOk k s a v c = (isAcc k s a v c && !((k == 3) && (c == 0))) := by
  unfold accOk isAcc
  rw [Bool.eq_iff_iff]
  simp only [Bool.and_eq_true, Bool.or_eq_true, Bool.not_eq_true', decide_eq_true_eq, bne_iff_ne, ne_eq, Bool.and_eq_false_iff, beq_eq_false_iff_ne]
  constructor
  · rintro ⟨a1, a2, a3, a4, a5⟩; exact ⟨⟨a2, a1, a3, a4⟩, a5⟩
  · rintro ⟨⟨a2, a1, a3, a4⟩, a5⟩; exact ⟨a1, a2, a3, a4, a5⟩
end Pl
theorem isAccess (k s a v c : Int) (w : World) (lo : -9223372036854775808 ≤ v) (hi : v ≤ 9223372036854775807) : Calls Try.prog 87 #[.agg #[iv k, iv s, iv a, iv v, iv c]] w fun e w' => e = .returned (.bool (Pl.isAcc k s a v c)) ∧ ∃ o, w' = w.alloc o := by
  cases h1 : Pl.okv s v
  · go_enter Try.func87, Try.ntmps87
    go_wp2_with (first | (go_at_call 97; refine (signedOf _ _ _ lo hi).mono ?_; rintro e w' ⟨rfl, rfl⟩; rw [h1]) | (go_at_call 99; refine (isAccessKind _ _).mono ?_; rintro e w' ⟨rfl, rfl⟩) | (go_at_call 43; refine (isAddress _ _).mono ?_; rintro e w' ⟨rfl, rfl⟩))
    go_ret
    exact ⟨rB (by unfold Pl.isAcc; rw [h1]; rfl), _, rfl⟩
  · cases h2 : Pl.accKind k
    · go_enter Try.func87, Try.ntmps87
      go_wp2_with (first | (go_at_call 97; refine (signedOf _ _ _ lo hi).mono ?_; rintro e w' ⟨rfl, rfl⟩; rw [h1]) | (go_at_call 99; refine (isAccessKind _ _).mono ?_; rintro e w' ⟨rfl, rfl⟩; rw [h2]) | (go_at_call 43; refine (isAddress _ _).mono ?_; rintro e w' ⟨rfl, rfl⟩))
      go_ret
      exact ⟨rB (by unfold Pl.isAcc; rw [h1, h2]; rfl), _, rfl⟩
    · cases h3 : Pl.addr a
      · go_enter Try.func87, Try.ntmps87
        go_wp2_with (first | (go_at_call 97; refine (signedOf _ _ _ lo hi).mono ?_; rintro e w' ⟨rfl, rfl⟩; rw [h1]) | (go_at_call 99; refine (isAccessKind _ _).mono ?_; rintro e w' ⟨rfl, rfl⟩; rw [h2]) | (go_at_call 43; refine (isAddress _ _).mono ?_; rintro e w' ⟨rfl, rfl⟩; rw [h3]))
        go_ret
        exact ⟨rB (by unfold Pl.isAcc; rw [h1, h2, h3]; rfl), _, rfl⟩
      · cases h4 : decide (0 ≤ c)
        all_goals
          cases h5 : decide (c ≤ 3)
          all_goals
            go_enter Try.func87, Try.ntmps87
            go_wp2_with (first | (go_at_call 97; refine (signedOf _ _ _ lo hi).mono ?_; rintro e w' ⟨rfl, rfl⟩; rw [h1]) | (go_at_call 99; refine (isAccessKind _ _).mono ?_; rintro e w' ⟨rfl, rfl⟩; rw [h2]) | (go_at_call 43; refine (isAddress _ _).mono ?_; rintro e w' ⟨rfl, rfl⟩; rw [h3]))
            go_ret
            exact ⟨rB (by unfold Pl.isAcc; rw [h1, h2, h3, h4, h5]; rfl), _, rfl⟩
theorem isLogged (k s a v c : Int) (w : World) (lo : -9223372036854775808 ≤ v) (hi : v ≤ 9223372036854775807) : Calls Try.prog 60 #[.agg #[iv k, iv s, iv a, iv v, iv c]] w fun e w' => e = .returned (.bool (Pl.accOk k s a v c)) ∧ ∃ o p, w' = (w.alloc o).alloc p := by
  cases h1 : Pl.isAcc k s a v c
  · go_enter Try.func60, Try.ntmps60
    go_wp2_with (go_at_call 87; refine (isAccess _ _ _ _ _ _ lo hi).mono ?_; rintro e w' ⟨rfl, o, rfl⟩; rw [h1])
    go_ret
    exact ⟨rB (by rw [Pl.accOk_isAcc, h1]; rfl), _, _, rfl⟩
  · cases h2 : (k == 3)
    · go_enter Try.func60, Try.ntmps60
      go_wp2_with (go_at_call 87; refine (isAccess _ _ _ _ _ _ lo hi).mono ?_; rintro e w' ⟨rfl, o, rfl⟩; rw [h1])
      go_ret
      exact ⟨rB (by rw [Pl.accOk_isAcc, h1, h2]; rfl), _, _, rfl⟩
    · cases h3 : (c == 0)
      all_goals
        go_enter Try.func60, Try.ntmps60
        go_wp2_with (go_at_call 87; refine (isAccess _ _ _ _ _ _ lo hi).mono ?_; rintro e w' ⟨rfl, o, rfl⟩; rw [h1])
        go_ret
        exact ⟨rB (by rw [Pl.accOk_isAcc, h1, h2, h3]; rfl), _, _, rfl⟩
end Go.Proofs.Ytmkcbgnldnefmaa

namespace Go.Proofs.Ytmkcbgnldnefmaa
open Go.RowKit
set_option linter.unusedVariables false

theorem okv1 (v : Int) : Pl.okv 1 v = Pl.byteOk v := by
  unfold Pl.okv Pl.byteOk Pl.top
  rw [Bool.eq_iff_iff]; simp; omega
theorem isByte (v : Int) (w : World) (lo : -9223372036854775808 ≤ v) (hi : v ≤ 9223372036854775807) :
    Calls Try.prog 86 #[iv v] w fun e w' => e = .returned (.bool (Pl.byteOk v)) ∧ w' = w := by
  go_enter Try.func86, Try.ntmps86
  go_wp2_with (go_at_call 97; refine (signedOf _ _ _ lo hi).mono ?_; rintro e w' ⟨rfl, hw⟩; have hw2 := hw.symm; clear hw; subst hw2; rw [okv1])
  go_ret
  exact ⟨rfl, rfl⟩
theorem areBytes (w : World) (a : Option Addr) (ca : Nat) (xs : List Int) (ha : Came w a xs) (lx : xs.length ≤ 2000000) :
    Calls Try.prog 59 #[.slice a xs.length ca] w fun e w' => e = .returned (.bool (Pl.bytesOk xs)) ∧ w' = w := by
  have HA := hide ha
  clear ha
  go_enter Try.func59, Try.ntmps59
  go_wp2
  go_loop [4, 7] (fun _ j => ∃ k : Nat, k ≤ xs.length ∧ j = iv k ∧ ∀ i, i < k → Pl.byteOk (el xs i) = true) (fun _ j => xs.length - (intOf j).toNat)
  case atStart => exact ⟨0, Nat.zero_le _, rfl, fun i hi => absurd hi (Nat.not_lt_zero i)⟩
  case round =>
    obtain ⟨k, hk, rfl, heq⟩ := hrel
    have HE := hide heq
    clear heq
    by_cases hlt : k < xs.length
    · obtain ⟨g1, o1, rfl, hc1⟩ := HA.out.1 k hlt
      obtain ⟨lo, hi⟩ := HA.out.2 k hlt
      rw [show xs[k]?.getD 0 = el xs k from rfl] at hc1 lo hi
      cases hb : Pl.byteOk (el xs k)
      · go_wp2_with (go_at_call 86; refine (isByte _ _ lo hi).mono ?_; rintro e w' ⟨rfl, rfl⟩; rw [hb])
        go_ret
        exact ⟨rB (Pl.bytesOk_no hlt hb).symm, rfl⟩
      · go_wp2_with (go_at_call 86; refine (isByte _ _ lo hi).mono ?_; rintro e w' ⟨rfl, rfl⟩; rw [hb])
        go_round
        case rel => exact ⟨k + 1, by omega, by go_num, snoc_all HE.out hb⟩
        case measure => simp [intOf]; omega
    · go_wp2
      go_ret
      exact ⟨rB (Pl.bytesOk_of (fun i hi => HE.out i (by omega))).symm, rfl⟩
end Go.Proofs.Ytmkcbgnldnefmaa

namespace Go.Proofs.Ytmkcbgnldnefmaa
open Go.RowKit
set_option linter.unusedVariables false

theorem Wide.at5 {ys : List Int} (h : Wide ys) {m k : Nat} (hl : ys.length = 5 * m) (hk : k < m) : -9223372036854775808 ≤ el ys (k * 5 + 3) ∧ el ys (k * 5 + 3) ≤ 9223372036854775807 := h (k * 5 + 3) (by omega)

theorem goodBus (w : World) (a b : Option Addr) (ca cb m : Nat) (xs ys : List Int) (ha : Came w a xs) (hb : Came w b ys) (lx : xs.length ≤ 2000000) (ly : ys.length = 5 * m) (bm : m ≤ 2000000) :
    Calls Try.prog 42 #[.agg #[.slice a xs.length ca, .slice b m cb]] w fun e w' => e = .returned (.bool (Pl.goodBus xs ys m)) ∧ Kept 0 0 w w' := by
  have HA := hide ha
  have HB := hide hb
  have HY := hide ly
  have HK0 := hide (kept_alloc w (.cells #[.slice a xs.length ca, .slice b m cb] 36))
  clear ha hb ly
  cases h1 : ((xs.length : Int) != 512)
  · have hl5 : xs.length = 512 := by simp at h1; omega
    have G : Hid (Pl.goodBus xs ys m = (Pl.accsOk ys m && (Pl.bytesOk xs && decide (m ≤ 400)))) := hide (by
      unfold Pl.goodBus
      rw [show decide (xs.length = 512) = true from by simp [hl5], Bool.true_and])
    clear hl5
    cases h2 : Pl.bytesOk xs
    · go_enter Try.func42, Try.ntmps42
      go_wp2_with (go_at_call 59; refine (areBytes _ a ca xs (HA.out.keptS HK0.out) lx).mono ?_; rintro e w' ⟨rfl, rfl⟩; rw [h2])
      go_ret
      exact ⟨rB (by rw [G.out, h2, Bool.false_and, Bool.and_false]), HK0.out⟩
    · cases h3 : decide ((400 : Int) < (m : Int))
      · go_enter Try.func42, Try.ntmps42
        go_wp2_with (first | (go_at_call 59; refine (areBytes _ a ca xs (HA.out.keptS HK0.out) lx).mono ?_; rintro e w' ⟨rfl, rfl⟩; rw [h2]) | fail)
        obtain ⟨W, hW⟩ : ∃ W : World, W = w.alloc (.cells #[.slice a xs.length ca, .slice b m cb] 36) := ⟨_, rfl⟩
        rw [← hW] at HK0 ⊢
        clear hW
        go_loopw [4, 24] (fun _ j wr => ∃ k : Nat, k ≤ m ∧ j = iv k ∧ (∀ i, i < k → Pl.accAt ys i = true) ∧ Kept 0 0 W wr) (fun _ j _ => m - (intOf j).toNat)
        case atStart => exact ⟨0, Nat.zero_le _, rfl, fun i hi => absurd hi (Nat.not_lt_zero i), Kept.refl _ _ _⟩
        case round =>
          obtain ⟨k, hk, rfl, heq, hkept⟩ := hrel
          have HE := hide heq
          have HK := hide hkept
          clear heq hkept
          by_cases hlt : k < m
          · obtain ⟨lo, hi⟩ := HB.out.2.at5 HY.out hlt
            obtain ⟨g1, o1, rfl, p0, p1, p2, p3, p4⟩ := ((HB.out.keptS (HK0.out.trans HK.out)).1).five HY.out hlt
            cases hb : Pl.accAt ys k
            · have hb2 : Pl.accOk (el ys (k * 5)) (el ys (k * 5 + 1)) (el ys (k * 5 + 2)) (el ys (k * 5 + 3)) (el ys (k * 5 + 4)) = false := hb
              clear hb
              go_wp2_with (go_at_call 60; refine (isLogged _ _ _ _ _ _ lo hi).mono ?_; rintro e w' ⟨rfl, o, p, rfl⟩; rw [hb2])
              go_ret
              exact ⟨rB (by unfold Pl.goodBus; rw [Pl.accsOk_no hlt hb2]; rfl), HK0.out.trans (kept_new (kept_new (kept_new HK.out _) _) _)⟩
            · have hb2 : Pl.accOk (el ys (k * 5)) (el ys (k * 5 + 1)) (el ys (k * 5 + 2)) (el ys (k * 5 + 3)) (el ys (k * 5 + 4)) = true := hb
              clear hb
              go_wp2_with (go_at_call 60; refine (isLogged _ _ _ _ _ _ lo hi).mono ?_; rintro e w' ⟨rfl, o, p, rfl⟩; rw [hb2])
              go_roundw
              case rel => exact ⟨k + 1, by omega, by go_num, snoc_all HE.out hb2, kept_new (kept_new (kept_new HK.out _) _) _⟩
              case measure => simp [intOf]; omega
          · have HA1 : Hid (Pl.accsOk ys m = true) := hide (Pl.accsOk_of (fun i hi => HE.out i (by omega)))
            go_wp2_with fail
            go_ret
            refine ⟨rB ?_, HK0.out.trans HK.out⟩
            rw [G.out, HA1.out, h2]
            simp at h3
            simp; omega
      · go_enter Try.func42, Try.ntmps42
        go_wp2_with (go_at_call 59; refine (areBytes _ a ca xs (HA.out.keptS HK0.out) lx).mono ?_; rintro e w' ⟨rfl, rfl⟩; rw [h2])
        go_ret
        refine ⟨rB ?_, HK0.out⟩
        rw [G.out]
        simp at h3
        rw [show decide (m ≤ 400) = false from by simp; omega]
        simp
  · have hl5 : Hid (¬ xs.length = 512) := hide (by simp at h1; omega)
    go_enter Try.func42, Try.ntmps42
    go_wp2_with (go_at_call 59; fail)
    go_ret
    refine ⟨rB ?_, HK0.out⟩
    unfold Pl.goodBus
    rw [show decide (xs.length = 512) = false from by simp [hl5.out]]
    simp
end Go.Proofs.Ytmkcbgnldnefmaa

namespace Go.Proofs.Ytmkcbgnldnefmaa
open Go.RowKit
set_option linter.unusedVariables false
set_option maxHeartbeats 1000000 in
theorem implGoodCpu (w : World) (c : Pl.Cp) (a b e q : Option Addr) (ca cb ce cq : Nat) (ha : Came w a c.r.xs) (hb : Came w b c.r.ys) (he : Came w e c.bx) (hq : Came w q c.bl) (lx : c.r.xs.length ≤ 2000000) (ly : c.r.ys.length ≤ 2000000) (lb : c.bx.length ≤ 2000000) (ll : c.bl.length = 5 * c.bm) (lm : c.bm ≤ 2000000) (wf : Pl.WfR c.r) :
    Calls Try.prog 33 #[.agg #[.slice a c.r.xs.length ca, .slice b c.r.ys.length cb, iv c.r.o, iv c.r.p, iv c.r.f, iv c.r.m, .bool c.r.s, .bool c.r.t, .slice e c.bx.length ce, .slice q c.bm cq, .bool c.st, .bool c.ha]] w fun r w' => r = .returned (.bool (Pl.cpOk c)) ∧ Kept 0 0 w w' := by
  have K0 := hide (kept_alloc w (.cells #[.slice a c.r.xs.length ca, .slice b c.r.ys.length cb, iv c.r.o, iv c.r.p, iv c.r.f, iv c.r.m, .bool c.r.s, .bool c.r.t, .slice e c.bx.length ce, .slice q c.bm cq, .bool c.st, .bool c.ha] 38))
  have HBA := hide (Blk.new w #[.slice a c.r.xs.length ca, .slice b c.r.ys.length cb, iv c.r.o, iv c.r.p, iv c.r.f, iv c.r.m, .bool c.r.s, .bool c.r.t, .slice e c.bx.length ce, .slice q c.bm cq, .bool c.st, .bool c.ha] 38)
  obtain ⟨X, hX⟩ : ∃ X : World, w.alloc (.cells #[.slice a c.r.xs.length ca, .slice b c.r.ys.length cb, iv c.r.o, iv c.r.p, iv c.r.f, iv c.r.m, .bool c.r.s, .bool c.r.t, .slice e c.bx.length ce, .slice q c.bm cq, .bool c.st, .bool c.ha] 38) = X := ⟨_, rfl⟩
  rw [hX] at K0 HBA
  have HA := hide (ha.keptS K0.out)
  have HB := hide (hb.keptS K0.out)
  have HE := hide (he.keptS K0.out)
  have HQ := hide (hq.keptS K0.out)
  clear ha hb he hq
  have p := HBA.out.all
  cases h1 : Pl.rgOk c.r
  · go_enter Try.func33, Try.ntmps33
    go_wp2_with (go_at_call 54; refine (implGoodRegs _ c.r a b ca cb HA.out HB.out lx ly wf).mono ?_; rintro e9 W ⟨rfl, k9⟩; rw [h1]; have HK1 := hide k9; have HB1 := hide (HBA.out.kept0 k9); have HE1 := hide (HE.out.keptS k9); have HQ1 := hide (HQ.out.keptS k9); clear k9 p; have p := HB1.out.all)
    go_ret
    exact ⟨rB (by unfold Pl.cpOk; simp [h1]), K0.out.trans HK1.out⟩
  · cases h2 : Pl.goodBus c.bx c.bl c.bm
    · go_enter Try.func33, Try.ntmps33
      go_wp2_with (first | (go_at_call 42; have z9 := HB1; refine (goodBus _ e q ce cq c.bm c.bx c.bl HE1.out HQ1.out lb ll lm).mono ?_; rintro e9 W2 ⟨rfl, k9⟩; rw [h2]; have HK2 := hide k9; have HB2 := hide (HB1.out.kept0 k9); clear k9 p; have p := HB2.out.all) | (go_at_call 54; refine (implGoodRegs _ c.r a b ca cb HA.out HB.out lx ly wf).mono ?_; rintro e9 W ⟨rfl, k9⟩; rw [h1]; have HK1 := hide k9; have HB1 := hide (HBA.out.kept0 k9); have HE1 := hide (HE.out.keptS k9); have HQ1 := hide (HQ.out.keptS k9); clear k9 p; have p := HB1.out.all))
      go_ret
      exact ⟨rB (by unfold Pl.cpOk; simp [h1, h2]), (K0.out.trans HK1.out).trans HK2.out⟩
    · rcases Bool.eq_false_or_eq_true c.st with h3 | h3
      all_goals
        have H3 := hide h3
        clear h3
        go_enter Try.func33, Try.ntmps33
        go_wp2_with (first | (go_at_call 42; have z9 := HB1; refine (goodBus _ e q ce cq c.bm c.bx c.bl HE1.out HQ1.out lb ll lm).mono ?_; rintro e9 W2 ⟨rfl, k9⟩; rw [h2]; have HK2 := hide k9; have HB2 := hide (HB1.out.kept0 k9); clear k9 p; have p := HB2.out.all; rw [H3.out] at p) | (go_at_call 54; refine (implGoodRegs _ c.r a b ca cb HA.out HB.out lx ly wf).mono ?_; rintro e9 W ⟨rfl, k9⟩; rw [h1]; have HK1 := hide k9; have HB1 := hide (HBA.out.kept0 k9); have HE1 := hide (HE.out.keptS k9); have HQ1 := hide (HQ.out.keptS k9); clear k9 p; have p := HB1.out.all))
        go_ret
        exact ⟨rB (by unfold Pl.cpOk; simp [h1, h2, H3.out]), (K0.out.trans HK1.out).trans HK2.out⟩
end Go.Proofs.Ytmkcbgnldnefmaa

namespace Go.Proofs.Ytmkcbgnldnefmaa
open Go.RowKit
set_option linter.unusedVariables false

def zeros : List Int := List.replicate 512 0
theorem zeros_len : zeros.length = 512 := List.length_replicate ..
theorem Try.infoMem : (Try.prog.info? 81).map (fun i => (i.zero, i.size)) = some (some (.agg (cellsOf zeros)), 512) := by kernel_rfl
theorem Try.memZero : ∀ w, (zeroValue 81).run Try.prog w = .ok (.agg (cellsOf zeros)) w := (zero_of_info Try.infoMem).1
theorem Try.memSize : (Try.prog.info? 81).map (·.size) = some 512 := (zero_of_info Try.infoMem).2
set_option maxHeartbeats 4000000 in
theorem memoryOf (w : World) (a b : Option Addr) (ca cb m : Nat) (xs : List Int) (ha : IRow w a xs) (lx : xs.length = 512) :
    Calls Try.prog 44 #[.agg #[.slice a xs.length ca, .slice b m cb]] w fun e w' => e = .returned (.agg (cellsOf xs)) ∧ Kept 0 0 w w' := by
  obtain ⟨ga, oa, rfl, _⟩ := ha 0 (by omega)
  have HA := hide ha
  have HX := hide lx
  clear ha lx
  have mz := Try.memZero
  have HS : Hid ((Try.prog.info? 3).map (·.size) = some 1) := hide (by kernel_rfl)
  go_enter Try.func44, Try.ntmps44
  go_wp2_with fail
  have K := hide (kept_new (kept_new (kept_alloc w (.cells #[.slice (some ⟨ga, oa, none⟩) xs.length ca, .slice b m cb] 36)) (.cells (cellsOf zeros) 81)) (.cells (cellsOf zeros) 81))
  have B0 := (((Blk.new w #[.slice (some ⟨ga, oa, none⟩) xs.length ca, .slice b m cb] 36).alloc (.cells (cellsOf zeros) 81)).alloc (.cells (cellsOf zeros) 81))
  have B1 := ((Blk.new (w.alloc (.cells #[.slice (some ⟨ga, oa, none⟩) xs.length ca, .slice b m cb] 36)) (cellsOf zeros) 81).alloc (.cells (cellsOf zeros) 81))
  have B2 := Blk.new ((w.alloc (.cells #[.slice (some ⟨ga, oa, none⟩) xs.length ca, .slice b m cb] 36)).alloc (.cells (cellsOf zeros) 81)) (cellsOf zeros) 81
  simp only [World.size_alloc] at B1 B2
  obtain ⟨W, hW⟩ : ∃ W : World, W = (((w.alloc (.cells #[.slice (some ⟨ga, oa, none⟩) xs.length ca, .slice b m cb] 36)).alloc (.cells (cellsOf zeros) 81)).alloc (.cells (cellsOf zeros) 81)) := ⟨_, rfl⟩
  rw [← hW] at K B0 B1 B2 ⊢
  clear hW
  have p0 := B0.cell (i := 0) rfl
  have H1 := hide B1
  have H2 := hide B2
  clear B0 B1 B2
  have HZ : Hid ((Try.prog.info? 81).map (·.size) = some (cellsOf xs).size) := hide (by rw [cellsOf_size, HX.out]; exact Try.memSize)
  have HZ2 : Hid ((cellsOf zeros).size = (cellsOf xs).size) := hide (by rw [cellsOf_size, cellsOf_size, HX.out, zeros_len])
  have HN : Hid ((xs.map (Value.int .i64)).length = Nat.min xs.length 512) := hide (by rw [HX.out]; simp [HX.out])
  have HF : Hid (0 + (xs.map (Value.int .i64)).length ≤ (zeros.map (Value.int .i64)).length) := hide (by simp [HX.out, zeros_len])
  go_region_law (refine step_copy_splice rfl (.tmp 4) (.tmp 6) 22 22 rfl 3 Try.underlying22 HS.out _ _ _ _ _ _ rfl rfl (w.heap.size + 1 + 1) 0 (zeros.map (Value.int .i64)) 81 ?hg (xs.map (Value.int .i64)) HN.out ?hpos HF.out news_one (w.heap.size + 1 + 1) W ?hb (Nat.le_refl _) ?_
                 (case hg => exact H2.out)
                 (case hb => exact (Below.refl _ W).drew)
                 (case hpos => intro _; exact ⟨rfl, _, rfl, news_of (HA.out.keptS (kept_drew K.out))⟩)
                 intro w4 hg4 hb4)
  all_goals
    have D2 : Hid (Blk w4 (w.heap.size + 1 + 1) (cellsOf xs) 81) := hide (by
      have h := hg4.out
      rw [splice_all (by simp [HX.out, zeros_len])] at h
      exact h)
    have D1 : Hid (Blk w4 (w.heap.size + 1) (cellsOf zeros) 81) := hide ((hb4.block _ (by omega)).trans H1.out)
    have K4 : Hid (Kept 0 0 w w4) := hide (kept_lower K.out hb4 (by omega))
    clear hg4 hb4
    go_wp2_with (first | (refine wpList_load_row rfl 81 (.tmp 3) rfl (w.heap.size + 1 + 1) rfl 81 (cellsOf xs) (0, 0) _ D2.out Try.underlying81 rfl HZ.out ?_) | (refine wpList_store_row rfl 81 (.tmp 2) (.tmp 8) rfl (w.heap.size + 1) (cellsOf xs) rfl rfl 81 (cellsOf zeros) D1.out HZ.out HZ2.out (cellsOf_one xs) ?_))
    refine bodyPost_ret (v := .agg (cellsOf xs)) ?_ rfl ⟨rfl, kept_setRow K4.out _ _ (by omega)⟩
    exact results_cell_row rfl _ _ _ _ _ (0, 0) _ rfl D1.out.setRow Try.underlying81 rfl HZ.out

set_option maxRecDepth 20000 in
set_option maxHeartbeats 4000000 in
theorem memRead (w : World) (xs : List Int) (s n : Nat) (lx : xs.length = 512) (hb : Pl.bytesOk xs = true) (s0 : 1 ≤ s) (s1 : s ≤ 2) (hn : n + s ≤ 512) :
    Calls Try.prog 63 #[.agg (cellsOf xs), iv s, iv n] w fun e w' => e = .returned (iv (Pl.rd xs s n)) ∧ Kept 0 0 w w' := by
  have HX := hide lx
  have HO := hide (own_of_blk (Blk.new w (cellsOf xs) 81))
  have HK := hide (kept_alloc w (.cells (cellsOf xs) 81))
  have HB := hide hb
  have HS0 := hide s0
  have HN : Hid (n + s ≤ 512) := hide hn
  clear lx hb
  have hsl : ∀ W : World, (Instr.sliceAt 81 (.pointer (some ⟨w.heap.size, 0, none⟩)) (some (iv (n : Int))) (some (iv ((n : Int) + (s : Int)))) none).run Try.prog W = .ok (.slice (some ⟨w.heap.size, n, none⟩) s (512 - n)) W := by
    intro W
    have hlen : Try.prog.arrayLen 81 = 512 := by kernel_rfl
    have hel : Try.prog.elem 81 = 3 := by kernel_rfl
    have ht : Try.prog.underlying 81 = some (.array (Try.prog.arrayLen 81) (Try.prog.elem 81)) := by kernel_rfl
    obtain ⟨i, hi, hz0, hz1, hz2⟩ := info_parts Try.info3
    rw [run_sliceAt_array_lh W 81 _ ht .i64 .i64 n ((n : Int) + (s : Int)) (by omega) (by omega) (by rw [hlen]; omega), hlen, hel]
    have e1 : ((n : Int)).toNat = n := by omega
    have e2 : ((n : Int) + (s : Int)).toNat - n = s := by omega
    have q1 : ¬ 512 = n := by omega
    simp only [sizeOf, typeInfo, Sem.run_bind, Sem.run_pure, slicedAt, e1, e2, q1, if_false]
    simp [hi, hz1, Addr.add]
    intro h0; exact h0.symm
  go_enter Try.func63, Try.ntmps63
  go_wp2_with fail
  go_loop [7, 9, 16] (fun v _ j => ∃ k : Nat, k ≤ s ∧ j = iv k ∧ v = iv (Pl.rdK xs n k)) (fun _ _ j => s - (intOf j).toNat)
  case atStart => exact ⟨0, Nat.zero_le _, rfl, rfl⟩
  case round =>
    obtain ⟨k, hk, rfl, rfl⟩ := hrel
    by_cases hlt : k < s
    · obtain ⟨hc, _⟩ := HO.out (n + k) (by rw [HX.out]; omega)
      have b0 := Pl.bytesOk_at HB.out n (by rw [HX.out]; omega)
      have b1 := Pl.bytesOk_at HB.out (n + k) (by rw [HX.out]; omega)
      rw [show xs[n + k]?.getD 0 = el xs (n + k) from rfl] at hc
      obtain ⟨b00, b01⟩ := b0
      obtain ⟨b10, b11⟩ := b1
      by_cases hk0 : k = 0
      · subst hk0
        have hor := Pl.word_or (h := 0) (by decide) (by decide) b10 b11
        rw [Int.zero_mul, Int.zero_add] at hor
        rw [Nat.add_zero] at hc hor b10 b11
        rw [show Pl.rdK xs n 0 = 0 from rfl]
        go_wp2
        go_round
        case rel => exact ⟨1, by omega, rfl, rfl⟩
        case measure => simp [intOf]; omega
      · obtain rfl : k = 1 := by omega
        have hor := Pl.word_or b00 b01 b10 b11
        rw [show Pl.rdK xs n 1 = el xs n from rfl]
        go_wp2
        go_round
        case rel => exact ⟨2, by omega, rfl, rfl⟩
        case measure => simp [intOf]; omega
    · have E : Hid (Pl.rdK xs n k = Pl.rd xs s n) := hide (by
        have : k = 1 ∨ k = 2 := by omega
        unfold Pl.rdK Pl.rd
        rcases this with rfl | rfl
        · rw [if_neg (by decide), if_pos rfl, if_pos (by omega)]
        · rw [if_neg (by decide), if_neg (by decide), if_neg (by omega)])
      go_wp2
      go_ret
      exact ⟨rI E.out, HK.out⟩
end Go.Proofs.Ytmkcbgnldnefmaa

namespace Go.Proofs.Ytmkcbgnldnefmaa
open Go.RowKit
set_option linter.unusedVariables false
theorem Pl.peek_code {a : Int} (h0 : 0 ≤ a) : decide (Pl.code 1 2 a = 0) = (!(decide (a % 2 = 1)) && !(Pl.kind a == 1)) := by
  rw [Bool.eq_iff_iff]
  simp only [decide_eq_true_eq, Bool.and_eq_true, Bool.not_eq_true', decide_eq_false_iff_not, beq_eq_false_iff_ne, ne_eq]
  unfold Pl.code
  by_cases h1 : a % 2 = 1
  · simp [h1]
  · have e : (Pl.kind (a + 2 - 1) = 1) ↔ (Pl.kind a = 1) := by
      unfold Pl.kind
      constructor
      · intro h
        split at h
        · rw [if_pos (by omega)]
        · split at h
          · cases h
          · cases h
      · intro h
        split at h
        · rw [if_pos (by omega)]
        · split at h
          · cases h
          · cases h
    rw [if_neg (by omega)]
    by_cases h2 : Pl.kind a = 1
    · simp [h1, h2]
    · simp [h1, h2, e]

end Go.Proofs.Ytmkcbgnldnefmaa

namespace Go.Proofs.Ytmkcbgnldnefmaa
open Go.RowKit
set_option linter.unusedVariables false
set_option linter.unusedSimpArgs false
/-- whether a word lies at a place -/
def Pl.wdOk (q : Int) : Bool := decide (Pl.code 1 2 q = 0)
/-- the model's word at a place, and the program's -/
def Pl.wdAt (xs : List Int) (q : Int) : Int := el xs q.toNat * 256 + el xs (q.toNat + 1)
def Pl.wdP (xs : List Int) (q : Int) : Int := if Pl.wdOk q = true then Pl.wdAt xs q else 0
theorem Pl.wd_low {q : Int} (q0 : 0 ≤ q) (h : Pl.wdOk q = true) : q + 2 ≤ 512 := by
  have := Pl.code_low (of_decide_eq_true h) q0
  omega
set_option maxRecDepth 100000 in
set_option maxHeartbeats 4000000 in
theorem implUPeek (w : World) (bk : Nat) (xs : List Int) (q : Int) (hB : Blk w bk (cellsOf xs) 81) (lx : xs.length = 512) (hb : Pl.bytesOk xs = true) (q0 : 0 ≤ q) (q1 : q ≤ 65535) :
    Calls Try.prog 45 #[.pointer (some ⟨bk, 0, none⟩), iv q] w fun e w' => e = .returned (.tuple #[iv (Pl.wdP xs q), .bool (Pl.wdOk q)]) ∧ Kept 0 0 w w' := by
  have HB := hide hB
  have HX := hide lx
  have HBY := hide hb
  have hpc := Pl.peek_code q0
  cases h3 : decide (q % 2 = 1)
  · cases h4 : (Pl.kind q == 1)
    · have h2 : Pl.wdOk q = true := by unfold Pl.wdOk; rw [hpc, h3, h4]; rfl
      have hl := Pl.wd_low q0 h2
      obtain ⟨i, rfl⟩ : ∃ i : Nat, q = (i : Int) := ⟨q.toNat, by omega⟩
      have E : Hid (Pl.rd xs (2 : Nat) i = Pl.wdAt xs (i : Int)) := hide (by unfold Pl.wdAt; rw [Int.toNat_natCast]; rfl)
      have HI : Hid (i + 2 ≤ 512) := hide (by omega)
      have HW : Hid (Pl.wdOk (i : Int) = true) := hide h2
      have HZ : Hid ((Try.prog.info? 81).map (·.size) = some (cellsOf xs).size) := hide (by rw [cellsOf_size, lx]; kernel_rfl)
      clear hB lx hb hpc h2
      go_enter Try.func45, Try.ntmps45
      go_wp2_with (first | (refine wpList_load_row rfl 81 (.tmp 14) rfl bk rfl 81 (cellsOf xs) (0, 0) _ HB.out Try.underlying81 rfl HZ.out ?_) | (go_at_call 61; refine st (isOdd _ _ q0 q1) ?_; rw [h3]) | (go_at_call 62; refine st (partOf _ _) ?_) | (go_at_call 63; refine (memRead _ xs 2 i HX.out HBY.out (by decide) (by decide) HI.out).mono ?_; rintro e w3 ⟨rfl, k3⟩; have K3 := hide k3; clear k3))
      go_ret2
      exact ⟨rIB (by unfold Pl.wdP; rw [HW.out, if_pos rfl]; exact E.out) HW.out.symm, K3.out⟩
    · have h2 : Pl.wdOk q = false := by unfold Pl.wdOk; rw [hpc, h3, h4]; rfl
      go_enter Try.func45, Try.ntmps45
      go_wp2_with (first | (go_at_call 61; refine st (isOdd _ _ q0 q1) ?_; rw [h3]) | (go_at_call 62; refine st (partOf _ _) ?_))
      go_ret2
      exact ⟨rIB (by unfold Pl.wdP; rw [h2]; rfl) h2.symm, Kept.refl _ _ _⟩
  · have h2 : Pl.wdOk q = false := by unfold Pl.wdOk; rw [hpc, h3]; rfl
    go_enter Try.func45, Try.ntmps45
    go_wp2_with (first | (go_at_call 61; refine st (isOdd _ _ q0 q1) ?_; rw [h3]))
    go_ret2
    exact ⟨rIB (by unfold Pl.wdP; rw [h2]; rfl) h2.symm, Kept.refl _ _ _⟩
end Go.Proofs.Ytmkcbgnldnefmaa

namespace Go.Proofs.Ytmkcbgnldnefmaa
open Go.RowKit
set_option linter.unusedVariables false

set_option maxHeartbeats 4000000 in
theorem peekWord (w : World) (a b : Option Addr) (ca cb m : Nat) (xs ys : List Int) (q : Int) (ha : Came w a xs) (hb : Came w b ys) (lx : xs.length ≤ 2000000) (ly : ys.length = 5 * m) (bm : m ≤ 2000000) (wf : (Lit.int .i64 q).wf = true) :
    Calls Try.prog 15 #[.agg #[.slice a xs.length ca, .slice b m cb], .int .i64 q] w fun e w' => e = .returned (.tuple #[.int .i64 (Pl.peekV xs ys m q), .bool (Pl.peekOk xs ys m q)]) ∧ Kept 0 0 w w' := by
  have HA := hide ha
  have HB := hide hb
  have HY := hide ly
  have K0 := hide (kept_alloc w (.cells #[.slice a xs.length ca, .slice b m cb] 36))
  have B0 := hide (Blk.new w #[.slice a xs.length ca, .slice b m cb] 36)
  clear ha hb ly
  cases h1 : Pl.goodBus xs ys m
  · have E : Hid (Pl.peekOk xs ys m q = false ∧ Pl.peekV xs ys m q = 0) := hide (by
      have : Pl.peekOk xs ys m q = false := by unfold Pl.peekOk; rw [h1]; rfl
      exact ⟨this, by unfold Pl.peekV; rw [this]; rfl⟩)
    go_enter Try.func15, Try.ntmps15
    go_wp2_with (go_at_call 42; refine (goodBus _ a b ca cb m xs ys (HA.out.keptS K0.out) (HB.out.keptS K0.out) lx HY.out bm).mono ?_; rintro e w1 ⟨rfl, k1⟩; rw [h1])
    go_ret2
    exact ⟨rIB E.out.2.symm E.out.1.symm, K0.out.trans k1⟩
  · cases h2 : Pl.addr q
    · have E : Hid (Pl.peekOk xs ys m q = false ∧ Pl.peekV xs ys m q = 0) := hide (by
        have : Pl.peekOk xs ys m q = false := by unfold Pl.peekOk; rw [h1, h2]; rfl
        exact ⟨this, by unfold Pl.peekV; rw [this]; rfl⟩)
      go_enter Try.func15, Try.ntmps15
      go_wp2_with (first | (go_at_call 42; refine (goodBus _ a b ca cb m xs ys (HA.out.keptS K0.out) (HB.out.keptS K0.out) lx HY.out bm).mono ?_; rintro e w1 ⟨rfl, k1⟩; rw [h1]) | (go_at_call 43; refine (isAddress _ _).mono ?_; rintro e w' ⟨rfl, rfl⟩; rw [h2]))
      go_ret2
      exact ⟨rIB E.out.2.symm E.out.1.symm, K0.out.trans k1⟩
    · obtain ⟨q0, q1⟩ : 0 ≤ q ∧ q ≤ 65535 := by simpa [Pl.addr] using h2
      obtain ⟨l5, hby, _, _⟩ := Pl.goodBus_ok h1
      have E : Hid (Pl.peekOk xs ys m q = Pl.wdOk q ∧ Pl.peekV xs ys m q = Pl.wdP xs q) := hide (by
        have e1 : Pl.peekOk xs ys m q = Pl.wdOk q := by unfold Pl.peekOk Pl.wdOk; rw [h1, h2]; rfl
        refine ⟨e1, ?_⟩
        unfold Pl.peekV Pl.wdP
        rw [e1]; rfl)
      have L5 := hide l5
      clear l5
      have mz := Try.memZero
      have HZS : Hid ((Try.prog.info? 81).map (·.size) = some (cellsOf xs).size) := hide (by rw [cellsOf_size, L5.out]; exact Try.memSize)
      have HZ2 : Hid ((cellsOf zeros).size = (cellsOf xs).size) := hide (by rw [cellsOf_size, cellsOf_size, L5.out, zeros_len])
      go_enter Try.func15, Try.ntmps15
      go_wp2_with (first
        | (go_at_call 42; refine (goodBus _ a b ca cb m xs ys (HA.out.keptS K0.out) (HB.out.keptS K0.out) lx HY.out bm).mono ?_; rintro e w1 ⟨rfl, k1⟩; rw [h1]; have K1 := hide (K0.out.trans k1); have B1 := hide (B0.out.kept0 k1); have pb := B1.out.all; clear k1)
        | (go_at_call 43; refine (isAddress _ _).mono ?_; rintro e w' ⟨rfl, rfl⟩; rw [h2])
        | (go_at_call 44; refine (memoryOf _ a b ca cb m xs (HA.out.keptS K1.out).1 L5.out).mono ?_; rintro e9 w5 ⟨rfl, k5⟩; have z5 := (K1.out.trans k5).size; have D5 := hide (Blk.new w5 (cellsOf zeros) 81); have K5 := hide (kept_setRow (kept_new (K1.out.trans k5) (.cells (cellsOf zeros) 81)) w5.heap.size (cellsOf xs) (by omega)); have M5 := hide (Blk.setRow (ds := cellsOf xs) D5.out); clear pb k5)
        | (refine wpList_store_row rfl 81 (.tmp 6) (.tmp 16) rfl w5.heap.size (cellsOf xs) rfl rfl 81 (cellsOf zeros) D5.out HZS.out HZ2.out (cellsOf_one xs) ?_)
        | (go_at_call 45; refine (implUPeek _ w5.heap.size xs q M5.out L5.out hby q0 q1).mono ?_; rintro e9 w4 ⟨rfl, k4⟩; have K4 := hide (K5.out.trans k4); clear k4))
      go_ret2
      exact ⟨rIB E.out.2.symm E.out.1.symm, K4.out⟩

end Go.Proofs.Ytmkcbgnldnefmaa

namespace Go.Proofs.Ytmkcbgnldnefmaa
open Go.RowKit
set_option linter.unusedVariables false
set_option maxRecDepth 100000 in
set_option maxHeartbeats 4000000 in
theorem implVectorAt (w : World) (c : Pl.Cp) (v : Int) (a b e q : Option Addr) (ca cb ce cq : Nat) (ha : Came w a c.r.xs) (hb : Came w b c.r.ys) (he : Came w e c.bx) (hq : Came w q c.bl) (lx : c.r.xs.length ≤ 2000000) (ly : c.r.ys.length ≤ 2000000) (lb : c.bx.length ≤ 2000000) (ll : c.bl.length = 5 * c.bm) (lm : c.bm ≤ 2000000) (wf : Pl.WfR c.r) :
    Calls Try.prog 10 #[.agg (cpA c a b e q ca cb ce cq), iv v] w fun r w' => r = .returned (.tuple #[iv (Pl.vaV c v), .bool (Pl.vaOk c v)]) ∧ Kept 0 0 w w' := by
  have HA := hide ha
  have HB := hide hb
  have HE := hide he
  have HQ := hide hq
  clear ha hb he hq
  have K0 := hide (kept_alloc w (.cells (cpA c a b e q ca cb ce cq) 38))
  have BC0 := hide (Blk.new w (cpA c a b e q ca cb ce cq) 38)
  obtain ⟨X, hX⟩ : ∃ X : World, w.alloc (.cells (cpA c a b e q ca cb ce cq) 38) = X := ⟨_, rfl⟩
  rw [hX] at K0 BC0
  have p := BC0.out.all
  cases h1 : Pl.cpOk c
  · have EV : Hid (Pl.vaV c v = 0 ∧ Pl.vaOk c v = false) := hide (by simp [Pl.vaV, Pl.vaOk, h1])
    go_enter Try.func10, Try.ntmps10
    go_wp2_with (first | (go_at_call 33; refine (implGoodCpu _ c a b e q ca cb ce cq (HA.out.keptS K0.out) (HB.out.keptS K0.out) (HE.out.keptS K0.out) (HQ.out.keptS K0.out) lx ly lb ll lm wf).mono ?_; rintro e9 w1 ⟨rfl, k9⟩; rw [h1]; have K1 := hide (K0.out.trans k9); have BC1 := hide (BC0.out.kept0 k9); clear k9 p; have p := BC1.out.all))
    go_ret2
    exact ⟨rIB EV.out.1.symm EV.out.2.symm, K1.out⟩
  · have H : v < 0 ∨ ¬ v < 0 ∧ (31 < v ∨ ¬ 31 < v) := by omega
    rcases H with h2 | ⟨h2, h3 | h3⟩
    · have EV : Hid (Pl.vaV c v = 0 ∧ Pl.vaOk c v = false) := hide (by simp [Pl.vaV, Pl.vaOk, show Pl.within v 0 31 = false from by simp [Pl.within]; omega])
      go_enter Try.func10, Try.ntmps10
      go_wp2_with (first | (go_at_call 33; refine (implGoodCpu _ c a b e q ca cb ce cq (HA.out.keptS K0.out) (HB.out.keptS K0.out) (HE.out.keptS K0.out) (HQ.out.keptS K0.out) lx ly lb ll lm wf).mono ?_; rintro e9 w1 ⟨rfl, k9⟩; rw [h1]; have K1 := hide (K0.out.trans k9); have BC1 := hide (BC0.out.kept0 k9); clear k9 p; have p := BC1.out.all))
      go_ret2
      exact ⟨rIB EV.out.1.symm EV.out.2.symm, K1.out⟩
    · have EV : Hid (Pl.vaV c v = 0 ∧ Pl.vaOk c v = false) := hide (by simp [Pl.vaV, Pl.vaOk, show Pl.within v 0 31 = false from by simp [Pl.within]; omega])
      go_enter Try.func10, Try.ntmps10
      go_wp2_with (first | (go_at_call 33; refine (implGoodCpu _ c a b e q ca cb ce cq (HA.out.keptS K0.out) (HB.out.keptS K0.out) (HE.out.keptS K0.out) (HQ.out.keptS K0.out) lx ly lb ll lm wf).mono ?_; rintro e9 w1 ⟨rfl, k9⟩; rw [h1]; have K1 := hide (K0.out.trans k9); have BC1 := hide (BC0.out.kept0 k9); clear k9 p; have p := BC1.out.all))
      go_ret2
      exact ⟨rIB EV.out.1.symm EV.out.2.symm, K1.out⟩
    · have EV : Hid (Pl.vaV c v = Pl.peekV c.bx c.bl c.bm (2 * v) ∧ Pl.vaOk c v = Pl.peekOk c.bx c.bl c.bm (2 * v)) := hide (by simp [Pl.vaV, Pl.vaOk, h1, show Pl.within v 0 31 = true from by simp [Pl.within]; omega])
      have e2 : IntKind.i64.wrap (v * 2) = 2 * v := by rw [IntKind.wrap_i64]; omega
      go_enter Try.func10, Try.ntmps10
      go_wp2_with (first | (go_at_call 33; refine (implGoodCpu _ c a b e q ca cb ce cq (HA.out.keptS K0.out) (HB.out.keptS K0.out) (HE.out.keptS K0.out) (HQ.out.keptS K0.out) lx ly lb ll lm wf).mono ?_; rintro e9 w1 ⟨rfl, k9⟩; rw [h1]; have K1 := hide (K0.out.trans k9); have BC1 := hide (BC0.out.kept0 k9); clear k9 p; have p := BC1.out.all) | (go_at_call 15; refine (peekWord _ e q ce cq c.bm c.bx c.bl (2 * v) (HE.out.keptS K1.out) (HQ.out.keptS K1.out) lb ll lm (wf_int (by omega) (by omega))).mono ?_; rintro e9 w3 ⟨rfl, k9⟩; have K3 := hide (K1.out.trans k9); clear k9))
      go_ret2
      exact ⟨rIB EV.out.1.symm EV.out.2.symm, K3.out⟩
end Go.Proofs.Ytmkcbgnldnefmaa

namespace Go.Proofs.Ytmkcbgnldnefmaa
open Go.RowKit
set_option linter.unusedVariables false
set_option maxRecDepth 100000 in
set_option maxHeartbeats 16000000 in
theorem lawVectorAt (d : Pl.Cp) (a b e q : Option Addr) (ca cb ce cq : Nat) (v : Int) (w : World) (hx : Came w a d.r.xs) (hy : Came w b d.r.ys) (hz : Came w e d.bx) (hq : Came w q d.bl) (lx : d.r.xs.length ≤ 9223372036854775807) (ly : d.r.ys.length ≤ 9223372036854775807) (lz : d.bx.length ≤ 9223372036854775807) (lm : d.bm ≤ 9223372036854775807) (ll : d.bl.length = 5 * d.bm) (wfd : Pl.WfR d.r) :
    Calls Try.prog 3 #[.agg (cpA d a b e q ca cb ce cq), iv v] w fun e w' => e = .returned (.bool true) ∧ Below w.heap.size w w' := by
  have HX := hide hx
  have HY := hide hy
  have HZ := hide hz
  have HQ := hide hq
  have HWF := hide wfd
  have HLL := hide ll
  have Bel := hide (kept_alloc w (.cells (cpA d a b e q ca cb ce cq) 29)).below
  have WA := hide (Blk.new w (cpA d a b e q ca cb ce cq) 29)
  obtain ⟨X0, hX0⟩ : ∃ X : World, w.alloc (.cells (cpA d a b e q ca cb ce cq) 29) = X := ⟨_, rfl⟩
  have nX0 : X0.heap.size = w.heap.size + 1 := by simp [← hX0]
  rw [hX0] at Bel WA
  clear hx hy hz hq wfd ll
  by_cases hs : szC d.r.xs.length d.r.ys.length d.bx.length d.bm 1048576 < 0
  · go_enter Try.func3, Try.ntmps3
    have p0 := WA.out.all
    go_wp2_with fail
    refine (szCpu _ d a b e q ca cb ce cq 1048576 lx ly lz lm (by decide) (by decide)).mono ?_
    rintro e9 w1 ⟨rfl, k⟩
    have Bn := hide (below_kept Bel.out k (by omega))
    clear k
    go_wp2_with fail
    go_ret
    exact ⟨rfl, Bn.out⟩
  · have hb := szC_neg hs
    have bx : d.r.xs.length ≤ 2000000 := by omega
    have by_ : d.r.ys.length ≤ 2000000 := by omega
    have bz : d.bx.length ≤ 2000000 := by omega
    have bm : d.bm ≤ 2000000 := by omega
    have ds : decide (szC d.r.xs.length d.r.ys.length d.bx.length d.bm 1048576 < 0) = false := by simpa using hs
    clear hs hb
    generalize hVV : Pl.vaV d v = V
    generalize hKK : Pl.vaOk d v = K
    have HVV := hide hVV
    have HKK := hide hKK
    clear hVV hKK
    go_enter Try.func3, Try.ntmps3
    have p0 := WA.out.all
    go_wp2_with fail
    clear p0
    refine (szCpu _ d a b e q ca cb ce cq 1048576 lx ly lz lm (by decide) (by decide)).mono ?_
    rintro e9 w1 ⟨rfl, k⟩
    have Beln := hide (below_kept Bel.out k (by omega))
    have WAn := hide (WA.out.kept k (by omega))
    clear Bel WA
    have Bel := Beln
    have WA := WAn
    clear Beln WAn
    have nw1 := k.size
    clear k
    clear hX0
    have p0 := WA.out.all
    go_wp2_with fail
    clear p0 ds
    refine (toCpu _ d a b e q ca cb ce cq (HX.out.below Bel.out).1 (HY.out.below Bel.out).1 (HZ.out.below Bel.out).1 (HQ.out.below Bel.out).1 bx by_ bz HLL.out bm).mono ?_
    rintro e9 w2 ⟨g1, g2, g3, g4, rfl, hs9, k⟩
    have Beln := hide (below_kept Bel.out k (by omega))
    have WAn := hide (WA.out.kept k (by omega))
    clear Bel WA
    have Bel := Beln
    have WA := WAn
    clear Beln WAn
    have nw2 := k.size
    have O1 := hide hs9
    clear k hs9
    go_wp2_with fail
    refine (specVectorAt _ d v _ _ _ _ _ _ _ _ O1.out.d.row O1.out.a'.row O1.out.b'.row O1.out.l.row bx by_ bz HLL.out bm).mono ?_
    rw [HVV.out, HKK.out]
    rintro e9 w3 ⟨rfl, k⟩
    have Beln := hide (below_kept Bel.out k (by omega))
    have WAn := hide (WA.out.kept k (by omega))
    have O1n := hide (O1.out.kept k (by omega))
    clear Bel WA O1
    have Bel := Beln
    have WA := WAn
    have O1 := O1n
    clear Beln WAn O1n
    have nw3 := k.size
    clear k
    clear O1
    have p0 := WA.out.all
    go_wp2_with fail
    clear p0
    refine (toCpu _ d a b e q ca cb ce cq (HX.out.below Bel.out).1 (HY.out.below Bel.out).1 (HZ.out.below Bel.out).1 (HQ.out.below Bel.out).1 bx by_ bz HLL.out bm).mono ?_
    rintro e9 w4 ⟨g5, g6, g7, g8, rfl, hs9, k⟩
    have Beln := hide (below_kept Bel.out k (by omega))
    have WAn := hide (WA.out.kept k (by omega))
    clear Bel WA
    have Bel := Beln
    have WA := WAn
    clear Beln WAn
    have nw4 := k.size
    have O3 := hide hs9
    clear k hs9
    have ka : Kept 0 0 w4 (w4.alloc (.cells (cpA d (some ⟨g5, 0, none⟩) (some ⟨g6, 0, none⟩) (some ⟨g7, 0, none⟩) (some ⟨g8, 0, none⟩) d.r.xs.length d.r.ys.length d.bx.length d.bm) 38)) := kept_alloc w4 _
    have Beln := hide (below_kept Bel.out ka (by omega))
    have WAn := hide (WA.out.kept ka (by omega))
    have O3n := hide (O3.out.kept ka (by omega))
    clear Bel WA O3
    have Bel := Beln
    have WA := WAn
    have O3 := O3n
    clear Beln WAn O3n
    have B0 := Blk.new w4 (cpA d (some ⟨g5, 0, none⟩) (some ⟨g6, 0, none⟩) (some ⟨g7, 0, none⟩) (some ⟨g8, 0, none⟩) d.r.xs.length d.r.ys.length d.bx.length d.bm) 38
    obtain ⟨X4, hX4⟩ : ∃ X : World, w4.alloc (.cells (cpA d (some ⟨g5, 0, none⟩) (some ⟨g6, 0, none⟩) (some ⟨g7, 0, none⟩) (some ⟨g8, 0, none⟩) d.r.xs.length d.r.ys.length d.bx.length d.bm) 38) = X := ⟨_, rfl⟩
    have nX4 : X4.heap.size = w4.heap.size + 1 := by simp [← hX4]
    rw [hX4] at Bel WA O3 B0
    have VA := hide B0
    clear ka B0
    have p0 := VA.out.all
    go_wp2_with fail
    clear p0 hX4
    refine (implVectorAt _ d v _ _ _ _ _ _ _ _ ⟨O3.out.d.row, HX.out.2⟩ ⟨O3.out.a'.row, HY.out.2⟩ ⟨O3.out.b'.row, HZ.out.2⟩ ⟨O3.out.l.row, HQ.out.2⟩ bx by_ bz HLL.out bm HWF.out).mono ?_
    rw [HVV.out, HKK.out]
    rintro e9 w5 ⟨rfl, k⟩
    have Beln := hide (below_kept Bel.out k (by omega))
    have WAn := hide (WA.out.kept k (by omega))
    have O3n := hide (O3.out.kept k (by omega))
    have VAn := hide (VA.out.kept k (by omega))
    clear Bel WA O3 VA
    have Bel := Beln
    have WA := WAn
    have O3 := O3n
    have VA := VAn
    clear Beln WAn O3n VAn
    have nw5 := k.size
    clear k
    have p0 := WA.out.all
    have p1 := VA.out.all
    go_upto_region 10 with fail
    go_cut [39, 40, 41, 42, 43] (fun _ _ _ _ t wx => t = .bool false ∧ Kept 0 0 w5 wx)
    case first =>
      go_region_with (first | (go_at_call 9; refine (toCpu _ d a b e q ca cb ce cq (HX.out.below Bel.out.drew).1 (HY.out.below Bel.out.drew).1 (HZ.out.below Bel.out.drew).1 (HQ.out.below Bel.out.drew).1 bx by_ bz HLL.out bm).mono ?_; rintro e9 w7 ⟨g9, g10, g11, g12, rfl, hs9, kd⟩; have k := undrewK kd; have VN := hide (VA.out.kept0 k); have u := VN.out.all; have P3 := hide (O3.out.kept k (by omega)); have P5 := hide hs9; have K7 := hide k; clear k kd hs9) | (go_at_call 11; refine (eqCpu _ d _ _ _ _ _ _ _ _ _ _ _ _ _ _ _ _ P3.out.d.row P3.out.a'.row P3.out.b'.row P3.out.l.row P5.out.d.row P5.out.a'.row P5.out.b'.row P5.out.l.row bx by_ bz HLL.out bm).mono ?_; rintro e9 w8 ⟨rfl, k⟩; have K8 := hide (K7.out.trans k); clear k))
      all_goals
        go_wp2_with fail
        go_meet
        case rel => exact ⟨rfl, K8.out⟩
    case rest =>
      clear p0 p1
      rename_i wx
      obtain ⟨rfl, k⟩ := hcut
      have Beln := hide (below_kept Bel.out k (by omega))
      have WAn := hide (WA.out.kept k (by omega))
      have O3n := hide (O3.out.kept k (by omega))
      have VAn := hide (VA.out.kept k (by omega))
      clear Bel WA O3 VA
      have Bel := Beln
      have WA := WAn
      have O3 := O3n
      have VA := VAn
      clear Beln WAn O3n VAn
      have nwx := k.size
      clear k
      go_wp2_with fail
      go_ret
      exact ⟨rfl, Bel.out⟩
end Go.Proofs.Ytmkcbgnldnefmaa

namespace Go.Proofs.Ytmkcbgnldnefmaa
open Go.RowKit Go.WideShapes Go.ChangeShapes Go.ChangeAt
set_option linter.unusedVariables false
set_option linter.unusedSimpArgs false

theorem Try.cellsInt : Try.prog.cellsOf 3 = 1 := by kernel_rfl
theorem Try.cellsAcc : Try.prog.cellsOf 96 = 5 := by kernel_rfl
theorem Try.cellsBus : Try.prog.cellsOf 27 = 2 := by kernel_rfl
theorem Try.cellsBool : Try.prog.cellsOf 4 = 1 := by kernel_rfl
theorem Try.cellsInts : Try.prog.cellsOf 22 = 1 := by kernel_rfl
theorem Try.cellsAccs : Try.prog.cellsOf 25 = 1 := by kernel_rfl
theorem Try.cellsRegs : Try.prog.cellsOf 24 = 8 := by kernel_rfl
theorem Try.cellsCpu : Try.prog.cellsOf 29 = 12 := by kernel_rfl


/-- from numbers at each place to the row of them -/
theorem Addr.add_add_own (a : Addr) (i j : Nat) : (a.add i).add j = a.add (i + j) := by
  unfold Addr.add
  by_cases hi : i = 0 <;> by_cases hj : j = 0 <;> simp [hi, hj, Nat.add_assoc]
set_option maxRecDepth 100000 in
theorem came_of {w : World} {x : Addr} {n : Nat} (h : ∀ i, i < n → ∃ z : Int, w.cell? (x.add i) = some (iv z) ∧ (Lit.int .i64 z).wf = true) : ∃ xs : List Int, xs.length = n ∧ Came w (some x) xs := by
  obtain ⟨f, hf⟩ := Go.Deep.choose_lt h
  refine ⟨(List.range n).map f, by simp, ?_, ?_⟩
  · intro i hi
    have hi' : i < n := by simpa using hi
    obtain ⟨g, off, spot⟩ := x
    have hspot : spot = none := by simpa [Addr.add] using World.cell?_spot (hf 0 (by omega)).1
    subst hspot
    refine ⟨g, off, rfl, ?_⟩
    have hc := (hf i hi').1
    by_cases h0 : i = 0
    · subst h0; simpa [Addr.add, hi'] using hc
    · simpa [Addr.add, h0, hi'] using hc
  · intro i hi
    have hi' : i < n := by simpa using hi
    have := bounds_i64 (hf i hi').2
    simpa [hi'] using this

section
variable {H : Type} {enc : TypeId × Value → H} {w : World} {base : Nat} {spare : Nat → Bool} {held : Bool}

set_option maxRecDepth 100000 in
theorem open_intRow {fuel : Nat} {v : Value} {y : DataW H × List MemPlace} (h : DataW.trod enc Try.prog w base spare held fuel 22 [v] = some y) :
    ∃ (a : Option Addr) (cap : Nat) (xs : List Int), v = .slice a xs.length cap ∧ Came w a xs ∧ xs.length ≤ maxLen := by
  rcases open_ints Try.underlying22 Try.underlying3 Try.cellsInt h with ⟨hc, _⟩ | ⟨x, len, cap, zs, hc, _, hl, hm, hz, _, hcell, hwz⟩
  · simp at hc
    exact ⟨none, 0, [], hc, ⟨fun i hi => absurd hi (Nat.not_lt_zero i), fun i hi => absurd hi (Nat.not_lt_zero i)⟩, Nat.zero_le _⟩
  · simp at hc
    have hlen : len ≤ zs.length := by rw [hz]; split <;> omega
    obtain ⟨xs, rfl, hx⟩ := came_of (w := w) (x := x) (n := len) (fun i hi => ⟨zs.getD i 0, hcell i (by omega), hwz _ (by
      have : i < zs.length := by omega
      simp [List.getD, this])⟩)
    exact ⟨some x, cap, xs, hc, hx, by omega⟩

set_option maxRecDepth 100000 in
theorem open_accRow {fuel : Nat} {v : Value} {y : DataW H × List MemPlace} (h : DataW.trod enc Try.prog w base spare held fuel 25 [v] = some y) :
    ∃ (a : Option Addr) (m cap : Nat) (ys : List Int), v = .slice a m cap ∧ Came w a ys ∧ ys.length = 5 * m ∧ m ≤ maxLen := by
  rcases Go.Deep.open_slice Try.underlying25 h with ⟨hc, _⟩ | ⟨x, len, cap, m, n, D, Pl, hc, _, hl, hm, hmm, _, hel⟩
  · simp at hc
    exact ⟨none, 0, 0, [], hc, ⟨fun i hi => absurd hi (Nat.not_lt_zero i), fun i hi => absurd hi (Nat.not_lt_zero i)⟩, rfl, Nat.zero_le _⟩
  · simp at hc
    have hlen : len ≤ m := by rw [hmm]; split <;> omega
    obtain ⟨ys, hy, hx⟩ := came_of (w := w) (x := x) (n := 5 * len) (by
      intro i hi
      obtain ⟨cs', h1, h2⟩ := hel (i / 5) (by omega)
      rw [Try.cellsAcc] at h1
      obtain ⟨_, hl5, hcs⟩ := World.cells?_some h1
      obtain ⟨zs, k, _, _, _, hzl, hf⟩ := DataW.trod_struct Try.underlying96 h2
      have hget := hcs (i % 5) (by omega)
      rw [Addr.add_add_own, show i / 5 * 5 + i % 5 = i from by omega] at hget
      rw [hget]
      obtain ⟨c0, c1, c2, c3, c4, rfl⟩ : ∃ c0 c1 c2 c3 c4, cs' = [c0, c1, c2, c3, c4] := by
        match cs', hl5 with
        | [c0, c1, c2, c3, c4], _ => exact ⟨c0, c1, c2, c3, c4, rfl⟩
      obtain ⟨z0, z1, z2, z3, z4, rfl⟩ : ∃ z0 z1 z2 z3 z4, zs = [z0, z1, z2, z3, z4] := by
        match zs, hzl with
        | [z0, z1, z2, z3, z4], _ => exact ⟨z0, z1, z2, z3, z4, rfl⟩
      have t0 := hf 0 _ rfl
      have t1 := hf 1 _ rfl
      have t2 := hf 2 _ rfl
      have t3 := hf 3 _ rfl
      have t4 := hf 4 _ rfl
      simp [Try.cellsInt] at t0 t1 t2 t3 t4
      obtain ⟨n0, e0, _, b0⟩ := DataW.trod_int Try.underlying3 t0
      obtain ⟨n1, e1, _, b1⟩ := DataW.trod_int Try.underlying3 t1
      obtain ⟨n2, e2, _, b2⟩ := DataW.trod_int Try.underlying3 t2
      obtain ⟨n3, e3, _, b3⟩ := DataW.trod_int Try.underlying3 t3
      obtain ⟨n4, e4, _, b4⟩ := DataW.trod_int Try.underlying3 t4
      simp at e0 e1 e2 e3 e4
      subst e0 e1 e2 e3 e4
      obtain h | h | h | h | h : i % 5 = 0 ∨ i % 5 = 1 ∨ i % 5 = 2 ∨ i % 5 = 3 ∨ i % 5 = 4 := by omega
      all_goals rw [h]
      · exact ⟨n0, rfl, b0⟩
      · exact ⟨n1, rfl, b1⟩
      · exact ⟨n2, rfl, b2⟩
      · exact ⟨n3, rfl, b3⟩
      · exact ⟨n4, rfl, b4⟩)
    exact ⟨some x, len, cap, ys, hc, hx, hy, by omega⟩

set_option maxRecDepth 100000 in
theorem open_Cpu {r : Reach} {b0 : Nat} {v : Value} {d : DataW H} {p : List MemPlace} (hv : Value.okWide Try.prog w r b0 29 v) (h : DataW.Trod enc Try.prog w base spare held 29 v d p) :
    ∃ (a0 : Option Addr) (c0 : Nat) (x0 : List Int) (a1 : Option Addr) (c1 : Nat) (x1 : List Int) (i2 i3 i4 i5 : Int) (i6 i7 : Bool) (a8 : Option Addr) (c8 : Nat) (x8 : List Int) (a9 : Option Addr) (m9 c9 : Nat) (x9 : List Int) (i10 i11 : Bool), v = .agg #[.slice a0 x0.length c0, .slice a1 x1.length c1, iv i2, iv i3, iv i4, iv i5, .bool i6, .bool i7, .slice a8 x8.length c8, .slice a9 m9 c9, .bool i10, .bool i11] ∧ (Came w a0 x0 ∧ x0.length ≤ maxLen) ∧ (Came w a1 x1 ∧ x1.length ≤ maxLen) ∧ (Lit.int .i64 i2).wf = true ∧ (Lit.int .i64 i3).wf = true ∧ (Lit.int .i64 i4).wf = true ∧ (Lit.int .i64 i5).wf = true ∧ (Came w a8 x8 ∧ x8.length ≤ maxLen) ∧ (Came w a9 x9 ∧ x9.length = 5 * m9 ∧ m9 ≤ maxLen) := by
  obtain ⟨cs, rfl, hsz⟩ := okWide_struct Try.underlying29 hv
  rw [Try.cellsCpu] at hsz
  obtain ⟨cl⟩ := cs
  obtain ⟨c_0, c_1, c_2, c_3, c_4, c_5, c_6, c_7, c_8, c_9, c_10, c_11, rfl⟩ : ∃ c_0 c_1 c_2 c_3 c_4 c_5 c_6 c_7 c_8 c_9 c_10 c_11, cl = [c_0, c_1, c_2, c_3, c_4, c_5, c_6, c_7, c_8, c_9, c_10, c_11] := by
    match cl, hsz with
    | [c_0, c_1, c_2, c_3, c_4, c_5, c_6, c_7, c_8, c_9, c_10, c_11], _ => exact ⟨c_0, c_1, c_2, c_3, c_4, c_5, c_6, c_7, c_8, c_9, c_10, c_11, rfl⟩
  obtain ⟨fuel, hf0⟩ := h
  obtain ⟨zs, k, _, _, _, hzl, hf⟩ := DataW.trod_struct Try.underlying29 hf0
  obtain ⟨y_0, y_1, y_2, y_3, rfl⟩ : ∃ y_0 y_1 y_2 y_3, zs = [y_0, y_1, y_2, y_3] := by
    match zs, hzl with
    | [y_0, y_1, y_2, y_3], _ => exact ⟨y_0, y_1, y_2, y_3, rfl⟩
  have s0 := hf 0 _ rfl
  have s1 := hf 1 _ rfl
  have s2 := hf 2 _ rfl
  have s3 := hf 3 _ rfl
  simp [Value.cells, Try.cellsRegs, Try.cellsBus, Try.cellsBool] at s0 s1 s2 s3
  obtain ⟨zs, k2, _, _, _, hzl, hr⟩ := DataW.trod_struct Try.underlying24 s0
  obtain ⟨z_0, z_1, z_2, z_3, z_4, z_5, z_6, z_7, rfl⟩ : ∃ z_0 z_1 z_2 z_3 z_4 z_5 z_6 z_7, zs = [z_0, z_1, z_2, z_3, z_4, z_5, z_6, z_7] := by
    match zs, hzl with
    | [z_0, z_1, z_2, z_3, z_4, z_5, z_6, z_7], _ => exact ⟨z_0, z_1, z_2, z_3, z_4, z_5, z_6, z_7, rfl⟩
  have t0 := hr 0 _ rfl
  have t1 := hr 1 _ rfl
  have t2 := hr 2 _ rfl
  have t3 := hr 3 _ rfl
  have t4 := hr 4 _ rfl
  have t5 := hr 5 _ rfl
  have t6 := hr 6 _ rfl
  have t7 := hr 7 _ rfl
  simp [Value.cells, Try.cellsInt, Try.cellsBool, Try.cellsInts] at t0 t1 t2 t3 t4 t5 t6 t7
  obtain ⟨zs, k3, _, _, _, hzl, hb⟩ := DataW.trod_struct Try.underlying27 s1
  obtain ⟨x_0, x_1, rfl⟩ : ∃ x_0 x_1, zs = [x_0, x_1] := by
    match zs, hzl with
    | [x_0, x_1], _ => exact ⟨x_0, x_1, rfl⟩
  have t8 := hb 0 _ rfl
  have t9 := hb 1 _ rfl
  simp [Value.cells, Try.cellsInts, Try.cellsAccs] at t8 t9
  obtain ⟨a0, c0, x0, q0, hx0, lx0⟩ := open_intRow t0
  obtain ⟨a1, c1, x1, q1, hx1, lx1⟩ := open_intRow t1
  obtain ⟨i2, q2, _, wf2⟩ := DataW.trod_int Try.underlying3 t2
  obtain ⟨i3, q3, _, wf3⟩ := DataW.trod_int Try.underlying3 t3
  obtain ⟨i4, q4, _, wf4⟩ := DataW.trod_int Try.underlying3 t4
  obtain ⟨i5, q5, _, wf5⟩ := DataW.trod_int Try.underlying3 t5
  obtain ⟨i6, q6, _⟩ := DataW.trod_bool Try.underlying4 t6
  obtain ⟨i7, q7, _⟩ := DataW.trod_bool Try.underlying4 t7
  obtain ⟨a8, c8, x8, q8, hx8, lx8⟩ := open_intRow t8
  obtain ⟨a9, m9, c9, x9, q9, hx9, ly9, lm9⟩ := open_accRow t9
  obtain ⟨i10, q10, _⟩ := DataW.trod_bool Try.underlying4 s2
  obtain ⟨i11, q11, _⟩ := DataW.trod_bool Try.underlying4 s3
  simp at q0 q1 q2 q3 q4 q5 q6 q7 q8 q9 q10 q11
  subst q0 q1 q2 q3 q4 q5 q6 q7 q8 q9 q10 q11
  exact ⟨a0, c0, x0, a1, c1, x1, i2, i3, i4, i5, i6, i7, a8, c8, x8, a9, m9, c9, x9, i10, i11, rfl, ⟨hx0, lx0⟩, ⟨hx1, lx1⟩, wf2, wf3, wf4, wf5, ⟨hx8, lx8⟩, ⟨hx9, ly9, lm9⟩⟩
end
end Go.Proofs.Ytmkcbgnldnefmaa

