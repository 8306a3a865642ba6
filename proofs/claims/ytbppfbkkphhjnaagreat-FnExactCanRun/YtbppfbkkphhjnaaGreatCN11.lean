/- What the models of chapter 6 answer that make nothing: tests of registers and operands, the status. What the model's test of bytes answers. What the models of chapter 4 that only look answer, for every argument. What the models of PeekWord and SameMemory answer, for every argument. What an access does to a bus, in numbers: plain arithmetic; no Go text is spoken of here. Bits moved one place at a time, so often, and back; how many are 1; the other way round: plain arithmetic; no Go text is spoken of here. A step of a processor in numbers: plain arithmetic; no Go text is spoken of here. What the model's GoodCpu answers, for every processor. Registers whose numbers are ints. What the program's small functions of chapter 6 answer: tests of numbers and registers; no old block is changed. What the program's GoodRegs answers, for all registers. What the program's tests of bytes answer; none changes the world. What the program's GoodBus answers, for every bus. What the program's GoodCpu answers, for every processor. The program's registers as one value (fourteen cells): how they are laid out and read. Which blocks a call may have written: all but those of a kind are as they were. A step on its way, as it lies in memory: the block of the model's own struct, the registers' lists, the bytes and the log. -/
import Derived.Test.YtbppfbkkphhjnaaGreatCN1
import Derived.Test.YtbppfbkkphhjnaaGreatCN4
import Derived.BigQuiet
import Derived.Deep.QuietTactic
import Derived.Test.YtbppfbkkphhjnaaGreatCN9
import Derived.Deep.AppendLies
import Derived.Test.YtbppfbkkphhjnaaGreatCN5
import Derived.Laws.CopyOwn
import Derived.Laws.Rows
import Derived.Laws.Tables
import Derived.Deep.RegionWith
import Derived.BigRegion
import Derived.Deep.DeepCutAuto
import Derived.Maps.AppendAt
import Derived.Laws.AppendOwnNone
import Derived.Deep.RegionLawGrows
namespace Go.Proofs.YtbppfbkkphhjnaaGreat
open Go.RowKit
set_option linter.unusedVariables false

theorem specFlags (n : Int) (w : World) : Calls Tryz.prog 125 #[iv n] w fun e w' => e = .returned (.bool (Pl.within n 0 31)) ∧ w' = w := by
  go_enter Tryz.func125, Tryz.ntmps125
  go_wp2_with (go_at_call 33; refine (l1In _ _ _ _).mono ?_; rintro e w' ⟨rfl, hw⟩; have hw2 := hw.symm; clear hw; subst hw2)
  go_ret
  exact ⟨rfl, rfl⟩
theorem specFour (w : World) (a : Option Addr) (ca : Nat) (xs : List Int) (ha : IRow w a xs) (lx : xs.length ≤ 2000000) :
    Calls Tryz.prog 123 #[.slice a xs.length ca] w fun e w' => e = .returned (.bool (Pl.fourOk xs)) ∧ w' = w := by
  have HA := hide ha
  clear ha
  go_enter Tryz.func123, Tryz.ntmps123
  go_wp2
  go_loop [4, 7] (fun _ j => ∃ k : Nat, k ≤ xs.length ∧ j = iv k ∧ ∀ i, i < k → Pl.wordOk (el xs i) = true) (fun _ j => xs.length - (intOf j).toNat)
  case atStart => exact ⟨0, Nat.zero_le _, rfl, fun i hi => absurd hi (Nat.not_lt_zero i)⟩
  case round =>
    obtain ⟨k, hk, rfl, heq⟩ := hrel
    have HE := hide heq
    clear heq
    by_cases hlt : k < xs.length
    · obtain ⟨g1, o1, rfl, hc1⟩ := HA.out k hlt
      rw [show xs[k]?.getD 0 = el xs k from rfl] at hc1
      cases hb : Pl.wordOk (el xs k)
      · go_wp2_with (go_at_call 124; refine (specWord _ _).mono ?_; rintro e w' ⟨rfl, rfl⟩; rw [hb])
        go_ret
        exact ⟨rB (Pl.all_no hlt hb).symm, rfl⟩
      · go_wp2_with (go_at_call 124; refine (specWord _ _).mono ?_; rintro e w' ⟨rfl, rfl⟩; rw [hb])
        go_round
        case rel => exact ⟨k + 1, by omega, by go_num, snoc_all HE.out hb⟩
        case measure => simp [intOf]; omega
    · have E : Hid (Pl.fourOk xs = decide ((xs.length : Int) = 4)) := hide (Pl.all_of (fun i hi => HE.out i (by omega)))
      cases h4 : ((xs.length : Int) == 4)
      all_goals
        go_wp2
        go_ret
        exact ⟨rB (by rw [E.out]; simp at h4; simp [h4]), rfl⟩
set_option maxHeartbeats 4000000 in
theorem specGoodRegs (w : World) (r : Pl.Rg) (a b : Option Addr) (ca cb : Nat) (ha : IRow w a r.xs) (hb : IRow w b r.ys) (lx : r.xs.length ≤ 2000000) (ly : r.ys.length ≤ 2000000) :
    Calls Tryz.prog 90 #[.agg #[.slice a r.xs.length ca, .slice b r.ys.length cb, iv r.o, iv r.p, iv r.f, iv r.m, .bool r.s, .bool r.t]] w fun e w' => e = .returned (.bool (Pl.rgOk r)) ∧ Kept 0 0 w w' := by
  have HA := hide ha
  have HB := hide hb
  have HK := hide (kept_alloc w (.cells #[.slice a r.xs.length ca, .slice b r.ys.length cb, iv r.o, iv r.p, iv r.f, iv r.m, .bool r.s, .bool r.t] 60))
  clear ha hb
  have G : Hid (Pl.rgOk r = (Pl.fourOk r.xs && (Pl.fourOk r.ys && (Pl.wordOk r.o && (Pl.wordOk r.p && (Pl.within r.f 0 31 && Pl.within r.m 0 7)))))) := hide rfl
  cases h1 : Pl.fourOk r.xs
  · go_enter Tryz.func90, Tryz.ntmps90
    go_wp2_with (first | (go_at_call 123; refine (specFour _ a ca r.xs (HA.out.keptS HK.out) lx).mono ?_; rintro e w' ⟨rfl, hw⟩; have hw2 := hw.symm; clear hw; subst hw2; rw [h1]; have Z1 : True := trivial))
    go_ret
    exact ⟨rB (by rw [G.out, h1]; simp), HK.out⟩
  · cases h2 : Pl.fourOk r.ys
    · go_enter Tryz.func90, Tryz.ntmps90
      go_wp2_with (first | (go_at_call 123; have z := Z1; refine (specFour _ b cb r.ys (HB.out.keptS HK.out) ly).mono ?_; rintro e w' ⟨rfl, hw⟩; have hw2 := hw.symm; clear hw; subst hw2; rw [h2]) | (go_at_call 123; refine (specFour _ a ca r.xs (HA.out.keptS HK.out) lx).mono ?_; rintro e w' ⟨rfl, hw⟩; have hw2 := hw.symm; clear hw; subst hw2; rw [h1]; have Z1 : True := trivial))
      go_ret
      exact ⟨rB (by rw [G.out, h1, h2]; simp), HK.out⟩
    · cases h3 : Pl.wordOk r.o
      · go_enter Tryz.func90, Tryz.ntmps90
        go_wp2_with (first | (go_at_call 123; have z := Z1; refine (specFour _ b cb r.ys (HB.out.keptS HK.out) ly).mono ?_; rintro e w' ⟨rfl, hw⟩; have hw2 := hw.symm; clear hw; subst hw2; rw [h2]) | (go_at_call 123; refine (specFour _ a ca r.xs (HA.out.keptS HK.out) lx).mono ?_; rintro e w' ⟨rfl, hw⟩; have hw2 := hw.symm; clear hw; subst hw2; rw [h1]; have Z1 : True := trivial) | (go_at_call 124; refine (specWord r.o _).mono ?_; rintro e w' ⟨rfl, hw⟩; have hw2 := hw.symm; clear hw; subst hw2; rw [h3]; have Z3 : True := trivial))
        go_ret
        exact ⟨rB (by rw [G.out, h1, h2, h3]; simp), HK.out⟩
      · cases h4 : Pl.wordOk r.p
        · go_enter Tryz.func90, Tryz.ntmps90
          go_wp2_with (first | (go_at_call 123; have z := Z1; refine (specFour _ b cb r.ys (HB.out.keptS HK.out) ly).mono ?_; rintro e w' ⟨rfl, hw⟩; have hw2 := hw.symm; clear hw; subst hw2; rw [h2]) | (go_at_call 123; refine (specFour _ a ca r.xs (HA.out.keptS HK.out) lx).mono ?_; rintro e w' ⟨rfl, hw⟩; have hw2 := hw.symm; clear hw; subst hw2; rw [h1]; have Z1 : True := trivial) | (go_at_call 124; have z := Z3; refine (specWord r.p _).mono ?_; rintro e w' ⟨rfl, hw⟩; have hw2 := hw.symm; clear hw; subst hw2; rw [h4]) | (go_at_call 124; refine (specWord r.o _).mono ?_; rintro e w' ⟨rfl, hw⟩; have hw2 := hw.symm; clear hw; subst hw2; rw [h3]; have Z3 : True := trivial))
          go_ret
          exact ⟨rB (by rw [G.out, h1, h2, h3, h4]; simp), HK.out⟩
        · cases h5 : Pl.within r.f 0 31
          · go_enter Tryz.func90, Tryz.ntmps90
            go_wp2_with (first | (go_at_call 123; have z := Z1; refine (specFour _ b cb r.ys (HB.out.keptS HK.out) ly).mono ?_; rintro e w' ⟨rfl, hw⟩; have hw2 := hw.symm; clear hw; subst hw2; rw [h2]) | (go_at_call 123; refine (specFour _ a ca r.xs (HA.out.keptS HK.out) lx).mono ?_; rintro e w' ⟨rfl, hw⟩; have hw2 := hw.symm; clear hw; subst hw2; rw [h1]; have Z1 : True := trivial) | (go_at_call 124; have z := Z3; refine (specWord r.p _).mono ?_; rintro e w' ⟨rfl, hw⟩; have hw2 := hw.symm; clear hw; subst hw2; rw [h4]) | (go_at_call 124; refine (specWord r.o _).mono ?_; rintro e w' ⟨rfl, hw⟩; have hw2 := hw.symm; clear hw; subst hw2; rw [h3]; have Z3 : True := trivial) | (go_at_call 125; refine (specFlags _ _).mono ?_; rintro e w' ⟨rfl, hw⟩; have hw2 := hw.symm; clear hw; subst hw2; rw [h5]))
            go_ret
            exact ⟨rB (by rw [G.out, h1, h2, h3, h4, h5]; simp), HK.out⟩
          · cases h6 : Pl.within r.m 0 7
            · go_enter Tryz.func90, Tryz.ntmps90
              go_wp2_with (first | (go_at_call 123; have z := Z1; refine (specFour _ b cb r.ys (HB.out.keptS HK.out) ly).mono ?_; rintro e w' ⟨rfl, hw⟩; have hw2 := hw.symm; clear hw; subst hw2; rw [h2]) | (go_at_call 123; refine (specFour _ a ca r.xs (HA.out.keptS HK.out) lx).mono ?_; rintro e w' ⟨rfl, hw⟩; have hw2 := hw.symm; clear hw; subst hw2; rw [h1]; have Z1 : True := trivial) | (go_at_call 124; have z := Z3; refine (specWord r.p _).mono ?_; rintro e w' ⟨rfl, hw⟩; have hw2 := hw.symm; clear hw; subst hw2; rw [h4]) | (go_at_call 124; refine (specWord r.o _).mono ?_; rintro e w' ⟨rfl, hw⟩; have hw2 := hw.symm; clear hw; subst hw2; rw [h3]; have Z3 : True := trivial) | (go_at_call 125; refine (specFlags _ _).mono ?_; rintro e w' ⟨rfl, hw⟩; have hw2 := hw.symm; clear hw; subst hw2; rw [h5]) | (go_at_call 33; refine (l1In _ _ _ _).mono ?_; rintro e w' ⟨rfl, hw⟩; have hw2 := hw.symm; clear hw; subst hw2; rw [show (decide (0 ≤ r.m) && decide (r.m ≤ 7)) = Pl.within r.m 0 7 from rfl, h6]))
              go_ret
              exact ⟨rB (by rw [G.out, h1, h2, h3, h4, h5, h6]; simp), HK.out⟩
            · go_enter Tryz.func90, Tryz.ntmps90
              go_wp2_with (first | (go_at_call 123; have z := Z1; refine (specFour _ b cb r.ys (HB.out.keptS HK.out) ly).mono ?_; rintro e w' ⟨rfl, hw⟩; have hw2 := hw.symm; clear hw; subst hw2; rw [h2]) | (go_at_call 123; refine (specFour _ a ca r.xs (HA.out.keptS HK.out) lx).mono ?_; rintro e w' ⟨rfl, hw⟩; have hw2 := hw.symm; clear hw; subst hw2; rw [h1]; have Z1 : True := trivial) | (go_at_call 124; have z := Z3; refine (specWord r.p _).mono ?_; rintro e w' ⟨rfl, hw⟩; have hw2 := hw.symm; clear hw; subst hw2; rw [h4]) | (go_at_call 124; refine (specWord r.o _).mono ?_; rintro e w' ⟨rfl, hw⟩; have hw2 := hw.symm; clear hw; subst hw2; rw [h3]; have Z3 : True := trivial) | (go_at_call 125; refine (specFlags _ _).mono ?_; rintro e w' ⟨rfl, hw⟩; have hw2 := hw.symm; clear hw; subst hw2; rw [h5]) | (go_at_call 33; refine (l1In _ _ _ _).mono ?_; rintro e w' ⟨rfl, hw⟩; have hw2 := hw.symm; clear hw; subst hw2; rw [show (decide (0 ≤ r.m) && decide (r.m ≤ 7)) = Pl.within r.m 0 7 from rfl, h6]))
              go_ret
              exact ⟨rB (by rw [G.out, h1, h2, h3, h4, h5, h6]; simp), HK.out⟩
end Go.Proofs.YtbppfbkkphhjnaaGreat

namespace Go.Proofs.YtbppfbkkphhjnaaGreat
open Go.RowKit
set_option linter.unusedVariables false

theorem l4Bytes (w : World) (a : Option Addr) (ca : Nat) (xs : List Int) (ha : IRow w a xs) (lx : xs.length ≤ 2000000) :
    Calls Tryz.prog 64 #[.slice a xs.length ca] w fun e w' => e = .returned (.bool (Pl.bytesOk xs)) ∧ w' = w := by
  have HA := hide ha
  clear ha
  go_enter Tryz.func64, Tryz.ntmps64
  go_wp2
  go_loop [4, 7] (fun _ j => ∃ k : Nat, k ≤ xs.length ∧ j = iv k ∧ ∀ i, i < k → Pl.byteOk (el xs i) = true) (fun _ j => xs.length - (intOf j).toNat)
  case atStart => exact ⟨0, Nat.zero_le _, rfl, fun i hi => absurd hi (Nat.not_lt_zero i)⟩
  case round =>
    obtain ⟨k, hk, rfl, heq⟩ := hrel
    have HE := hide heq
    clear heq
    by_cases hlt : k < xs.length
    · obtain ⟨g1, o1, rfl, hc1⟩ := HA.out k hlt
      rw [show xs[k]?.getD 0 = el xs k from rfl] at hc1
      cases hb : (decide (0 ≤ el xs k) && decide (el xs k ≤ 255))
      · go_wp2_with (go_at_call 33; refine (l1In _ _ _ _).mono ?_; rintro e w' ⟨rfl, rfl⟩; rw [hb])
        go_ret
        exact ⟨rB (Pl.bytesOk_no hlt hb).symm, rfl⟩
      · go_wp2_with (go_at_call 33; refine (l1In _ _ _ _).mono ?_; rintro e w' ⟨rfl, rfl⟩; rw [hb])
        go_round
        case rel => exact ⟨k + 1, by omega, by go_num, snoc_all HE.out hb⟩
        case measure => simp [intOf]; omega
    · go_wp2
      go_ret
      exact ⟨rB (Pl.bytesOk_of (fun i hi => HE.out i (by omega))).symm, rfl⟩
end Go.Proofs.YtbppfbkkphhjnaaGreat

namespace Go.Proofs.YtbppfbkkphhjnaaGreat
open Go.RowKit
set_option linter.unusedVariables false

theorem l4Addr (a : Int) (w : World) : Calls Tryz.prog 96 #[iv a] w fun e w' => e = .returned (.bool (Pl.addr a)) ∧ w' = w := by
  go_enter Tryz.func96, Tryz.ntmps96
  go_wp2_with fail
  refine (l1In _ _ _ _).mono ?_
  rintro e w' ⟨rfl, rfl⟩
  go_wp2_with fail
  go_ret
  exact ⟨rfl, rfl⟩
theorem l4Access (k s a v c : Int) (w : World) : Calls Tryz.prog 63 #[.agg #[iv k, iv s, iv a, iv v, iv c]] w fun e w' => e = .returned (.bool (Pl.accOk k s a v c)) ∧ ∃ o, w' = w.alloc o := by
  cases h1 : (decide (1 ≤ k) && decide (k ≤ 3))
  · go_enter Tryz.func63, Tryz.ntmps63
    go_wp2_with (first | (go_at_call 33; refine (l1In _ _ _ _).mono ?_; rintro e w' ⟨rfl, rfl⟩; rw [h1]) | (go_at_call 95; refine (l1Value _ _ _).mono ?_; rintro e w' ⟨rfl, rfl⟩) | (go_at_call 96; refine (l4Addr _ _).mono ?_; rintro e w' ⟨rfl, rfl⟩))
    go_ret
    exact ⟨rB (by unfold Pl.accOk Pl.accKind; rw [h1]; simp), _, rfl⟩
  · cases h2 : Pl.okv s v
    · go_enter Tryz.func63, Tryz.ntmps63
      go_wp2_with (first | (go_at_call 33; refine (l1In _ _ _ _).mono ?_; rintro e w' ⟨rfl, rfl⟩; rw [h1]) | (go_at_call 95; refine (l1Value _ _ _).mono ?_; rintro e w' ⟨rfl, rfl⟩; rw [h2]) | (go_at_call 96; refine (l4Addr _ _).mono ?_; rintro e w' ⟨rfl, rfl⟩))
      go_ret
      exact ⟨rB (by unfold Pl.accOk Pl.accKind; rw [h1, h2]; simp), _, rfl⟩
    · cases h3 : Pl.addr a
      · go_enter Tryz.func63, Tryz.ntmps63
        go_wp2_with (first | (go_at_call 33; refine (l1In _ _ _ _).mono ?_; rintro e w' ⟨rfl, rfl⟩; rw [h1]) | (go_at_call 95; refine (l1Value _ _ _).mono ?_; rintro e w' ⟨rfl, rfl⟩; rw [h2]) | (go_at_call 96; refine (l4Addr _ _).mono ?_; rintro e w' ⟨rfl, rfl⟩; rw [h3]))
        go_ret
        exact ⟨rB (by unfold Pl.accOk Pl.accKind; rw [h1, h2, h3]; simp), _, rfl⟩
      · cases h4 : (decide (0 ≤ c) && decide (c ≤ 3))
        · go_enter Tryz.func63, Tryz.ntmps63
          go_wp2_with (first | (go_at_call 33; refine (l1In _ _ _ _).mono ?_; rintro e w' ⟨rfl, rfl⟩; first | rw [h1] | rw [h4]) | (go_at_call 95; refine (l1Value _ _ _).mono ?_; rintro e w' ⟨rfl, rfl⟩; rw [h2]) | (go_at_call 96; refine (l4Addr _ _).mono ?_; rintro e w' ⟨rfl, rfl⟩; rw [h3]))
          go_ret
          exact ⟨rB (by unfold Pl.accOk Pl.accKind; rw [h1, h2, h3, h4]; simp), _, rfl⟩
        · cases h5 : (k != 3)
          · cases h6 : (c != 0)
            all_goals
              go_enter Tryz.func63, Tryz.ntmps63
              go_wp2_with (first | (go_at_call 33; refine (l1In _ _ _ _).mono ?_; rintro e w' ⟨rfl, rfl⟩; first | rw [h1] | rw [h4]) | (go_at_call 95; refine (l1Value _ _ _).mono ?_; rintro e w' ⟨rfl, rfl⟩; rw [h2]) | (go_at_call 96; refine (l4Addr _ _).mono ?_; rintro e w' ⟨rfl, rfl⟩; rw [h3]))
              go_ret
              exact ⟨rB (by unfold Pl.accOk Pl.accKind; rw [h1, h2, h3, h4, h5, h6]; simp), _, rfl⟩
          · go_enter Tryz.func63, Tryz.ntmps63
            go_wp2_with (first | (go_at_call 33; refine (l1In _ _ _ _).mono ?_; rintro e w' ⟨rfl, rfl⟩; first | rw [h1] | rw [h4]) | (go_at_call 95; refine (l1Value _ _ _).mono ?_; rintro e w' ⟨rfl, rfl⟩; rw [h2]) | (go_at_call 96; refine (l4Addr _ _).mono ?_; rintro e w' ⟨rfl, rfl⟩; rw [h3]))
            go_ret
            exact ⟨rB (by unfold Pl.accOk Pl.accKind; rw [h1, h2, h3, h4, h5]; simp), _, rfl⟩

theorem specGoodBus (w : World) (a b : Option Addr) (ca cb m : Nat) (xs ys : List Int) (ha : IRow w a xs) (hb : IRow w b ys) (lx : xs.length ≤ 2000000) (ly : ys.length = 5 * m) (bm : m ≤ 2000000) :
    Calls Tryz.prog 32 #[.agg #[.slice a xs.length ca, .slice b m cb]] w fun e w' => e = .returned (.bool (Pl.goodBus xs ys m)) ∧ Kept 0 0 w w' := by
  have HA := hide ha
  have HB := hide hb
  have HY := hide ly
  clear ha hb ly
  go_enter Tryz.func32, Tryz.ntmps32
  go_wp2
  have HK0 := hide (kept_alloc w (.cells #[.slice a xs.length ca, .slice b m cb] 34))
  have HW := hide (Blk.new w #[.slice a xs.length ca, .slice b m cb] 34)
  obtain ⟨W, hW⟩ : ∃ W : World, W = w.alloc (.cells #[.slice a xs.length ca, .slice b m cb] 34) := ⟨_, rfl⟩
  rw [← hW] at HK0 HW ⊢
  clear hW
  go_loopw [4, 8] (fun _ j wr => ∃ k : Nat, k ≤ m ∧ j = iv k ∧ (∀ i, i < k → Pl.accAt ys i = true) ∧ Kept 0 0 W wr) (fun _ j _ => m - (intOf j).toNat)
  case atStart => exact ⟨0, Nat.zero_le _, rfl, fun i hi => absurd hi (Nat.not_lt_zero i), Kept.refl _ _ _⟩
  case round =>
    obtain ⟨k, hk, rfl, heq, hkept⟩ := hrel
    have HE := hide heq
    have HK := hide hkept
    clear heq hkept
    by_cases hlt : k < m
    · obtain ⟨g1, o1, rfl, p0, p1, p2, p3, p4⟩ := (HB.out.keptS (HK0.out.trans HK.out)).five HY.out hlt
      cases hb : Pl.accAt ys k
      · have hb2 : Pl.accOk (el ys (k * 5)) (el ys (k * 5 + 1)) (el ys (k * 5 + 2)) (el ys (k * 5 + 3)) (el ys (k * 5 + 4)) = false := hb
        clear hb
        go_wp2_with (go_at_call 63; refine (l4Access _ _ _ _ _ _).mono ?_; rintro e w' ⟨rfl, o, rfl⟩; rw [hb2])
        go_ret
        exact ⟨rB (by unfold Pl.goodBus; rw [Pl.accsOk_no hlt hb2]; rfl), HK0.out.trans (kept_new (kept_new HK.out _) _)⟩
      · have hb2 : Pl.accOk (el ys (k * 5)) (el ys (k * 5 + 1)) (el ys (k * 5 + 2)) (el ys (k * 5 + 3)) (el ys (k * 5 + 4)) = true := hb
        clear hb
        go_wp2_with (go_at_call 63; refine (l4Access _ _ _ _ _ _).mono ?_; rintro e w' ⟨rfl, o, rfl⟩; rw [hb2])
        go_roundw
        case rel => exact ⟨k + 1, by omega, by go_num, snoc_all HE.out hb2, kept_new (kept_new HK.out _) _⟩
        case measure => simp [intOf]; omega
    · have HA1 : Hid (Pl.accsOk ys m = true) := hide (Pl.accsOk_of (fun i hi => HE.out i (by omega)))
      have B := HW.out.kept0 HK.out
      have c0 := B.cell (i := 0) rfl
      have c1 := B.cell (i := 1) rfl
      have HX := hide (HA.out.keptS (HK0.out.trans HK.out))
      clear B
      have G : Hid (Pl.goodBus xs ys m = (((xs.length : Int) == 512) && (Pl.bytesOk xs && decide ((m : Int) ≤ 400)))) := hide (by
        unfold Pl.goodBus
        rw [HA1.out, Bool.true_and]
        congr 1
        · rw [Bool.eq_iff_iff]; simp; omega
        · congr 1; rw [Bool.eq_iff_iff]; simp; omega)
      cases h1 : ((xs.length : Int) == 512)
      · go_wp2_with fail
        go_ret
        exact ⟨rB (by rw [G.out, h1]; rfl), HK0.out.trans HK.out⟩
      · cases h2 : Pl.bytesOk xs
        · go_wp2_with fail
          refine (l4Bytes _ a ca xs HX.out lx).mono ?_
          rintro e w' ⟨rfl, rfl⟩
          rw [h2]
          go_wp2_with fail
          go_ret
          exact ⟨rB (by rw [G.out, h1, h2]; rfl), HK0.out.trans HK.out⟩
        · cases h3 : decide ((m : Int) ≤ 400)
          all_goals
            go_wp2_with fail
            refine (l4Bytes _ a ca xs HX.out lx).mono ?_
            rintro e w' ⟨rfl, rfl⟩
            rw [h2]
            go_wp2_with fail
            go_ret
            exact ⟨rB (by rw [G.out, h1, h2, h3]; rfl), HK0.out.trans HK.out⟩
end Go.Proofs.YtbppfbkkphhjnaaGreat

namespace Go.Proofs.YtbppfbkkphhjnaaGreat
open Go.RowKit
set_option linter.unusedVariables false

namespace Pl
theorem goodBus_ok {xs ys : List Int} {m : Nat} (h : goodBus xs ys m = true) : xs.length = 512 ∧ bytesOk xs = true ∧ m ≤ 400 ∧ accsOk ys m = true := by
  simp only [goodBus, Bool.and_eq_true, decide_eq_true_eq] at h
  exact ⟨h.2.1, h.2.2.1, h.2.2.2, h.1⟩
end Pl

end Go.Proofs.YtbppfbkkphhjnaaGreat

namespace Go.Proofs.YtbppfbkkphhjnaaGreat.Pl
set_option linter.unusedVariables false
/-- what lies there, of a size -/
def rd (xs : List Int) (s : Int) (i : Nat) : Int := if s = 1 then el xs i else el xs i * 256 + el xs (i + 1)
/-- the value that the log is told -/
def lv (xs : List Int) (k s a v : Int) : Int := if code k s a = 0 ∧ ¬ k = 2 then rd xs s a.toNat else v
/-- a value laid there, of a size -/
def wr (xs : List Int) (s : Int) (i : Nat) (v : Int) : List Int := if s = 1 then xs.set i v else (xs.set i (v / 256)).set (i + 1) (v % 256)
def nb (xs : List Int) (k s a v : Int) : List Int := if code k s a = 0 ∧ k = 2 then wr xs s a.toNat v else xs
def logs (m : Nat) (k s a : Int) : Bool := decide (m < 400) && ((k != 3) || (code k s a != 0))
def nl (xs ys : List Int) (m : Nat) (k s a v : Int) : List Int := if logs m k s a = true then ys ++ [k, s, a, lv xs k s a v, code k s a] else ys
def nm (m : Nat) (k s a : Int) : Nat := if logs m k s a = true then m + 1 else m
end Go.Proofs.YtbppfbkkphhjnaaGreat.Pl

namespace Go.Proofs.YtbppfbkkphhjnaaGreat.Pl
set_option linter.unusedVariables false

/-- the highest bit -/
def hi (s v : Int) : Int := if top s / 2 ≤ v then 1 else 0
/-- what falls out -/
def fell (k s v : Int) : Int := if k % 2 = 0 then hi s v else v % 2
/-- what comes in -/
def inn (k s x v : Int) : Int := if k = 1 then hi s v else if k = 4 ∨ k = 5 then fell k s v else if 6 ≤ k then x else 0
def nv (k s x v : Int) : Int := if k % 2 = 0 then v * 2 % top s + inn k s x v else v / 2 + inn k s x v * (top s / 2)
def nx (k s x v : Int) : Int := if k = 4 ∨ k = 5 then x else fell k s v
/-- a value and the kept bit, one place on -/
def stp (k s : Int) (p : Int × Int) : Int × Int := (nv k s p.2 p.1, nx k s p.2 p.1)
def st (k s : Int) (p : Int × Int) : Nat → Int × Int
  | 0 => p
  | n + 1 => stp k s (st k s p n)
/-! ### what a call answers -/
end Go.Proofs.YtbppfbkkphhjnaaGreat.Pl

namespace Go.Proofs.YtbppfbkkphhjnaaGreat.Pl
set_option linter.unusedVariables false

/-- a processor -/
structure Cp where
  r : Rg
  bx : List Int
  bl : List Int
  bm : Nat
  st : Bool
  ha : Bool
/-- a fault -/
structure Ft where
  v : Int
  pc : Int
  ad : Int
  wo : Int
  wr : Bool
/-- a step on its way -/
structure Mc where
  r : Rg
  bx : List Int
  bl : List Int
  bm : Nat
  st : Bool
  f : Ft
def ftNo : Ft := ⟨0, 0, 0, 0, false⟩
def cpOk (c : Cp) : Bool := rgOk c.r && (goodBus c.bx c.bl c.bm && !(c.st && c.ha))
namespace Mc
def fine (c : Mc) : Bool := c.f.v == 0
def ofC (c : Cp) : Mc := ⟨c.r, c.bx, c.bl, c.bm, c.st, ftNo⟩
def accF (f : Ft) (k s a : Int) : Ft := bif (code k s a != 0) && (f.v == 0) then { f with v := bif code k s a == 2 then 3 else 2, ad := a, wr := k == 2 } else f
def acc (c : Mc) (k s a v : Int) : Mc := { c with bx := nb c.bx k s a v, bl := nl c.bx c.bl c.bm k s a v, bm := nm c.bm k s a, f := accF c.f k s a }
def accV (c : Mc) (k s a v : Int) : Int := lv c.bx k s a v
def setR (c : Mc) (r : Rg) : Mc := { c with r := r }
/- the instruction at PC -/
def fe0 (c : Mc) : Mc := { c with f := { c.f with pc := c.r.p } }
def fe1 (c : Mc) : Mc := c.fe0.acc 3 2 c.r.p 0
def feW (c : Mc) : Int := c.fe0.accV 3 2 c.r.p 0
def fe2 (c : Mc) : Mc := { c.fe1 with f := { c.fe1.f with wo := c.feW } }
def feA (c : Mc) : Int := (c.r.p + 2) % 65536
def fe3 (c : Mc) : Mc := bif longW c.feW == 2 then c.fe2.acc 3 2 c.feA 0 else c.fe2
def feN (c : Mc) : Int := bif longW c.feW == 2 then c.fe2.accV 3 2 c.feA 0 else 0
def feX (c : Mc) : In := decode c.feW c.feN
def fe4 (c : Mc) : Mc := { c.fe3 with f := { c.fe3.f with v := 4 } }
def fetch (c : Mc) : Mc := bif !c.fe1.fine then c.fe1 else bif !c.fe3.fine then c.fe3 else bif !inOk c.feX then c.fe4 else c.fe3
def fetI (c : Mc) : In := bif c.fe1.fine && (c.fe3.fine && inOk c.feX) then c.feX else inNo
/- operands -/
def put (c : Mc) (z k v : Int) : Mc := c.setR (putR c.r z k v)
def vec (c : Mc) (v : Int) : Mc := { c with f := { c.f with v := v } }
/- a step -/
def s1 (c : Mc) : Mc := bif c.fetch.fine && (priv c.fetI && !c.fetch.r.s) then c.fetch.vec 8 else c.fetch
end Mc
end Go.Proofs.YtbppfbkkphhjnaaGreat.Pl
namespace Go.Proofs.YtbppfbkkphhjnaaGreat
abbrev cpA (c : Pl.Cp) (a b e q : Option Addr) (ca cb ce cq : Nat) : Array Value := #[.slice a c.r.xs.length ca, .slice b c.r.ys.length cb, iv c.r.o, iv c.r.p, iv c.r.f, iv c.r.m, .bool c.r.s, .bool c.r.t, .slice e c.bx.length ce, .slice q c.bm cq, .bool c.st, .bool c.ha]
end Go.Proofs.YtbppfbkkphhjnaaGreat

namespace Go.Proofs.YtbppfbkkphhjnaaGreat
open Go.RowKit
set_option linter.unusedVariables false
theorem specGoodCpu (w : World) (c : Pl.Cp) (a b e q : Option Addr) (ca cb ce cq : Nat) (ha : IRow w a c.r.xs) (hb : IRow w b c.r.ys) (he : IRow w e c.bx) (hq : IRow w q c.bl) (lx : c.r.xs.length ≤ 2000000) (ly : c.r.ys.length ≤ 2000000) (lb : c.bx.length ≤ 2000000) (ll : c.bl.length = 5 * c.bm) (lm : c.bm ≤ 2000000) :
    Calls Tryz.prog 56 #[.agg #[.slice a c.r.xs.length ca, .slice b c.r.ys.length cb, iv c.r.o, iv c.r.p, iv c.r.f, iv c.r.m, .bool c.r.s, .bool c.r.t, .slice e c.bx.length ce, .slice q c.bm cq, .bool c.st, .bool c.ha]] w fun r w' => r = .returned (.bool (Pl.cpOk c)) ∧ Kept 0 0 w w' := by
  have K0 := hide (kept_alloc w (.cells #[.slice a c.r.xs.length ca, .slice b c.r.ys.length cb, iv c.r.o, iv c.r.p, iv c.r.f, iv c.r.m, .bool c.r.s, .bool c.r.t, .slice e c.bx.length ce, .slice q c.bm cq, .bool c.st, .bool c.ha] 62))
  have BA := Blk.new w #[.slice a c.r.xs.length ca, .slice b c.r.ys.length cb, iv c.r.o, iv c.r.p, iv c.r.f, iv c.r.m, .bool c.r.s, .bool c.r.t, .slice e c.bx.length ce, .slice q c.bm cq, .bool c.st, .bool c.ha] 62
  obtain ⟨X, hX⟩ : ∃ X : World, w.alloc (.cells #[.slice a c.r.xs.length ca, .slice b c.r.ys.length cb, iv c.r.o, iv c.r.p, iv c.r.f, iv c.r.m, .bool c.r.s, .bool c.r.t, .slice e c.bx.length ce, .slice q c.bm cq, .bool c.st, .bool c.ha] 62) = X := ⟨_, rfl⟩
  rw [hX] at K0 BA
  have HBA := hide BA
  have HA := hide (ha.keptS K0.out)
  have HB := hide (hb.keptS K0.out)
  have HE := hide (he.keptS K0.out)
  have HQ := hide (hq.keptS K0.out)
  clear BA ha hb he hq
  have i0 := HBA.out.cell (i := 0) rfl
  have i1 := HBA.out.cell (i := 1) rfl
  have i2 := HBA.out.cell (i := 2) rfl
  have i3 := HBA.out.cell (i := 3) rfl
  have i4 := HBA.out.cell (i := 4) rfl
  have i5 := HBA.out.cell (i := 5) rfl
  have i6 := HBA.out.cell (i := 6) rfl
  have i7 := HBA.out.cell (i := 7) rfl
  have i8 := HBA.out.cell (i := 8) rfl
  have i9 := HBA.out.cell (i := 9) rfl
  have i10 := HBA.out.cell (i := 10) rfl
  have i11 := HBA.out.cell (i := 11) rfl
  cases h1 : Pl.rgOk c.r
  · go_enter Tryz.func56, Tryz.ntmps56
    go_wp2_with (first | (go_at_call 90; refine (specGoodRegs _ c.r a b ca cb HA.out HB.out lx ly).mono ?_; rintro e9 W ⟨rfl, k9⟩; rw [h1]; have HK1 := hide k9; have HB1 := hide (HBA.out.kept0 k9); have HE1 := hide (HE.out.keptS k9); have HQ1 := hide (HQ.out.keptS k9); clear k9 i0 i1 i2 i3 i4 i5 i6 i7 i8 i9 i10 i11; have i0 := HB1.out.cell (i := 0) rfl; have i1 := HB1.out.cell (i := 1) rfl; have i2 := HB1.out.cell (i := 2) rfl; have i3 := HB1.out.cell (i := 3) rfl; have i4 := HB1.out.cell (i := 4) rfl; have i5 := HB1.out.cell (i := 5) rfl; have i6 := HB1.out.cell (i := 6) rfl; have i7 := HB1.out.cell (i := 7) rfl; have i8 := HB1.out.cell (i := 8) rfl; have i9 := HB1.out.cell (i := 9) rfl; have i10 := HB1.out.cell (i := 10) rfl; have i11 := HB1.out.cell (i := 11) rfl))
    go_ret
    exact ⟨rB (by unfold Pl.cpOk; simp [h1]), K0.out.trans HK1.out⟩
  · cases h2 : Pl.goodBus c.bx c.bl c.bm
    · go_enter Tryz.func56, Tryz.ntmps56
      go_wp2_with (first | (go_at_call 32; have z9 := HB1; refine (specGoodBus _ e q ce cq c.bm c.bx c.bl HE1.out HQ1.out lb ll lm).mono ?_; rintro e9 W2 ⟨rfl, k9⟩; rw [h2]; have HK2 := hide k9; have HB2 := hide (HB1.out.kept0 k9); clear k9 i0 i1 i2 i3 i4 i5 i6 i7 i8 i9 i10 i11; have i0 := HB2.out.cell (i := 0) rfl; have i1 := HB2.out.cell (i := 1) rfl; have i2 := HB2.out.cell (i := 2) rfl; have i3 := HB2.out.cell (i := 3) rfl; have i4 := HB2.out.cell (i := 4) rfl; have i5 := HB2.out.cell (i := 5) rfl; have i6 := HB2.out.cell (i := 6) rfl; have i7 := HB2.out.cell (i := 7) rfl; have i8 := HB2.out.cell (i := 8) rfl; have i9 := HB2.out.cell (i := 9) rfl; have i10 := HB2.out.cell (i := 10) rfl; have i11 := HB2.out.cell (i := 11) rfl) | (go_at_call 90; refine (specGoodRegs _ c.r a b ca cb HA.out HB.out lx ly).mono ?_; rintro e9 W ⟨rfl, k9⟩; rw [h1]; have HK1 := hide k9; have HB1 := hide (HBA.out.kept0 k9); have HE1 := hide (HE.out.keptS k9); have HQ1 := hide (HQ.out.keptS k9); clear k9 i0 i1 i2 i3 i4 i5 i6 i7 i8 i9 i10 i11; have i0 := HB1.out.cell (i := 0) rfl; have i1 := HB1.out.cell (i := 1) rfl; have i2 := HB1.out.cell (i := 2) rfl; have i3 := HB1.out.cell (i := 3) rfl; have i4 := HB1.out.cell (i := 4) rfl; have i5 := HB1.out.cell (i := 5) rfl; have i6 := HB1.out.cell (i := 6) rfl; have i7 := HB1.out.cell (i := 7) rfl; have i8 := HB1.out.cell (i := 8) rfl; have i9 := HB1.out.cell (i := 9) rfl; have i10 := HB1.out.cell (i := 10) rfl; have i11 := HB1.out.cell (i := 11) rfl))
      go_ret
      exact ⟨rB (by unfold Pl.cpOk; simp [h1, h2]), (K0.out.trans HK1.out).trans HK2.out⟩
    · rcases Bool.eq_false_or_eq_true c.st with h3 | h3
      · have H3 := hide h3
        rw [H3.out] at i10
        clear h3
        go_enter Tryz.func56, Tryz.ntmps56
        go_wp2_with (first | (go_at_call 32; have z9 := HB1; refine (specGoodBus _ e q ce cq c.bm c.bx c.bl HE1.out HQ1.out lb ll lm).mono ?_; rintro e9 W2 ⟨rfl, k9⟩; rw [h2]; have HK2 := hide k9; have HB2 := hide (HB1.out.kept0 k9); clear k9 i0 i1 i2 i3 i4 i5 i6 i7 i8 i9 i10 i11; have i0 := HB2.out.cell (i := 0) rfl; have i1 := HB2.out.cell (i := 1) rfl; have i2 := HB2.out.cell (i := 2) rfl; have i3 := HB2.out.cell (i := 3) rfl; have i4 := HB2.out.cell (i := 4) rfl; have i5 := HB2.out.cell (i := 5) rfl; have i6 := HB2.out.cell (i := 6) rfl; have i7 := HB2.out.cell (i := 7) rfl; have i8 := HB2.out.cell (i := 8) rfl; have i9 := HB2.out.cell (i := 9) rfl; have i10 := HB2.out.cell (i := 10) rfl; have i11 := HB2.out.cell (i := 11) rfl; rw [H3.out] at i10) | (go_at_call 90; refine (specGoodRegs _ c.r a b ca cb HA.out HB.out lx ly).mono ?_; rintro e9 W ⟨rfl, k9⟩; rw [h1]; have HK1 := hide k9; have HB1 := hide (HBA.out.kept0 k9); have HE1 := hide (HE.out.keptS k9); have HQ1 := hide (HQ.out.keptS k9); clear k9 i0 i1 i2 i3 i4 i5 i6 i7 i8 i9 i10 i11; have i0 := HB1.out.cell (i := 0) rfl; have i1 := HB1.out.cell (i := 1) rfl; have i2 := HB1.out.cell (i := 2) rfl; have i3 := HB1.out.cell (i := 3) rfl; have i4 := HB1.out.cell (i := 4) rfl; have i5 := HB1.out.cell (i := 5) rfl; have i6 := HB1.out.cell (i := 6) rfl; have i7 := HB1.out.cell (i := 7) rfl; have i8 := HB1.out.cell (i := 8) rfl; have i9 := HB1.out.cell (i := 9) rfl; have i10 := HB1.out.cell (i := 10) rfl; have i11 := HB1.out.cell (i := 11) rfl; rw [H3.out] at i10))
        go_ret
        exact ⟨rB (by unfold Pl.cpOk; simp [h1, h2, H3.out]), (K0.out.trans HK1.out).trans HK2.out⟩
      · have H3 := hide h3
        rw [H3.out] at i10
        clear h3
        go_enter Tryz.func56, Tryz.ntmps56
        go_wp2_with (first | (go_at_call 32; have z9 := HB1; refine (specGoodBus _ e q ce cq c.bm c.bx c.bl HE1.out HQ1.out lb ll lm).mono ?_; rintro e9 W2 ⟨rfl, k9⟩; rw [h2]; have HK2 := hide k9; have HB2 := hide (HB1.out.kept0 k9); clear k9 i0 i1 i2 i3 i4 i5 i6 i7 i8 i9 i10 i11; have i0 := HB2.out.cell (i := 0) rfl; have i1 := HB2.out.cell (i := 1) rfl; have i2 := HB2.out.cell (i := 2) rfl; have i3 := HB2.out.cell (i := 3) rfl; have i4 := HB2.out.cell (i := 4) rfl; have i5 := HB2.out.cell (i := 5) rfl; have i6 := HB2.out.cell (i := 6) rfl; have i7 := HB2.out.cell (i := 7) rfl; have i8 := HB2.out.cell (i := 8) rfl; have i9 := HB2.out.cell (i := 9) rfl; have i10 := HB2.out.cell (i := 10) rfl; have i11 := HB2.out.cell (i := 11) rfl; rw [H3.out] at i10) | (go_at_call 90; refine (specGoodRegs _ c.r a b ca cb HA.out HB.out lx ly).mono ?_; rintro e9 W ⟨rfl, k9⟩; rw [h1]; have HK1 := hide k9; have HB1 := hide (HBA.out.kept0 k9); have HE1 := hide (HE.out.keptS k9); have HQ1 := hide (HQ.out.keptS k9); clear k9 i0 i1 i2 i3 i4 i5 i6 i7 i8 i9 i10 i11; have i0 := HB1.out.cell (i := 0) rfl; have i1 := HB1.out.cell (i := 1) rfl; have i2 := HB1.out.cell (i := 2) rfl; have i3 := HB1.out.cell (i := 3) rfl; have i4 := HB1.out.cell (i := 4) rfl; have i5 := HB1.out.cell (i := 5) rfl; have i6 := HB1.out.cell (i := 6) rfl; have i7 := HB1.out.cell (i := 7) rfl; have i8 := HB1.out.cell (i := 8) rfl; have i9 := HB1.out.cell (i := 9) rfl; have i10 := HB1.out.cell (i := 10) rfl; have i11 := HB1.out.cell (i := 11) rfl; rw [H3.out] at i10))
        go_ret
        exact ⟨rB (by unfold Pl.cpOk; simp [h1, h2, H3.out]), (K0.out.trans HK1.out).trans HK2.out⟩
end Go.Proofs.YtbppfbkkphhjnaaGreat

namespace Go.Proofs.YtbppfbkkphhjnaaGreat
open Go.RowKit
/-- the numbers of registers that came in are ints -/
structure Pl.WfR (d : Pl.Rg) : Prop where
  o : (Lit.int .i64 d.o).wf = true
  p : (Lit.int .i64 d.p).wf = true
  f : (Lit.int .i64 d.f).wf = true
  m : (Lit.int .i64 d.m).wf = true
end Go.Proofs.YtbppfbkkphhjnaaGreat

namespace Go.Proofs.YtbppfbkkphhjnaaGreat
open Go.RowKit
set_option linter.unusedVariables false

theorem isFlags6 (k : Int) (w : World) : Calls Tryz.prog 128 #[iv k] w fun e w' => e = .returned (.bool (Pl.within k 0 31)) ∧ w' = w := by
  by_cases h0 : 0 ≤ k
  · by_cases h1 : k ≤ 31
    · go_enter Tryz.func128, Tryz.ntmps128
      go_wp2
      go_ret
      exact ⟨rB (by simp [Pl.within, h0, h1]), rfl⟩
    · go_enter Tryz.func128, Tryz.ntmps128
      go_wp2
      go_ret
      exact ⟨rB (by simp [Pl.within, h0]; omega), rfl⟩
  · go_enter Tryz.func128, Tryz.ntmps128
    go_wp2
    go_ret
    exact ⟨rB (by simp [Pl.within]; omega), rfl⟩
theorem areWords (w : World) (a : Option Addr) (ca : Nat) (xs : List Int) (ha : Came w a xs) (lx : xs.length ≤ 2000000) :
    Calls Tryz.prog 126 #[.slice a xs.length ca] w fun e w' => e = .returned (.bool (xs.all Pl.wordOk)) ∧ w' = w := by
  have HA := hide ha
  clear ha
  go_enter Tryz.func126, Tryz.ntmps126
  go_wp2
  go_loop [4, 7] (fun _ j => ∃ k : Nat, k ≤ xs.length ∧ j = iv k ∧ ∀ i, i < k → Pl.wordOk (el xs i) = true) (fun _ j => xs.length - (intOf j).toNat)
  case atStart => exact ⟨0, Nat.zero_le _, rfl, fun i hi => absurd hi (Nat.not_lt_zero i)⟩
  case round =>
    obtain ⟨k, hk, rfl, heq⟩ := hrel
    have HE := hide heq
    clear heq
    by_cases hlt : k < xs.length
    · obtain ⟨g1, o1, rfl, hc1⟩ := HA.out.1 k hlt
      obtain ⟨lo, hi⟩ := HA.out.2 k hlt
      rw [show xs[k]?.getD 0 = el xs k from rfl] at hc1 lo hi
      cases hb : Pl.wordOk (el xs k)
      · go_wp2_with (go_at_call 127; refine (isWord _ _ lo hi).mono ?_; rintro e w' ⟨rfl, rfl⟩; rw [hb])
        go_ret
        refine ⟨rB ?_, rfl⟩
        have hm : xs[k]'hlt ∈ xs := List.getElem_mem hlt
        have he : el xs k = xs[k]'hlt := by simp [el, List.getElem?_eq_getElem hlt]
        rw [he] at hb
        cases hq : xs.all Pl.wordOk
        · rfl
        · have := List.all_eq_true.1 hq _ hm
          rw [hb] at this; cases this
      · go_wp2_with (go_at_call 127; refine (isWord _ _ lo hi).mono ?_; rintro e w' ⟨rfl, rfl⟩; rw [hb])
        go_round
        case rel => exact ⟨k + 1, by omega, by go_num, snoc_all HE.out hb⟩
        case measure => simp [intOf]; omega
    · go_wp2
      go_ret
      refine ⟨rB ?_, rfl⟩
      symm
      rw [List.all_eq_true]
      intro x hx
      obtain ⟨i, hi, rfl⟩ := List.getElem_of_mem hx
      have := HE.out i (by omega)
      simpa [el, List.getElem?_eq_getElem hi] using this
end Go.Proofs.YtbppfbkkphhjnaaGreat

namespace Go.Proofs.YtbppfbkkphhjnaaGreat
open Go.RowKit
set_option linter.unusedVariables false
set_option maxHeartbeats 4000000 in
theorem implGoodRegs (w : World) (d : Pl.Rg) (a b : Option Addr) (ca cb : Nat) (ha : Came w a d.xs) (hb : Came w b d.ys) (lx : d.xs.length ≤ 2000000) (ly : d.ys.length ≤ 2000000) (wfd : Pl.WfR d) :
    Calls Tryz.prog 91 #[.agg #[.slice a d.xs.length ca, .slice b d.ys.length cb, iv d.o, iv d.p, iv d.f, iv d.m, .bool d.s, .bool d.t]] w fun e w' => e = .returned (.bool (Pl.rgOk d)) ∧ Kept 0 0 w w' := by
  have HA := hide ha
  have HB := hide hb
  have HK := hide (kept_alloc w (.cells #[.slice a d.xs.length ca, .slice b d.ys.length cb, iv d.o, iv d.p, iv d.f, iv d.m, .bool d.s, .bool d.t] 60))
  clear ha hb
  have G : Hid (Pl.rgOk d = ((d.xs.all Pl.wordOk && decide ((d.xs.length : Int) = 4)) && ((d.ys.all Pl.wordOk && decide ((d.ys.length : Int) = 4)) && (Pl.wordOk d.o && (Pl.wordOk d.p && (Pl.within d.f 0 31 && (decide (0 ≤ d.m) && decide (d.m ≤ 7)))))))) := hide rfl
  cases l1 : ((d.xs.length : Int) == 4)
  · have q1 : decide ((d.xs.length : Int) = 4) = false := by simpa using l1
    go_enter Tryz.func91, Tryz.ntmps91
    go_wp2
    go_ret
    exact ⟨rB (by rw [G.out, q1]; simp), HK.out⟩
  · have q1 : decide ((d.xs.length : Int) = 4) = true := by simpa using l1
    cases h2 : d.xs.all Pl.wordOk
    · have qh2 : True := trivial
      go_enter Tryz.func91, Tryz.ntmps91
      go_wp2_with (first | (go_at_call 126; refine (areWords _ a ca d.xs (HA.out.keptS HK.out) lx).mono ?_; rintro e w' ⟨rfl, hw⟩; have hw2 := hw.symm; clear hw; subst hw2; rw [h2]; have Z1 : True := trivial))
      go_ret
      exact ⟨rB (by rw [G.out, q1, h2]; simp), HK.out⟩
    · have qh2 : True := trivial
      cases l3 : ((d.ys.length : Int) == 4)
      · have q3 : decide ((d.ys.length : Int) = 4) = false := by simpa using l3
        go_enter Tryz.func91, Tryz.ntmps91
        go_wp2_with (first | (go_at_call 126; refine (areWords _ a ca d.xs (HA.out.keptS HK.out) lx).mono ?_; rintro e w' ⟨rfl, hw⟩; have hw2 := hw.symm; clear hw; subst hw2; rw [h2]; have Z1 : True := trivial))
        go_ret
        exact ⟨rB (by rw [G.out, q1, h2, q3]; simp), HK.out⟩
      · have q3 : decide ((d.ys.length : Int) = 4) = true := by simpa using l3
        cases h4 : d.ys.all Pl.wordOk
        · have qh4 : True := trivial
          go_enter Tryz.func91, Tryz.ntmps91
          go_wp2_with (first | (go_at_call 126; have z := Z1; refine (areWords _ b cb d.ys (HB.out.keptS HK.out) ly).mono ?_; rintro e w' ⟨rfl, hw⟩; have hw2 := hw.symm; clear hw; subst hw2; rw [h4]) | (go_at_call 126; refine (areWords _ a ca d.xs (HA.out.keptS HK.out) lx).mono ?_; rintro e w' ⟨rfl, hw⟩; have hw2 := hw.symm; clear hw; subst hw2; rw [h2]; have Z1 : True := trivial))
          go_ret
          exact ⟨rB (by rw [G.out, q1, h2, q3, h4]; simp), HK.out⟩
        · have qh4 : True := trivial
          cases h5 : Pl.wordOk d.o
          · have qh5 : True := trivial
            go_enter Tryz.func91, Tryz.ntmps91
            go_wp2_with (first | (go_at_call 126; have z := Z1; refine (areWords _ b cb d.ys (HB.out.keptS HK.out) ly).mono ?_; rintro e w' ⟨rfl, hw⟩; have hw2 := hw.symm; clear hw; subst hw2; rw [h4]) | (go_at_call 126; refine (areWords _ a ca d.xs (HA.out.keptS HK.out) lx).mono ?_; rintro e w' ⟨rfl, hw⟩; have hw2 := hw.symm; clear hw; subst hw2; rw [h2]; have Z1 : True := trivial) | (go_at_call 127; refine (isWord d.o _ (wfB wfd.o).1 (wfB wfd.o).2).mono ?_; rintro e w' ⟨rfl, hw⟩; have hw2 := hw.symm; clear hw; subst hw2; rw [h5]; have Z3 : True := trivial))
            go_ret
            exact ⟨rB (by rw [G.out, q1, h2, q3, h4, h5]; simp), HK.out⟩
          · have qh5 : True := trivial
            cases h6 : Pl.wordOk d.p
            · have qh6 : True := trivial
              go_enter Tryz.func91, Tryz.ntmps91
              go_wp2_with (first | (go_at_call 126; have z := Z1; refine (areWords _ b cb d.ys (HB.out.keptS HK.out) ly).mono ?_; rintro e w' ⟨rfl, hw⟩; have hw2 := hw.symm; clear hw; subst hw2; rw [h4]) | (go_at_call 126; refine (areWords _ a ca d.xs (HA.out.keptS HK.out) lx).mono ?_; rintro e w' ⟨rfl, hw⟩; have hw2 := hw.symm; clear hw; subst hw2; rw [h2]; have Z1 : True := trivial) | (go_at_call 127; have z := Z3; refine (isWord d.p _ (wfB wfd.p).1 (wfB wfd.p).2).mono ?_; rintro e w' ⟨rfl, hw⟩; have hw2 := hw.symm; clear hw; subst hw2; rw [h6]) | (go_at_call 127; refine (isWord d.o _ (wfB wfd.o).1 (wfB wfd.o).2).mono ?_; rintro e w' ⟨rfl, hw⟩; have hw2 := hw.symm; clear hw; subst hw2; rw [h5]; have Z3 : True := trivial))
              go_ret
              exact ⟨rB (by rw [G.out, q1, h2, q3, h4, h5, h6]; simp), HK.out⟩
            · have qh6 : True := trivial
              cases h7 : Pl.within d.f 0 31
              · have qh7 : True := trivial
                go_enter Tryz.func91, Tryz.ntmps91
                go_wp2_with (first | (go_at_call 126; have z := Z1; refine (areWords _ b cb d.ys (HB.out.keptS HK.out) ly).mono ?_; rintro e w' ⟨rfl, hw⟩; have hw2 := hw.symm; clear hw; subst hw2; rw [h4]) | (go_at_call 126; refine (areWords _ a ca d.xs (HA.out.keptS HK.out) lx).mono ?_; rintro e w' ⟨rfl, hw⟩; have hw2 := hw.symm; clear hw; subst hw2; rw [h2]; have Z1 : True := trivial) | (go_at_call 127; have z := Z3; refine (isWord d.p _ (wfB wfd.p).1 (wfB wfd.p).2).mono ?_; rintro e w' ⟨rfl, hw⟩; have hw2 := hw.symm; clear hw; subst hw2; rw [h6]) | (go_at_call 127; refine (isWord d.o _ (wfB wfd.o).1 (wfB wfd.o).2).mono ?_; rintro e w' ⟨rfl, hw⟩; have hw2 := hw.symm; clear hw; subst hw2; rw [h5]; have Z3 : True := trivial) | (go_at_call 128; refine (isFlags6 d.f _).mono ?_; rintro e w' ⟨rfl, hw⟩; have hw2 := hw.symm; clear hw; subst hw2; rw [h7]))
                go_ret
                exact ⟨rB (by rw [G.out, q1, h2, q3, h4, h5, h6, h7]; simp), HK.out⟩
              · have qh7 : True := trivial
                cases h8 : decide (0 ≤ d.m)
                · have qh8 : True := trivial
                  go_enter Tryz.func91, Tryz.ntmps91
                  go_wp2_with (first | (go_at_call 126; have z := Z1; refine (areWords _ b cb d.ys (HB.out.keptS HK.out) ly).mono ?_; rintro e w' ⟨rfl, hw⟩; have hw2 := hw.symm; clear hw; subst hw2; rw [h4]) | (go_at_call 126; refine (areWords _ a ca d.xs (HA.out.keptS HK.out) lx).mono ?_; rintro e w' ⟨rfl, hw⟩; have hw2 := hw.symm; clear hw; subst hw2; rw [h2]; have Z1 : True := trivial) | (go_at_call 127; have z := Z3; refine (isWord d.p _ (wfB wfd.p).1 (wfB wfd.p).2).mono ?_; rintro e w' ⟨rfl, hw⟩; have hw2 := hw.symm; clear hw; subst hw2; rw [h6]) | (go_at_call 127; refine (isWord d.o _ (wfB wfd.o).1 (wfB wfd.o).2).mono ?_; rintro e w' ⟨rfl, hw⟩; have hw2 := hw.symm; clear hw; subst hw2; rw [h5]; have Z3 : True := trivial) | (go_at_call 128; refine (isFlags6 d.f _).mono ?_; rintro e w' ⟨rfl, hw⟩; have hw2 := hw.symm; clear hw; subst hw2; rw [h7]))
                  go_ret
                  exact ⟨rB (by rw [G.out, q1, h2, q3, h4, h5, h6, h7, h8]; simp), HK.out⟩
                · have qh8 : True := trivial
                  cases h9 : decide (d.m ≤ 7)
                  · have qh9 : True := trivial
                    go_enter Tryz.func91, Tryz.ntmps91
                    go_wp2_with (first | (go_at_call 126; have z := Z1; refine (areWords _ b cb d.ys (HB.out.keptS HK.out) ly).mono ?_; rintro e w' ⟨rfl, hw⟩; have hw2 := hw.symm; clear hw; subst hw2; rw [h4]) | (go_at_call 126; refine (areWords _ a ca d.xs (HA.out.keptS HK.out) lx).mono ?_; rintro e w' ⟨rfl, hw⟩; have hw2 := hw.symm; clear hw; subst hw2; rw [h2]; have Z1 : True := trivial) | (go_at_call 127; have z := Z3; refine (isWord d.p _ (wfB wfd.p).1 (wfB wfd.p).2).mono ?_; rintro e w' ⟨rfl, hw⟩; have hw2 := hw.symm; clear hw; subst hw2; rw [h6]) | (go_at_call 127; refine (isWord d.o _ (wfB wfd.o).1 (wfB wfd.o).2).mono ?_; rintro e w' ⟨rfl, hw⟩; have hw2 := hw.symm; clear hw; subst hw2; rw [h5]; have Z3 : True := trivial) | (go_at_call 128; refine (isFlags6 d.f _).mono ?_; rintro e w' ⟨rfl, hw⟩; have hw2 := hw.symm; clear hw; subst hw2; rw [h7]))
                    go_ret
                    exact ⟨rB (by rw [G.out, q1, h2, q3, h4, h5, h6, h7, h8, h9]; simp), HK.out⟩
                  · have qh9 : True := trivial
                    go_enter Tryz.func91, Tryz.ntmps91
                    go_wp2_with (first | (go_at_call 126; have z := Z1; refine (areWords _ b cb d.ys (HB.out.keptS HK.out) ly).mono ?_; rintro e w' ⟨rfl, hw⟩; have hw2 := hw.symm; clear hw; subst hw2; rw [h4]) | (go_at_call 126; refine (areWords _ a ca d.xs (HA.out.keptS HK.out) lx).mono ?_; rintro e w' ⟨rfl, hw⟩; have hw2 := hw.symm; clear hw; subst hw2; rw [h2]; have Z1 : True := trivial) | (go_at_call 127; have z := Z3; refine (isWord d.p _ (wfB wfd.p).1 (wfB wfd.p).2).mono ?_; rintro e w' ⟨rfl, hw⟩; have hw2 := hw.symm; clear hw; subst hw2; rw [h6]) | (go_at_call 127; refine (isWord d.o _ (wfB wfd.o).1 (wfB wfd.o).2).mono ?_; rintro e w' ⟨rfl, hw⟩; have hw2 := hw.symm; clear hw; subst hw2; rw [h5]; have Z3 : True := trivial) | (go_at_call 128; refine (isFlags6 d.f _).mono ?_; rintro e w' ⟨rfl, hw⟩; have hw2 := hw.symm; clear hw; subst hw2; rw [h7]))
                    go_ret
                    exact ⟨rB (by rw [G.out, q1, h2, q3, h4, h5, h6, h7, h8, h9]; simp), HK.out⟩
end Go.Proofs.YtbppfbkkphhjnaaGreat

namespace Go.Proofs.YtbppfbkkphhjnaaGreat
open Go.RowKit
set_option linter.unusedVariables false

theorem okv1 (v : Int) : Pl.okv 1 v = Pl.byteOk v := by
  unfold Pl.okv Pl.byteOk Pl.top
  rw [Bool.eq_iff_iff]; simp; omega
theorem isByte (v : Int) (w : World) (lo : -9223372036854775808 ≤ v) (hi : v ≤ 9223372036854775807) :
    Calls Tryz.prog 106 #[iv v] w fun e w' => e = .returned (.bool (Pl.byteOk v)) ∧ w' = w := by
  go_enter Tryz.func106, Tryz.ntmps106
  go_wp2_with (go_at_call 136; refine (signedOf _ _ _ lo hi).mono ?_; rintro e w' ⟨rfl, hw⟩; have hw2 := hw.symm; clear hw; subst hw2; rw [okv1])
  go_ret
  exact ⟨rfl, rfl⟩
theorem areBytes (w : World) (a : Option Addr) (ca : Nat) (xs : List Int) (ha : Came w a xs) (lx : xs.length ≤ 2000000) :
    Calls Tryz.prog 73 #[.slice a xs.length ca] w fun e w' => e = .returned (.bool (Pl.bytesOk xs)) ∧ w' = w := by
  have HA := hide ha
  clear ha
  go_enter Tryz.func73, Tryz.ntmps73
  go_wp2
  go_loop [4, 7] (fun _ j => ∃ k : Nat, k ≤ xs.length ∧ j = iv k ∧ ∀ i, i < k → Pl.byteOk (el xs i) = true) (fun _ j => xs.length - (intOf j).toNat)
  case atStart => exact ⟨0, Nat.zero_le _, rfl, fun i hi => absurd hi (Nat.not_lt_zero i)⟩
  case round =>
    obtain ⟨k, hk, rfl, heq⟩ := hrel
    have HE := hide heq
    clear heq
    by_cases hlt : k < xs.length
    · obtain ⟨g1, o1, rfl, hc1⟩ := HA.out.1 k hlt
      obtain ⟨lo, hi⟩ := HA.out.2 k hlt
      rw [show xs[k]?.getD 0 = el xs k from rfl] at hc1 lo hi
      cases hb : Pl.byteOk (el xs k)
      · go_wp2_with (go_at_call 106; refine (isByte _ _ lo hi).mono ?_; rintro e w' ⟨rfl, rfl⟩; rw [hb])
        go_ret
        exact ⟨rB (Pl.bytesOk_no hlt hb).symm, rfl⟩
      · go_wp2_with (go_at_call 106; refine (isByte _ _ lo hi).mono ?_; rintro e w' ⟨rfl, rfl⟩; rw [hb])
        go_round
        case rel => exact ⟨k + 1, by omega, by go_num, snoc_all HE.out hb⟩
        case measure => simp [intOf]; omega
    · go_wp2
      go_ret
      exact ⟨rB (Pl.bytesOk_of (fun i hi => HE.out i (by omega))).symm, rfl⟩
end Go.Proofs.YtbppfbkkphhjnaaGreat

namespace Go.Proofs.YtbppfbkkphhjnaaGreat
open Go.RowKit
set_option linter.unusedVariables false

theorem Wide.at5 {ys : List Int} (h : Wide ys) {m k : Nat} (hl : ys.length = 5 * m) (hk : k < m) : -9223372036854775808 ≤ el ys (k * 5 + 3) ∧ el ys (k * 5 + 3) ≤ 9223372036854775807 := h (k * 5 + 3) (by omega)

theorem goodBus (w : World) (a b : Option Addr) (ca cb m : Nat) (xs ys : List Int) (ha : Came w a xs) (hb : Came w b ys) (lx : xs.length ≤ 2000000) (ly : ys.length = 5 * m) (bm : m ≤ 2000000) :
    Calls Tryz.prog 37 #[.agg #[.slice a xs.length ca, .slice b m cb]] w fun e w' => e = .returned (.bool (Pl.goodBus xs ys m)) ∧ Kept 0 0 w w' := by
  have HA := hide ha
  have HB := hide hb
  have HY := hide ly
  have HK0 := hide (kept_alloc w (.cells #[.slice a xs.length ca, .slice b m cb] 34))
  clear ha hb ly
  cases h1 : ((xs.length : Int) != 512)
  · have hl5 : xs.length = 512 := by simp at h1; omega
    have G : Hid (Pl.goodBus xs ys m = (Pl.accsOk ys m && (Pl.bytesOk xs && decide (m ≤ 400)))) := hide (by
      unfold Pl.goodBus
      rw [show decide (xs.length = 512) = true from by simp [hl5], Bool.true_and])
    clear hl5
    cases h2 : Pl.bytesOk xs
    · go_enter Tryz.func37, Tryz.ntmps37
      go_wp2_with (go_at_call 73; refine (areBytes _ a ca xs (HA.out.keptS HK0.out) lx).mono ?_; rintro e w' ⟨rfl, rfl⟩; rw [h2])
      go_ret
      exact ⟨rB (by rw [G.out, h2, Bool.false_and, Bool.and_false]), HK0.out⟩
    · cases h3 : decide ((400 : Int) < (m : Int))
      · go_enter Tryz.func37, Tryz.ntmps37
        go_wp2_with (first | (go_at_call 73; refine (areBytes _ a ca xs (HA.out.keptS HK0.out) lx).mono ?_; rintro e w' ⟨rfl, rfl⟩; rw [h2]) | fail)
        obtain ⟨W, hW⟩ : ∃ W : World, W = w.alloc (.cells #[.slice a xs.length ca, .slice b m cb] 34) := ⟨_, rfl⟩
        rw [← hW] at HK0 ⊢
        clear hW
        go_loopw [4, 24] (fun _ j wr => ∃ k : Nat, k ≤ m ∧ j = iv k ∧ (∀ i, i < k → Pl.accAt ys i = true) ∧ Kept 0 0 W wr) (fun _ j _ => m - (intOf j).toNat)
        case atStart => exact ⟨0, Nat.zero_le _, rfl, fun i hi => absurd hi (Nat.not_lt_zero i), Kept.refl _ _ _⟩
        case round =>
          obtain ⟨k, hk, rfl, heq, hkept⟩ := hrel
          have HE := hide heq
          have HK := hide hkept
          clear heq hkept
          by_cases hlt : k < m
          · obtain ⟨lo, hi⟩ := HB.out.2.at5 HY.out hlt
            obtain ⟨g1, o1, rfl, p0, p1, p2, p3, p4⟩ := ((HB.out.keptS (HK0.out.trans HK.out)).1).five HY.out hlt
            cases hb : Pl.accAt ys k
            · have hb2 : Pl.accOk (el ys (k * 5)) (el ys (k * 5 + 1)) (el ys (k * 5 + 2)) (el ys (k * 5 + 3)) (el ys (k * 5 + 4)) = false := hb
              clear hb
              go_wp2_with (go_at_call 74; refine (isLogged _ _ _ _ _ _ lo hi).mono ?_; rintro e w' ⟨rfl, o, p, rfl⟩; rw [hb2])
              go_ret
              exact ⟨rB (by unfold Pl.goodBus; rw [Pl.accsOk_no hlt hb2]; rfl), HK0.out.trans (kept_new (kept_new (kept_new HK.out _) _) _)⟩
            · have hb2 : Pl.accOk (el ys (k * 5)) (el ys (k * 5 + 1)) (el ys (k * 5 + 2)) (el ys (k * 5 + 3)) (el ys (k * 5 + 4)) = true := hb
              clear hb
              go_wp2_with (go_at_call 74; refine (isLogged _ _ _ _ _ _ lo hi).mono ?_; rintro e w' ⟨rfl, o, p, rfl⟩; rw [hb2])
              go_roundw
              case rel => exact ⟨k + 1, by omega, by go_num, snoc_all HE.out hb2, kept_new (kept_new (kept_new HK.out _) _) _⟩
              case measure => simp [intOf]; omega
          · have HA1 : Hid (Pl.accsOk ys m = true) := hide (Pl.accsOk_of (fun i hi => HE.out i (by omega)))
            go_wp2_with fail
            go_ret
            refine ⟨rB ?_, HK0.out.trans HK.out⟩
            rw [G.out, HA1.out, h2]
            simp at h3
            simp; omega
      · go_enter Tryz.func37, Tryz.ntmps37
        go_wp2_with (go_at_call 73; refine (areBytes _ a ca xs (HA.out.keptS HK0.out) lx).mono ?_; rintro e w' ⟨rfl, rfl⟩; rw [h2])
        go_ret
        refine ⟨rB ?_, HK0.out⟩
        rw [G.out]
        simp at h3
        rw [show decide (m ≤ 400) = false from by simp; omega]
        simp
  · have hl5 : Hid (¬ xs.length = 512) := hide (by simp at h1; omega)
    go_enter Tryz.func37, Tryz.ntmps37
    go_wp2_with (go_at_call 73; fail)
    go_ret
    refine ⟨rB ?_, HK0.out⟩
    unfold Pl.goodBus
    rw [show decide (xs.length = 512) = false from by simp [hl5.out]]
    simp
end Go.Proofs.YtbppfbkkphhjnaaGreat

namespace Go.Proofs.YtbppfbkkphhjnaaGreat
open Go.RowKit
set_option linter.unusedVariables false
set_option maxHeartbeats 1000000 in
theorem implGoodCpu (w : World) (c : Pl.Cp) (a b e q : Option Addr) (ca cb ce cq : Nat) (ha : Came w a c.r.xs) (hb : Came w b c.r.ys) (he : Came w e c.bx) (hq : Came w q c.bl) (lx : c.r.xs.length ≤ 2000000) (ly : c.r.ys.length ≤ 2000000) (lb : c.bx.length ≤ 2000000) (ll : c.bl.length = 5 * c.bm) (lm : c.bm ≤ 2000000) (wf : Pl.WfR c.r) :
    Calls Tryz.prog 59 #[.agg #[.slice a c.r.xs.length ca, .slice b c.r.ys.length cb, iv c.r.o, iv c.r.p, iv c.r.f, iv c.r.m, .bool c.r.s, .bool c.r.t, .slice e c.bx.length ce, .slice q c.bm cq, .bool c.st, .bool c.ha]] w fun r w' => r = .returned (.bool (Pl.cpOk c)) ∧ Kept 0 0 w w' := by
  have K0 := hide (kept_alloc w (.cells #[.slice a c.r.xs.length ca, .slice b c.r.ys.length cb, iv c.r.o, iv c.r.p, iv c.r.f, iv c.r.m, .bool c.r.s, .bool c.r.t, .slice e c.bx.length ce, .slice q c.bm cq, .bool c.st, .bool c.ha] 62))
  have HBA := hide (Blk.new w #[.slice a c.r.xs.length ca, .slice b c.r.ys.length cb, iv c.r.o, iv c.r.p, iv c.r.f, iv c.r.m, .bool c.r.s, .bool c.r.t, .slice e c.bx.length ce, .slice q c.bm cq, .bool c.st, .bool c.ha] 62)
  obtain ⟨X, hX⟩ : ∃ X : World, w.alloc (.cells #[.slice a c.r.xs.length ca, .slice b c.r.ys.length cb, iv c.r.o, iv c.r.p, iv c.r.f, iv c.r.m, .bool c.r.s, .bool c.r.t, .slice e c.bx.length ce, .slice q c.bm cq, .bool c.st, .bool c.ha] 62) = X := ⟨_, rfl⟩
  rw [hX] at K0 HBA
  have HA := hide (ha.keptS K0.out)
  have HB := hide (hb.keptS K0.out)
  have HE := hide (he.keptS K0.out)
  have HQ := hide (hq.keptS K0.out)
  clear ha hb he hq
  have p := HBA.out.all
  cases h1 : Pl.rgOk c.r
  · go_enter Tryz.func59, Tryz.ntmps59
    go_wp2_with (go_at_call 91; refine (implGoodRegs _ c.r a b ca cb HA.out HB.out lx ly wf).mono ?_; rintro e9 W ⟨rfl, k9⟩; rw [h1]; have HK1 := hide k9; have HB1 := hide (HBA.out.kept0 k9); have HE1 := hide (HE.out.keptS k9); have HQ1 := hide (HQ.out.keptS k9); clear k9 p; have p := HB1.out.all)
    go_ret
    exact ⟨rB (by unfold Pl.cpOk; simp [h1]), K0.out.trans HK1.out⟩
  · cases h2 : Pl.goodBus c.bx c.bl c.bm
    · go_enter Tryz.func59, Tryz.ntmps59
      go_wp2_with (first | (go_at_call 37; have z9 := HB1; refine (goodBus _ e q ce cq c.bm c.bx c.bl HE1.out HQ1.out lb ll lm).mono ?_; rintro e9 W2 ⟨rfl, k9⟩; rw [h2]; have HK2 := hide k9; have HB2 := hide (HB1.out.kept0 k9); clear k9 p; have p := HB2.out.all) | (go_at_call 91; refine (implGoodRegs _ c.r a b ca cb HA.out HB.out lx ly wf).mono ?_; rintro e9 W ⟨rfl, k9⟩; rw [h1]; have HK1 := hide k9; have HB1 := hide (HBA.out.kept0 k9); have HE1 := hide (HE.out.keptS k9); have HQ1 := hide (HQ.out.keptS k9); clear k9 p; have p := HB1.out.all))
      go_ret
      exact ⟨rB (by unfold Pl.cpOk; simp [h1, h2]), (K0.out.trans HK1.out).trans HK2.out⟩
    · rcases Bool.eq_false_or_eq_true c.st with h3 | h3
      all_goals
        have H3 := hide h3
        clear h3
        go_enter Tryz.func59, Tryz.ntmps59
        go_wp2_with (first | (go_at_call 37; have z9 := HB1; refine (goodBus _ e q ce cq c.bm c.bx c.bl HE1.out HQ1.out lb ll lm).mono ?_; rintro e9 W2 ⟨rfl, k9⟩; rw [h2]; have HK2 := hide k9; have HB2 := hide (HB1.out.kept0 k9); clear k9 p; have p := HB2.out.all; rw [H3.out] at p) | (go_at_call 91; refine (implGoodRegs _ c.r a b ca cb HA.out HB.out lx ly wf).mono ?_; rintro e9 W ⟨rfl, k9⟩; rw [h1]; have HK1 := hide k9; have HB1 := hide (HBA.out.kept0 k9); have HE1 := hide (HE.out.keptS k9); have HQ1 := hide (HQ.out.keptS k9); clear k9 p; have p := HB1.out.all))
        go_ret
        exact ⟨rB (by unfold Pl.cpOk; simp [h1, h2, H3.out]), (K0.out.trans HK1.out).trans HK2.out⟩
end Go.Proofs.YtbppfbkkphhjnaaGreat

namespace Go.Proofs.YtbppfbkkphhjnaaGreat
open Go.RowKit
set_option linter.unusedVariables false
/-- the fourteen cells of registers in one value -/
def bkR (r : Pl.Rg) : Array Value := #[iv (el r.xs 0), iv (el r.xs 1), iv (el r.xs 2), iv (el r.xs 3), iv (el r.ys 0), iv (el r.ys 1), iv (el r.ys 2), iv (el r.ys 3), iv r.o, iv r.p, iv r.f, iv r.m, .bool r.s, .bool r.t]
theorem bkR_one (r : Pl.Rg) : (bkR r).all (·.oneCell') = true := by simp [bkR, Value.oneCell']
theorem bkR_info (r : Pl.Rg) : (Tryz.prog.info? 117).map (·.size) = some (bkR r).size := by
  have : (Tryz.prog.info? 117).map (·.size) = some 14 := by kernel_rfl
  exact this
theorem list4 {xs : List Int} (h : xs.length = 4) : xs = [el xs 0, el xs 1, el xs 2, el xs 3] := by
  match xs, h with
  | [a, b, c, d], _ => rfl

theorem bankOf (w : World) (d : Pl.Rg) (a b : Option Addr) (ca cb : Nat) (ha : IRow w a d.xs) (hb : IRow w b d.ys) (lx : d.xs.length = 4) (ly : d.ys.length = 4) :
    Calls Tryz.prog 92 #[.agg #[.slice a d.xs.length ca, .slice b d.ys.length cb, iv d.o, iv d.p, iv d.f, iv d.m, .bool d.s, .bool d.t]] w fun e w' => e = .returned (.agg (bkR d)) ∧ Kept 0 0 w w' := by
  rw [lx, ly]
  obtain ⟨W0, h0⟩ : ∃ W : World, W = ((w.alloc (.cells #[.slice a 4 ca, .slice b 4 cb, iv d.o, iv d.p, iv d.f, iv d.m, .bool d.s, .bool d.t] 60)).alloc (.cells #[iv 0, iv 0, iv 0, iv 0, iv 0, iv 0, iv 0, iv 0, iv 0, iv 0, iv 0, iv 0, .bool false, .bool false] 117)).alloc (.cells #[iv 0, iv 0, iv 0, iv 0, iv 0, iv 0, iv 0, iv 0, iv d.o, iv d.p, iv d.f, iv d.m, .bool d.s, .bool d.t] 117) := ⟨_, rfl⟩
  have R0 : Blk W0 w.heap.size #[.slice a 4 ca, .slice b 4 cb, iv d.o, iv d.p, iv d.f, iv d.m, .bool d.s, .bool d.t] 60 := by rw [h0]; exact ((Blk.new w _ _).alloc _).alloc _
  have Z0 : Blk W0 (w.heap.size + 1) #[iv 0, iv 0, iv 0, iv 0, iv 0, iv 0, iv 0, iv 0, iv 0, iv 0, iv 0, iv 0, .bool false, .bool false] 117 := by
    rw [h0]
    have := Blk.new (w.alloc (.cells #[.slice a 4 ca, .slice b 4 cb, iv d.o, iv d.p, iv d.f, iv d.m, .bool d.s, .bool d.t] 60)) #[iv 0, iv 0, iv 0, iv 0, iv 0, iv 0, iv 0, iv 0, iv 0, iv 0, iv 0, iv 0, .bool false, .bool false] 117
    simp only [World.size_alloc] at this
    exact this.alloc _
  have B0 : Blk W0.drew (w.heap.size + 1 + 1) #[iv 0, iv 0, iv 0, iv 0, iv 0, iv 0, iv 0, iv 0, iv d.o, iv d.p, iv d.f, iv d.m, .bool d.s, .bool d.t] 117 := by
    rw [h0]
    have := Blk.new ((w.alloc (.cells #[.slice a 4 ca, .slice b 4 cb, iv d.o, iv d.p, iv d.f, iv d.m, .bool d.s, .bool d.t] 60)).alloc (.cells #[iv 0, iv 0, iv 0, iv 0, iv 0, iv 0, iv 0, iv 0, iv 0, iv 0, iv 0, iv 0, .bool false, .bool false] 117)) #[iv 0, iv 0, iv 0, iv 0, iv 0, iv 0, iv 0, iv 0, iv d.o, iv d.p, iv d.f, iv d.m, .bool d.s, .bool d.t] 117
    simp only [World.size_alloc] at this
    exact this
  have K0 : Kept 0 0 w W0.drew := by rw [h0]; exact kept_drew (kept_new (kept_new (kept_alloc w _) _) _)
  have r00 := R0.cell (i := 0) rfl
  have r01 := R0.cell (i := 1) rfl
  obtain ⟨W1, hc1, B1, k1⟩ := copy_at W0.drew (w.heap.size + 1 + 1) 0 4 4 ca a d.xs _ _ B0 (ha.keptS K0) (by omega) (by rw [lx]; simp)
  have K1 : Kept 0 0 w W1.drew := kept_drew (kept_over K0 k1 (by omega))
  have R1 : Blk W1 w.heap.size #[.slice a 4 ca, .slice b 4 cb, iv d.o, iv d.p, iv d.f, iv d.m, .bool d.s, .bool d.t] 60 := Blk.kept (show Blk W0.drew _ _ _ from R0) k1 (by omega)
  have r11 := R1.cell (i := 1) rfl
  obtain ⟨W2, hc2, B2, k2⟩ := copy_at W1.drew (w.heap.size + 1 + 1) 4 4 4 cb b d.ys _ _ (show Blk W1.drew _ _ _ from B1) (hb.keptS K1) (by omega) (by rw [ly, length_splice _ _ _ (by simp [lx])]; simp)
  have Z1 := Blk.kept (show Blk W0.drew _ _ _ from Z0) k1 (by omega)
  have Z2 := hide (Blk.kept (show Blk W1.drew _ _ _ from Z1) k2 (by omega))
  have K2 := hide (kept_over K1 k2 (by omega))
  rw [lx] at hc1
  rw [ly] at hc2
  have D2 : Hid (Blk W2 (w.heap.size + 1 + 1) (bkR d) 117) := hide (by
    rw [list4 lx, list4 ly] at B2
    exact B2)
  clear B0 B1 B2 k1 k2 K0 K1 R0 Z0 R1 Z1
  go_enter Tryz.func92, Tryz.ntmps92
  go_wp2_with fail
  rw [← h0]
  clear h0
  go_region
  go_wp2_with fail
  go_region
  go_wp2_with (first | (refine wpList_load_row rfl 117 (.tmp 3) rfl (w.heap.size + 1 + 1) rfl 117 (bkR d) (0, 0) _ D2.out Tryz.underlying117 rfl (bkR_info d) ?_) | (refine wpList_store_row rfl 117 (.tmp 2) (.tmp 27) rfl (w.heap.size + 1) (bkR d) rfl rfl 117 _ Z2.out (bkR_info d) rfl (bkR_one d) ?_))
  refine bodyPost_ret (v := .agg (bkR d)) ?_ rfl ⟨rfl, kept_setRow K2.out _ _ (by omega)⟩
  exact results_cell_row rfl _ _ _ _ _ (0, 0) _ rfl Z2.out.setRow Tryz.underlying117 rfl (bkR_info d)
end Go.Proofs.YtbppfbkkphhjnaaGreat

namespace Go.Proofs.YtbppfbkkphhjnaaGreat
open Go.RowKit
set_option linter.unusedVariables false
/-- the step's own blocks: from lo to hi, and the log's -/
def own (lo hi g k : Nat) : Prop := (lo ≤ k ∧ k < hi) ∨ k = g
end Go.Proofs.YtbppfbkkphhjnaaGreat

namespace Go.Proofs.YtbppfbkkphhjnaaGreat
open Go.RowKit
set_option linter.unusedVariables false

theorem ownsRow_keptS {w w' : World} {base g n cap size lo hi : Nat} {e : TypeId} {xs : List Value} (h : w.ownsRow base e size (.slice (some ⟨g, 0, none⟩) n cap) n xs) (k : Kept lo hi w w') (hn : ¬ (lo ≤ g ∧ g < hi)) : w'.ownsRow base e size (.slice (some ⟨g, 0, none⟩) n cap) n xs := by
  have hlt := h.lt g rfl
  rcases h with ⟨hl, ⟨e1, e0⟩ | ⟨g', cap', cur, e1, hb, hgg, rest⟩⟩
  · cases e1
  · cases e1
    exact ⟨hl, .inr ⟨g, cap, cur, rfl, hb, (k.block g hlt.2 hn).trans hgg, rest⟩⟩
/- the registers' own functions, over lists of four -/
section
variable {w : World} {p gd cd ga ca g1 c1 g2 c2 : Nat} {c : Pl.Mc}
end
end Go.Proofs.YtbppfbkkphhjnaaGreat

