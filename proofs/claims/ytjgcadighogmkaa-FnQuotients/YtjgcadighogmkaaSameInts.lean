/- What the laws' other comparison of lists of whole numbers answers. -/
import Derived.Test.YtjgcadighogmkaaInts
namespace Go.Proofs.Ytjgcadighogmkaa
open Go.RowKit
set_option linter.unusedVariables false

theorem sameInts (w : World) (a b : Option Addr) (ca cb : Nat) (xs ys : List Int) (ha : IRow w a xs) (hb : IRow w b ys) (lx : xs.length ≤ 2000000) (ly : ys.length ≤ 2000000) :
    Calls Try.prog 22 #[.slice a xs.length ca, .slice b ys.length cb] w fun e w' => e = .returned (.bool (decide (xs = ys))) ∧ w.grownBy w' none := by
  by_cases hl : xs.length = ys.length
  · have kl : (((xs.length : Nat) : Int) != ((ys.length : Nat) : Int)) = false := by simp [hl]
    have HL : Hid (xs.length = ys.length) := hl
    clear hl
    go_enter Try.func22, Try.ntmps22
    go_wp2
    go_loopw [5, 13] (fun i j wr => ∃ k : Nat, k ≤ xs.length ∧ j = .int .i64 k ∧ (∀ i, i < k → xs[i]?.getD 0 = ys[i]?.getD 0) ∧ w.grownBy wr none) (fun _ j _ => xs.length - (intOf j).toNat)
    case atStart => exact ⟨0, Nat.zero_le _, rfl, fun i hi => absurd hi (Nat.not_lt_zero i), World.grownBy.refl _ _⟩
    case round =>
      obtain ⟨k, hk, rfl, heq, hg⟩ := hrel
      by_cases hlt : k < xs.length
      · obtain ⟨g1, o1, rfl, hc1⟩ := ha.kept hg k hlt
        obtain ⟨g2, o2, rfl, hc2⟩ := hb.kept hg k (by have := HL.out; omega)
        have hlt2 : k < ys.length := by have := HL.out; omega
        have HE : Hid (∀ i, i < k → xs[i]?.getD 0 = ys[i]?.getD 0) := heq
        clear heq ha hb
        by_cases he : xs[k] = ys[k]
        · have ke : (xs[k] != ys[k]) = false := by simpa using he
          have HK : Hid (xs[k] = ys[k]) := he
          clear he
          go_wp2
          go_region
          go_wp2
          go_roundw
          case rel => exact ⟨k + 1, by omega, by go_num, snoc_all HE.out (by simpa [hlt, hlt2] using HK.out), grownBy_drew hg⟩
          case measure => simp [intOf]; omega
        · have ke : (xs[k] != ys[k]) = true := by simpa using he
          have HK : Hid (¬ xs[k] = ys[k]) := he
          clear he
          go_wp2
          go_region
          go_wp2
          go_ret
          exact ⟨rB (by symm; rw [decide_eq_false_iff_not]; intro e; apply HK.out; simp [e]), grownBy_drew hg⟩
      · have HE : Hid (∀ i, i < k → xs[i]?.getD 0 = ys[i]?.getD 0) := heq
        clear heq
        go_wp2
        go_ret
        exact ⟨rB (by symm; rw [decide_eq_true_iff]; exact ext_of HL.out (fun i hi => HE.out i (by omega))), hg⟩
  · have kl : (((xs.length : Nat) : Int) != ((ys.length : Nat) : Int)) = true := by rw [bne_iff_ne]; omega
    have HL : Hid (¬ xs.length = ys.length) := hl
    clear hl
    go_enter Try.func22, Try.ntmps22
    go_wp2
    go_ret
    exact ⟨rB (by symm; rw [decide_eq_false_iff_not]; intro e; apply HL.out; rw [e]), World.grownBy.refl _ _⟩

end Go.Proofs.Ytjgcadighogmkaa
