/- What the model's draws for the laws on conditions answer, of whatever bytes; and lists of bools held one against another. -/
import Derived.Test.YtceipklpbnmggaaDraw
import Derived.Test.YtceipklpbnmggaaBools
namespace Go.Proofs.Ytceipklpbnmggaa
open Go.RowKit
set_option linter.unusedVariables false
theorem drawTestCond (w : World) (a : Option Addr) (len cap : Nat) (h : Bytes w a len) :
    Calls Try.prog 10 #[.slice a len cap] w fun e w' => ∃ k f : Int, e = .returned (.tuple #[.int .i64 k, .int .i64 f]) ∧ -1 ≤ k ∧ k ≤ 16 ∧ 0 ≤ f ∧ f ≤ 32 ∧ Below w.heap.size w w' := by
  go_enter Try.func10, Try.ntmps10
  go_wp2_with fail
  refine (pick _ _ a len cap 0 18 (h.cur cap) (by omega) (by omega) (by decide) (by decide)).mono ?_
  rintro e w1 ⟨s, rfl, s0, s1, hg1, q1, q10, q11, hc1⟩
  go_wp2_with fail
  refine (pick _ _ a len cap q1 33 hc1 (by omega) (by omega) (by decide) (by decide)).mono ?_
  rintro e w2 ⟨v, rfl, v0, v1, hg2, q2, q20, q21, hc2⟩
  go_wp2_with fail
  go_ret2
  exact ⟨s - 1, v, rfl, by omega, by omega, by omega, by omega, below_of (grownBy_trans hg1 hg2)⟩
theorem drawNeedsOf (w : World) (a : Option Addr) (len cap : Nat) (h : Bytes w a len) :
    Calls Try.prog 17 #[.slice a len cap] w fun e w' => ∃ k : Int, e = .returned (.int .i64 k) ∧ -1 ≤ k ∧ k ≤ 16 ∧ Below w.heap.size w w' := by
  go_enter Try.func17, Try.ntmps17
  go_wp2_with fail
  refine (pick _ _ a len cap 0 18 (h.cur cap) (by omega) (by omega) (by decide) (by decide)).mono ?_
  rintro e w1 ⟨s, rfl, s0, s1, hg1, q1, q10, q11, hc1⟩
  go_wp2_with fail
  go_ret
  exact ⟨s - 1, rfl, by omega, by omega, below_of hg1⟩
theorem drawCountTrue (w : World) (a : Option Addr) (len cap : Nat) (h : Bytes w a len) :
    Calls Try.prog 20 #[.slice a len cap] w fun e w' => ∃ k : Int, e = .returned (.int .i64 k) ∧ -1 ≤ k ∧ k ≤ 32 ∧ Below w.heap.size w w' := by
  go_enter Try.func20, Try.ntmps20
  go_wp2_with fail
  refine (pick _ _ a len cap 0 34 (h.cur cap) (by omega) (by omega) (by decide) (by decide)).mono ?_
  rintro e w1 ⟨s, rfl, s0, s1, hg1, q1, q10, q11, hc1⟩
  go_wp2_with fail
  go_ret
  exact ⟨s - 1, rfl, by omega, by omega, below_of hg1⟩
theorem drawCondFor (w : World) (a : Option Addr) (len cap : Nat) (h : Bytes w a len) :
    Calls Try.prog 22 #[.slice a len cap] w fun e w' => ∃ s u v : Int, e = .returned (.tuple #[.int .i64 s, .int .i64 u, .int .i64 v]) ∧ 0 ≤ s ∧ s ≤ 3 ∧ -1 ≤ u ∧ u ≤ 65536 ∧ -1 ≤ v ∧ v ≤ 65536 ∧ Below w.heap.size w w' := by
  go_enter Try.func22, Try.ntmps22
  go_wp2_with fail
  refine (size _ _ a len cap 0 (h.cur cap) (by omega) (by omega)).mono ?_
  rintro e w1 ⟨s, rfl, s0, s1, hg1, q1, q10, q11, hc1⟩
  go_wp2_with fail
  refine (fit _ _ a len cap q1 s hc1 (by omega) (by omega)).mono ?_
  rintro e w2 ⟨u, rfl, u0, u1, hg2, q2, q20, q21, hc2⟩
  go_wp2_with fail
  refine (one _ _ a len cap q2 4 hc2 (by omega) (by omega) (by decide) (by decide)).mono ?_
  rintro e w3 ⟨r, rfl, hg3, q3, q30, q31, hc3⟩
  cases r
  · go_wp2_with fail
    refine (fit _ _ a len cap q3 s hc3 (by omega) (by omega)).mono ?_
    rintro e w4 ⟨v, rfl, v0, v1, hg4, q4, q40, q41, hc4⟩
    go_wp2_with fail
    exact bodyPost_ret (v := .tuple #[.int .i64 s, .int .i64 u, .int .i64 v]) (by simp [results, Try.results22, go_sem]) rfl ⟨s, u, v, rfl, s0, s1, u0, u1, v0, v1, below_of (grownBy_trans (grownBy_trans (grownBy_trans hg1 hg2) hg3) hg4)⟩
  · go_wp2_with fail
    exact bodyPost_ret (v := .tuple #[.int .i64 s, .int .i64 u, .int .i64 u]) (by simp [results, Try.results22, go_sem]) rfl ⟨s, u, u, rfl, s0, s1, u0, u1, u0, u1, below_of (grownBy_trans (grownBy_trans hg1 hg2) hg3)⟩
theorem sameBools (w : World) (a b : Option Addr) (ca cb : Nat) (xs ys : List Bool) (ha : BRow w a xs) (hb : BRow w b ys) (lx : xs.length ≤ 2000000) (ly : ys.length ≤ 2000000) :
    Calls Try.prog 25 #[.slice a xs.length ca, .slice b ys.length cb] w fun e w' => e = .returned (.bool (decide (xs = ys))) ∧ w.grownBy w' none := by
  by_cases hl : xs.length = ys.length
  · have kl : (((xs.length : Nat) : Int) != ((ys.length : Nat) : Int)) = false := by simp [hl]
    have HL : Hid (xs.length = ys.length) := hl
    clear hl
    go_enter Try.func25, Try.ntmps25
    go_wp2
    go_loopw [5, 13] (fun _ j wr => ∃ k : Nat, k ≤ xs.length ∧ j = .int .i64 k ∧ (∀ i, i < k → xs[i]?.getD false = ys[i]?.getD false) ∧ w.grownBy wr none) (fun _ j _ => xs.length - (intOf j).toNat)
    case atStart => exact ⟨0, Nat.zero_le _, rfl, fun i hi => absurd hi (Nat.not_lt_zero i), World.grownBy.refl _ _⟩
    case round =>
      obtain ⟨k, hk, rfl, heq, hg⟩ := hrel
      by_cases hlt : k < xs.length
      · obtain ⟨g1, o1, rfl, hc1⟩ := ha.kept hg k hlt
        obtain ⟨g2, o2, rfl, hc2⟩ := hb.kept hg k (by have := HL.out; omega)
        have hlt2 : k < ys.length := by have := HL.out; omega
        have HE : Hid (∀ i, i < k → xs[i]?.getD false = ys[i]?.getD false) := heq
        clear heq ha hb
        generalize hp : xs[k]?.getD false = p at hc1
        generalize hq : ys[k]?.getD false = q at hc2
        have HP := hide hp
        have HQ := hide hq
        clear hp hq
        cases p <;> cases q
        · go_wp2
          go_region
          go_wp2
          go_roundw
          case rel => exact ⟨k + 1, by omega, by go_num, snoc_all HE.out (by rw [HP.out, HQ.out]), grownBy_drew hg⟩
          case measure => simp [intOf]; omega
        · go_wp2
          go_region
          go_wp2
          go_ret
          exact ⟨rB (by symm; rw [decide_eq_false_iff_not]; intro e; have h1 := HP.out; rw [e, HQ.out] at h1; cases h1), grownBy_drew hg⟩
        · go_wp2
          go_region
          go_wp2
          go_ret
          exact ⟨rB (by symm; rw [decide_eq_false_iff_not]; intro e; have h1 := HP.out; rw [e, HQ.out] at h1; cases h1), grownBy_drew hg⟩
        · go_wp2
          go_region
          go_wp2
          go_roundw
          case rel => exact ⟨k + 1, by omega, by go_num, snoc_all HE.out (by rw [HP.out, HQ.out]), grownBy_drew hg⟩
          case measure => simp [intOf]; omega
      · have HE : Hid (∀ i, i < k → xs[i]?.getD false = ys[i]?.getD false) := heq
        clear heq
        go_wp2
        go_ret
        exact ⟨rB (by symm; rw [decide_eq_true_iff]; exact extB HL.out (fun i hi => HE.out i (by omega))), hg⟩
  · have kl : (((xs.length : Nat) : Int) != ((ys.length : Nat) : Int)) = true := by rw [bne_iff_ne]; omega
    have HL : Hid (¬ xs.length = ys.length) := hl
    clear hl
    go_enter Try.func25, Try.ntmps25
    go_wp2
    go_ret
    exact ⟨rB (by symm; rw [decide_eq_false_iff_not]; intro e; apply HL.out; rw [e]), World.grownBy.refl _ _⟩
end Go.Proofs.Ytceipklpbnmggaa
