/- What the laws' own functions over lists of instructions do, further: look at marks, mark a list that may be nil, measure, compare whole. -/
import Derived.Test.YtlbnllhabdnjjaaInsFns
namespace Go.Proofs.Ytlbnllhabdnjjaa
open Go.RowKit
set_option linter.unusedVariables false
set_option maxHeartbeats 2000000 in
theorem heldInsS (w : World) (a : Option Addr) (ca n : Nat) (q : Int) (ha : IRow w a (marks q (7 * n))) (bx : n ≤ 2000000) (q0 : 0 ≤ q) (q1 : q ≤ 100000000) :
    Calls Try.prog 32 #[.slice a n ca, .int .i64 q] w fun e w' => e = .returned (.int .i64 (q + 7 * (n : Int))) ∧ w.grownBy w' none := by
  go_enter Try.func32, Try.ntmps32
  go_wp2
  go_loopw [1, 5] (fun m j wr => ∃ k : Nat, k ≤ n ∧ j = .int .i64 k ∧ m = .int .i64 (q + 7 * (k : Int)) ∧ w.grownBy wr none) (fun _ j _ => n - (intOf j).toNat)
  case atStart => exact ⟨0, Nat.zero_le _, rfl, by simp, World.grownBy.refl _ _⟩
  case round =>
    obtain ⟨k, hk, rfl, rfl, hgr⟩ := hrel
    by_cases hlt : k < n
    · obtain ⟨g1, o1, rfl, p0, p1, p2, p3, p4, p5, p6⟩ := (ha.kept hgr).at7 (marks_len q (7 * n)) hlt
      rw [show el (marks q (7 * n)) (k * 7) = q + 7 * (k : Int) from by rw [el_marks7 _ _ _ (by omega)]; omega] at p0
      rw [show el (marks q (7 * n)) (k * 7 + 1) = q + 7 * (k : Int) + 1 from by rw [el_marks7 _ _ _ (by omega)]; omega] at p1
      rw [show el (marks q (7 * n)) (k * 7 + 2) = q + 7 * (k : Int) + 1 + 1 from by rw [el_marks7 _ _ _ (by omega)]; omega] at p2
      rw [show el (marks q (7 * n)) (k * 7 + 3) = q + 7 * (k : Int) + 1 + 1 + 1 from by rw [el_marks7 _ _ _ (by omega)]; omega] at p3
      rw [show el (marks q (7 * n)) (k * 7 + 4) = q + 7 * (k : Int) + 1 + 1 + 1 + 1 from by rw [el_marks7 _ _ _ (by omega)]; omega] at p4
      rw [show el (marks q (7 * n)) (k * 7 + 5) = q + 7 * (k : Int) + 1 + 1 + 1 + 1 + 1 from by rw [el_marks7 _ _ _ (by omega)]; omega] at p5
      rw [show el (marks q (7 * n)) (k * 7 + 6) = q + 7 * (k : Int) + 1 + 1 + 1 + 1 + 1 + 1 from by rw [el_marks7 _ _ _ (by omega)]; omega] at p6
      clear ha
      go_wp2
      go_roundw
      case rel => exact ⟨k + 1, by omega, by go_num, by rw [show q + 7 * (k : Int) + 1 + 1 + 1 + 1 + 1 + 1 + 1 = q + 7 * ((k + 1 : Nat) : Int) from by omega], hgr⟩
      case measure => simp [intOf]; omega
    · obtain rfl : k = n := by omega
      go_wp2
      go_ret
      exact ⟨rfl, hgr⟩
theorem markNilI (w : World) (ca : Nat) (q : Int) : Calls Try.prog 28 #[.slice none 0 ca, .int .i64 q] w fun e w' => e = .returned (.int .i64 q) ∧ w' = w := by
  go_enter Try.func28, Try.ntmps28
  go_wp2
  go_loop [1, 5] (fun m j => m = .int .i64 q ∧ j = .int .i64 0) (fun _ _ => 0)
  case atStart => exact ⟨rfl, rfl⟩
  case round =>
    obtain ⟨rfl, rfl⟩ := hrel
    go_wp2
    go_ret
    exact ⟨rfl, rfl⟩
theorem markSlotI (w : World) (base ca n : Nat) (a : Option Addr) (xs : List Int) (q : Int) (h : Slot w base a xs) (lx : xs.length = 7 * n) (bx : n ≤ 2000000) (q0 : 0 ≤ q) (q1 : q ≤ 100000000) :
    Calls Try.prog 28 #[.slice a n ca, .int .i64 q] w fun e w' => e = .returned (.int .i64 (q + 7 * (n : Int))) ∧ Slot w' base a (marks q (7 * n)) ∧ w.grownBy w' (blk a) := by
  rcases h with ⟨rfl, rfl⟩ | ⟨g, rfl, hb, hlt, ho⟩
  · obtain rfl : n = 0 := by simp at lx; omega
    refine (markNilI w ca q).mono ?_
    rintro e w' ⟨rfl, rfl⟩
    exact ⟨by simp, .inl ⟨rfl, by simp [marks]⟩, World.grownBy.refl _ _⟩
  · refine (markInsS w g ca n xs q ho lx bx q0 q1).mono ?_
    rintro e w' ⟨rfl, ho', hg⟩
    exact ⟨rfl, .inr ⟨g, rfl, hb, Nat.lt_of_lt_of_le hlt hg.size, ho'⟩, hg⟩
theorem szInsS (w : World) (a : Option Addr) (ca n : Nat) (left : Int) (hn : n ≤ 9223372036854775807) (l0 : 0 ≤ left) (l1 : left ≤ 2000000) :
    Calls Try.prog 23 #[.slice a n ca, .int .i64 left] w fun e w' => e = .returned (.int .i64 (if left - (n : Int) < 0 then -1 else left - (n : Int))) ∧ w' = w := by
  by_cases h : left - (n : Int) < 0
  all_goals
    go_enter Try.func23, Try.ntmps23
    go_wp2
    go_ret
    exact ⟨rfl, rfl⟩
end Go.Proofs.Ytlbnllhabdnjjaa
