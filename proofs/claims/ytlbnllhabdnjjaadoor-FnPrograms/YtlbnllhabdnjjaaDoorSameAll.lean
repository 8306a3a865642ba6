/- What the laws' own comparison of two lists of instructions answers where they are the same. -/
import Derived.Test.YtlbnllhabdnjjaaDoorInsFns
namespace Go.Proofs.YtlbnllhabdnjjaaDoor
open Go.RowKit
set_option linter.unusedVariables false
set_option maxHeartbeats 2000000 in
theorem sameAll (w : World) (a b : Option Addr) (ca cb n : Nat) (xs : List Int) (ha : IRow w a xs) (hb : IRow w b xs) (lx : xs.length = 7 * n) (bx : n ≤ 2000000) :
    Calls Tryd.prog 10 #[.slice a n ca, .slice b n cb] w fun e w' => e = .returned (.bool true) ∧ w.grownBy w' none := by
  have HX := hide lx
  clear lx
  have kl : ((n : Int) != (n : Int)) = false := by simp
  go_enter Tryd.func10, Tryd.ntmps10
  go_wp2
  go_loopw [5, 13] (fun _ j wr => ∃ k : Nat, k ≤ n ∧ j = .int .i64 k ∧ w.grownBy wr none) (fun _ j _ => n - (intOf j).toNat)
  case atStart => exact ⟨0, Nat.zero_le _, rfl, World.grownBy.refl _ _⟩
  case round =>
    obtain ⟨k, hk, rfl, hg⟩ := hrel
    by_cases hlt : k < n
    · obtain ⟨g1, o1, rfl, p0, p1, p2, p3, p4, p5, p6⟩ := (ha.kept hg).at7 HX.out hlt
      obtain ⟨g2, o2, rfl, q0, q1, q2, q3, q4, q5, q6⟩ := (hb.kept hg).at7 HX.out hlt
      clear ha hb
      go_wp2
      go_region
      go_wp2
      go_roundw
      case rel => exact ⟨k + 1, by omega, by go_num, grownBy_drew hg⟩
      case measure => simp [intOf]; omega
    · go_wp2
      go_ret
      exact ⟨rfl, hg⟩
end Go.Proofs.YtlbnllhabdnjjaaDoor
