/- What the laws' own number of bytes is bounded by. -/
import Derived.Test.YtceipklpbnmggaaRead
namespace Go.Proofs.Ytceipklpbnmggaa
open Go.RowKit
set_option linter.unusedVariables false
theorem lawNum (w : World) (a : Option Addr) (len cap : Nat) (h : Bytes w a len) :
    Calls Try.prog 15 #[.slice a len cap] w fun e w' => ∃ n : Int, e = .returned (.int .i64 n) ∧ 0 ≤ n ∧ n ≤ 1000002 ∧ Below w.heap.size w w' := by
  have hl := h.1
  unfold maxLen at hl
  go_enter Try.func15, Try.ntmps15
  go_wp2
  go_loop [3, 5, 8] (fun n _ j => ∃ (k : Nat) (v : Int), k ≤ len ∧ j = .int .i64 k ∧ n = .int .i64 v ∧ 0 ≤ v ∧ v ≤ 1000002) (fun _ _ j => len - (intOf j).toNat)
  case atStart => exact ⟨0, 0, Nat.zero_le _, rfl, rfl, by omega, by omega⟩
  case round =>
    obtain ⟨k, v, hk, rfl, rfl, v0, v1⟩ := hrel
    by_cases hlt : k < len
    · obtain ⟨g, off, z, rfl, hc, z0, z1⟩ := h.2 k hlt
      clear h
      go_wp2
      go_round
      case rel => exact ⟨k + 1, _, by omega, by go_num, rfl, by omega, by omega⟩
      case measure => simp [intOf]; omega
    · go_wp2
      go_ret
      exact ⟨_, rfl, v0, v1, Below.refl _ _⟩
end Go.Proofs.Ytceipklpbnmggaa
