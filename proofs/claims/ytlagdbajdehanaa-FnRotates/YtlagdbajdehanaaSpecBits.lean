/- What the models of CountOnes and ReverseBits answer for every argument; none changes the world. -/
import Derived.Test.YtlagdbajdehanaaOnes
import Derived.Test.YtlagdbajdehanaaSpecOnce
namespace Go.Proofs.Ytlagdbajdehanaa
open Go.RowKit
set_option linter.unusedVariables false

theorem specCountOnes (s v : Int) (w : World) : Calls Try.prog 29 #[.int .i64 s, .int .i64 v] w fun e w' => e = .returned (.tuple #[.int .i64 (Pl.onesV s v), .bool (Pl.okv s v)]) ∧ w' = w := by
  cases h1 : Pl.okv s v
  · have K : Hid (Pl.onesV s v = 0) := hide (by simp [Pl.onesV, h1])
    go_enter Try.func29, Try.ntmps29
    go_wp2_with fail
    refine (l1Value _ _ _).mono ?_
    rintro e w' ⟨rfl, rfl⟩
    go_wp2_with fail
    go_ret2
    exact ⟨rIB K.out.symm rfl, rfl⟩
  · have K : Hid (Pl.onesV s v = Pl.pop 16 v) := hide (by simp [Pl.onesV, h1])
    have hv : 0 ≤ v ∧ v < 65536 := by have := Pl.top_ok h1; omega
    obtain ⟨v0, v1⟩ := hv
    go_enter Try.func29, Try.ntmps29
    go_wp2_with fail
    refine (l1Value _ _ _).mono ?_
    rintro e w' ⟨rfl, rfl⟩
    go_wp2_with fail
    go_loop [1, 6] (fun V N => ∃ u a : Int, V = .int .i64 u ∧ N = .int .i64 a ∧ 0 ≤ u ∧ u < 65536 ∧ 0 ≤ a ∧ a ≤ 16 ∧ a + Pl.pop 16 u = Pl.pop 16 v) (fun V _ => (intOf V).toNat)
    case atStart => exact ⟨v, 0, rfl, rfl, v0, v1, by omega, by omega, by omega⟩
    case round =>
      obtain ⟨u, a, rfl, rfl, u0, u1, a0, a1, he⟩ := hrel
      have hA := Pl.and1 u
      have hp := Pl.pop_bd 16 v
      by_cases hu : 0 < u
      · have hs := Pl.pop_step u0 u1
        have hq := Pl.pop_bd 16 (u / 2)
        have HE : Hid (a + u % 2 + Pl.pop 16 (u / 2) = Pl.pop 16 v) := hide (by omega)
        clear he hs
        go_wp2_with fail
        go_round
        case rel => exact ⟨u / 2, a + u % 2, rfl, rfl, by omega, by omega, by omega, by have := HE.out; omega, HE.out⟩
        case measure => simp [intOf]; omega
      · obtain rfl : u = 0 := by omega
        rw [Pl.pop_zero, Int.add_zero] at he
        have HE := hide he
        clear he
        go_wp2_with fail
        go_ret2
        exact ⟨rIB (HE.out.trans K.out.symm) rfl, rfl⟩

theorem specReverseBits (s v : Int) (w : World) : Calls Try.prog 28 #[.int .i64 s, .int .i64 v] w fun e w' => e = .returned (.tuple #[.int .i64 (Pl.revV s v), .bool (Pl.okv s v)]) ∧ w' = w := by
  cases h1 : Pl.okv s v
  · have K : Hid (Pl.revV s v = 0) := hide (by simp [Pl.revV, h1])
    go_enter Try.func28, Try.ntmps28
    go_wp2_with fail
    refine (l1Value _ _ _).mono ?_
    rintro e w' ⟨rfl, rfl⟩
    go_wp2_with fail
    go_ret2
    exact ⟨rIB K.out.symm rfl, rfl⟩
  · have K : Hid (Pl.revV s v = Pl.rv (8 * s).toNat v) := hide (by simp [Pl.revV, h1])
    have hv : 0 ≤ v ∧ v < 65536 ∧ (s = 1 ∨ s = 2) := by have := Pl.top_ok h1; omega
    obtain ⟨v0, v1, hs⟩ := hv
    obtain ⟨N, hN, hN2⟩ : ∃ N : Nat, 8 * s = (N : Int) ∧ N ≤ 16 := ⟨(8 * s).toNat, by omega, by omega⟩
    go_enter Try.func28, Try.ntmps28
    go_wp2_with fail
    refine (l1Value _ _ _).mono ?_
    rintro e w' ⟨rfl, rfl⟩
    go_wp2_with fail
    go_loop [6, 7] (fun O J => ∃ m : Nat, m ≤ N ∧ O = .int .i64 (Pl.rv m v) ∧ J = .int .i64 m) (fun _ J => N - (intOf J).toNat)
    case atStart => exact ⟨0, Nat.zero_le _, rfl, rfl⟩
    case round =>
      obtain ⟨m, hm, rfl, rfl⟩ := hrel
      by_cases hlt : m < N
      · have hb := Pl.rv_bd m v
        have hp : (2 : Int) ^ m ≤ 32768 := by
          have : m = 0 ∨ m = 1 ∨ m = 2 ∨ m = 3 ∨ m = 4 ∨ m = 5 ∨ m = 6 ∨ m = 7 ∨ m = 8 ∨ m = 9 ∨ m = 10 ∨ m = 11 ∨ m = 12 ∨ m = 13 ∨ m = 14 ∨ m = 15 := by omega
          rcases this with rfl | rfl | rfl | rfl | rfl | rfl | rfl | rfl | rfl | rfl | rfl | rfl | rfl | rfl | rfl | rfl <;> decide
        obtain ⟨b0, b1⟩ := hb
        have b2 : Pl.rv m v < 32768 := by omega
        have hA := Pl.and1 (v / 2 ^ m)
        have hO := Pl.or_low (a := Pl.rv m v * 2) (q := v / 2 ^ m % 2) (by omega) (by omega) (by omega) (by omega) (by omega)
        clear b1
        go_wp2_with fail
        go_round
        case rel => exact ⟨m + 1, by omega, rfl, by go_num⟩
        case measure => simp [intOf]; omega
      · obtain rfl : m = N := by omega
        go_wp2_with fail
        go_ret2
        exact ⟨rIB (by rw [K.out, hN]; rfl) rfl, rfl⟩

end Go.Proofs.Ytlagdbajdehanaa
