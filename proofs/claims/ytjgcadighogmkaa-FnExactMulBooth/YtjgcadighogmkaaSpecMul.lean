/- What the model's products answer. -/
import Derived.Test.YtjgcadighogmkaaDivPl
import Derived.Test.YtjgcadighogmkaaSgn
import Derived.Test.YtjgcadighogmkaaFrame
import Derived.Deep.AppendLies
namespace Go.Proofs.Ytjgcadighogmkaa
open Go.RowKit
set_option linter.unusedVariables false
theorem l6WordM (v : Int) (w : World) : Calls Try.prog 40 #[.int .i64 v] w fun e w' => e = .returned (.bool (Pl.wOk v)) ∧ w' = w := by
  go_enter Try.func40, Try.ntmps40
  go_wp2_with (go_at_call 56; refine (l1In _ _ _ _).mono ?_; rintro e9 w9 ⟨rfl, hw⟩; have hw2 := hw.symm; clear hw; subst hw2)
  go_ret
  exact ⟨rfl, rfl⟩
def Pl.ok2 (a b : Int) : Bool := Pl.wOk a && Pl.wOk b
def Pl.mulH (a b : Int) : Int := if Pl.ok2 a b = true then a * b / 65536 else 0
def Pl.mulL (a b : Int) : Int := if Pl.ok2 a b = true then a * b % 65536 else 0
def Pl.smH (a b : Int) : Int := if Pl.ok2 a b = true then Pl.hiW (Pl.sg 2 a * Pl.sg 2 b) else 0
def Pl.smL (a b : Int) : Int := if Pl.ok2 a b = true then Pl.loW (Pl.sg 2 a * Pl.sg 2 b) else 0
theorem mul_bd {a b : Int} (a0 : 0 ≤ a) (a1 : a ≤ 65535) (b0 : 0 ≤ b) (b1 : b ≤ 65535) : 0 ≤ a * b ∧ a * b ≤ 4294836225 := by
  refine ⟨Int.mul_nonneg a0 b0, ?_⟩
  have := Int.mul_le_mul a1 b1 b0 (by omega : (0 : Int) ≤ 65535)
  omega
theorem smul_bd {a b : Int} (a0 : -32768 ≤ a) (a1 : a ≤ 32767) (b0 : -65536 ≤ b) (b1 : b ≤ 65536) : -2147483648 ≤ a * b ∧ a * b ≤ 2147483648 := by
  have h1 : a.natAbs ≤ 32768 := by omega
  have h2 : b.natAbs ≤ 65536 := by omega
  have h3 : (a * b).natAbs ≤ 32768 * 65536 := by rw [Int.natAbs_mul]; exact Nat.mul_le_mul h1 h2
  omega
theorem specMulWords (a b : Int) (w : World) : Calls Try.prog 18 #[.int .i64 a, .int .i64 b] w fun e w' => e = .returned (.tuple #[.int .i64 (Pl.mulH a b), .int .i64 (Pl.mulL a b), .bool (Pl.ok2 a b)]) ∧ w' = w := by
  unfold Pl.mulH Pl.mulL Pl.ok2
  cases ha : Pl.wOk a
  · go_enter Try.func18, Try.ntmps18
    go_wp2_with (go_at_call 40; refine (l6WordM _ _).mono ?_; rintro e9 w9 ⟨rfl, hw⟩; have hw2 := hw.symm; clear hw; subst hw2; rw [ha])
    go_ret3
    exact ⟨rfl, rfl⟩
  · cases hb : Pl.wOk b
    · go_enter Try.func18, Try.ntmps18
      go_wp2_with (first | (go_at_call 40; have z9 := Z1; refine (l6WordM b _).mono ?_; rintro e9 w9 ⟨rfl, hw⟩; have hw2 := hw.symm; clear hw; subst hw2; rw [hb]) | (go_at_call 40; refine (l6WordM a _).mono ?_; rintro e9 w9 ⟨rfl, hw⟩; have hw2 := hw.symm; clear hw; subst hw2; rw [ha]; have Z1 : True := trivial))
      go_ret3
      exact ⟨rfl, rfl⟩
    · obtain ⟨a0, a1⟩ := Pl.wOk_ok ha
      obtain ⟨b0, b1⟩ := Pl.wOk_ok hb
      obtain ⟨m0, m1⟩ := mul_bd a0 a1 b0 b1
      obtain ⟨P, hP⟩ : ∃ P, a * b = P := ⟨_, rfl⟩
      rw [hP] at m0 m1 ⊢
      have hL := Pl.and65535 P
      go_enter Try.func18, Try.ntmps18
      go_wp2_with (first | (go_at_call 40; have z9 := Z1; refine (l6WordM b _).mono ?_; rintro e9 w9 ⟨rfl, hw⟩; have hw2 := hw.symm; clear hw; subst hw2; rw [hb]) | (go_at_call 40; refine (l6WordM a _).mono ?_; rintro e9 w9 ⟨rfl, hw⟩; have hw2 := hw.symm; clear hw; subst hw2; rw [ha]; have Z1 : True := trivial))
      go_ret3
      exact ⟨rfl, rfl⟩
end Go.Proofs.Ytjgcadighogmkaa
