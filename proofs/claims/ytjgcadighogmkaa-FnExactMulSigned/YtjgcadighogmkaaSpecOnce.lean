/- What the model's one place answers, for each kind and size: one contract each; none changes the world. -/
import Derived.Test.YtjgcadighogmkaaSpecWord
import Derived.Test.YtjgcadighogmkaaShf
namespace Go.Proofs.Ytjgcadighogmkaa
open Go.RowKit
set_option linter.unusedVariables false
set_option linter.unusedSimpArgs false

theorem Pl.and16 {f : Int} (h0 : 0 ≤ f) (h1 : f ≤ 31) : bits .and .i64 f 16 = f / 16 * 16 := by
  obtain ⟨n, rfl⟩ := Int.eq_ofNat_of_zero_le h0
  have hn : n < 32 := by omega
  have : ∀ m : Nat, m < 32 → bits .and .i64 (m : Int) 16 = (m : Int) / 16 * 16 := by decide
  exact this n hn
theorem Pl.or_low {a q : Int} (h0 : 0 ≤ a) (h1 : a < 65536) (h2 : a % 2 = 0) (q0 : 0 ≤ q) (q1 : q ≤ 1) : bits .or .i64 a q = a + q :=
  bits_join .i64 62 (by decide) wraps_i64 1 a q (by omega) (by omega) (by omega) (by omega) (by omega) (by omega)
theorem Pl.or_high1 {a q : Int} (h0 : 0 ≤ a) (h1 : a < 128) (q0 : 0 ≤ q) (q1 : q ≤ 1) : bits .or .i64 a (q * 128) = a + q * 128 := by
  rw [Pl.or_comm, bits_join .i64 62 (by decide) wraps_i64 7 (q * 128) a (by omega) (by omega) (by omega) (by omega) (by omega) (by omega)]; omega
theorem Pl.or_high2 {a q : Int} (h0 : 0 ≤ a) (h1 : a < 32768) (q0 : 0 ≤ q) (q1 : q ≤ 1) : bits .or .i64 a (q * 32768) = a + q * 32768 := by
  rw [Pl.or_comm, bits_join .i64 62 (by decide) wraps_i64 15 (q * 32768) a (by omega) (by omega) (by omega) (by omega) (by omega) (by omega)]; omega
theorem Pl.or_flags {c o x : Int} {z n : Bool} (hc : c = 0 ∨ c = 1) (ho : o = 0 ∨ o = 2) (hx : x = 0 ∨ x = 16) :
    bits .or .i64 (bits .or .i64 (bits .or .i64 c (bits .or .i64 (Pl.fl z 4) (Pl.fl n 8))) o) x = c + o + (Pl.fl z 4 + Pl.fl n 8) + x := by
  rcases hc with rfl | rfl <;> rcases ho with rfl | rfl <;> rcases hx with rfl | rfl <;> cases z <;> cases n <;> decide
theorem Pl.fl_two (b : Bool) : Pl.fl b 2 = 0 ∨ Pl.fl b 2 = 2 := by cases b <;> simp [Pl.fl]

theorem l1FlagH1 (v : Int) (w : World) : Calls Try.prog 60 #[.bool (decide (128 ≤ v)), .int .i64 1] w fun e w' => e = .returned (.int .i64 (Pl.hi 1 v)) ∧ w' = w := by
  have e : Pl.hi 1 v = Pl.fl (decide (128 ≤ v)) 1 := by simp [Pl.hi, Pl.fl, Pl.top]
  rw [e]; exact l1Flag _ 1 w
theorem l1FlagH2 (v : Int) (w : World) : Calls Try.prog 60 #[.bool (decide (32768 ≤ v)), .int .i64 1] w fun e w' => e = .returned (.int .i64 (Pl.hi 2 v)) ∧ w' = w := by
  have e : Pl.hi 2 v = Pl.fl (decide (32768 ≤ v)) 1 := by simp [Pl.hi, Pl.fl, Pl.top]
  rw [e]; exact l1Flag _ 1 w
theorem l1FlagX (f : Int) (f0 : 0 ≤ f) (f1 : f ≤ 31) (w : World) : Calls Try.prog 60 #[.bool (f / 16 * 16 != 0), .int .i64 1] w fun e w' => e = .returned (.int .i64 (f / 16)) ∧ w' = w := by
  refine (l1Flag _ 1 w).mono ?_
  rintro e w' ⟨rfl, rfl⟩
  refine ⟨rI ?_, rfl⟩
  obtain h | h : f / 16 = 0 ∨ f / 16 = 1 := by omega
  all_goals rw [h]; decide

end Go.Proofs.Ytjgcadighogmkaa
