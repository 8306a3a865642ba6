/- What AddFlags, SubFlags and NegFlags of chapter 1, and their models, answer for every argument: one contract a function; none changes the world. -/
import Derived.Test.YtceipklpbnmggaaSums
namespace Go.Proofs.Ytceipklpbnmggaa
open Go.RowKit
set_option linter.unusedVariables false

/-! ### the program's own -/

theorem subFlags (s x a b : Int) (w : World) (la : -9223372036854775808 ≤ a) (ha : a ≤ 9223372036854775807) (lb : -9223372036854775808 ≤ b) (hb : b ≤ 9223372036854775807) :
    Calls Try.prog 57 #[.int .i64 s, .int .i64 x, .int .i64 a, .int .i64 b] w fun e w' => e = .returned (.tuple #[.int .i64 (Pl.subV s x a b), .int .i64 (Pl.subF s x a b), .bool (Pl.two s x a b)]) ∧ w' = w := by
  cases k : Pl.two s x a b
  · have HV : Hid (Pl.subV s x a b = 0) := hide (by simp [Pl.subV, k])
    have HF : Hid (Pl.subF s x a b = 0) := hide (by simp [Pl.subF, k])
    have k' : Pl.okv s a = false ∨ Pl.okv s b = false ∨ (Pl.okv s a = true ∧ Pl.okv s b = true ∧ Pl.bit x = false) := by
      revert k
      unfold Pl.two
      cases Pl.okv s a <;> cases Pl.okv s b <;> cases Pl.bit x <;> simp
    clear k
    rcases k' with ka | kb | ⟨ka, kb, kx⟩
    · go_enter Try.func57, Try.ntmps57
      go_wp2_with fail
      refine (signedPair s a b _ la ha lb hb).mono ?_
      rintro e w' ⟨rfl, rfl⟩
      go_wp2_with fail
      go_ret3
      exact ⟨rIIB HV.out.symm HF.out.symm rfl, rfl⟩
    · have kab : (Pl.okv s a && Pl.okv s b) = false := by rw [kb]; simp
      go_enter Try.func57, Try.ntmps57
      go_wp2_with fail
      refine (signedPair s a b _ la ha lb hb).mono ?_
      rintro e w' ⟨rfl, rfl⟩
      go_wp2_with fail
      go_ret3
      exact ⟨rIIB HV.out.symm HF.out.symm rfl, rfl⟩
    · go_enter Try.func57, Try.ntmps57
      go_wp2_with fail
      refine (signedPair s a b _ la ha lb hb).mono ?_
      rintro e w' ⟨rfl, rfl⟩
      go_wp2_with fail
      refine (isBit x _).mono ?_
      rintro e w' ⟨rfl, rfl⟩
      go_wp2_with fail
      go_ret3
      exact ⟨rIIB HV.out.symm HF.out.symm rfl, rfl⟩
  · have HV : Hid (Pl.subV s x a b = (a - b - x) % Pl.top s) := hide (by simp [Pl.subV, k])
    have HF : Hid (Pl.subF s x a b = Pl.keptF s (a - b - x) (Pl.sg s a - Pl.sg s b - x)) := hide (by simp [Pl.subF, k])
    obtain ⟨ka, kb, kx⟩ := Pl.two_ok k
    have ea := Pl.sgnV_ok ka
    have eb := Pl.sgnV_ok kb
    obtain ⟨hs, a0, a1⟩ := Pl.top_ok ka
    obtain ⟨_, b0, b1⟩ := Pl.top_ok kb
    obtain ⟨x0, x1⟩ := Pl.bit_ok kx
    have sa : -32768 ≤ Pl.sg s a ∧ Pl.sg s a ≤ 32767 := by
      rcases hs with ⟨rfl, _⟩ | ⟨rfl, _⟩
      · have := Pl.sg_bd1 a0 a1; omega
      · exact Pl.sg_bd2 a0 a1
    have sb : -32768 ≤ Pl.sg s b ∧ Pl.sg s b ≤ 32767 := by
      rcases hs with ⟨rfl, _⟩ | ⟨rfl, _⟩
      · have := Pl.sg_bd1 b0 b1; omega
      · exact Pl.sg_bd2 b0 b1
    obtain ⟨sa0, sa1⟩ := sa
    obtain ⟨sb0, sb1⟩ := sb
    have a2 : a < 65536 := by omega
    have b2 : b < 65536 := by omega
    have hs2 : s = 1 ∨ s = 2 := by omega
    clear k hs a1 b1
    go_enter Try.func57, Try.ntmps57
    go_wp2_with fail
    refine (signedPair s a b _ la ha lb hb).mono ?_
    rintro e w' ⟨rfl, rfl⟩
    go_wp2_with fail
    refine (isBit x _).mono ?_
    rintro e w' ⟨rfl, rfl⟩
    go_wp2_with fail
    refine (wrapSumOf s _ _ _ hs2).mono ?_
    rintro e w' ⟨rfl, rfl⟩
    go_wp2_with fail
    go_ret3
    exact ⟨rIIB HV.out.symm HF.out.symm rfl, rfl⟩

/-! ### the model's -/

theorem l1Value (s v : Int) (w : World) :
    Calls Try.prog 58 #[.int .i64 s, .int .i64 v] w fun e w' => e = .returned (.bool (Pl.okv s v)) ∧ w' = w := by
  by_cases h1 : s = 1
  · subst h1
    go_enter Try.func58, Try.ntmps58
    go_wp2_with fail
    refine (l1Size1 _).mono ?_
    rintro e w' ⟨rfl, rfl⟩
    go_wp2_with fail
    refine (l1Top1 _).mono ?_
    rintro e w' ⟨rfl, rfl⟩
    go_wp2_with fail
    refine (l1In _ _ _ _).mono ?_
    rintro e w' ⟨rfl, rfl⟩
    go_wp2_with fail
    go_ret
    exact ⟨rB (by rw [Bool.eq_iff_iff]; simp [Pl.okv, Pl.top]; omega), rfl⟩
  · by_cases h2 : s = 2
    · subst h2
      go_enter Try.func58, Try.ntmps58
      go_wp2_with fail
      refine (l1Size2 _).mono ?_
      rintro e w' ⟨rfl, rfl⟩
      go_wp2_with fail
      refine (l1Top2 _).mono ?_
      rintro e w' ⟨rfl, rfl⟩
      go_wp2_with fail
      refine (l1In _ _ _ _).mono ?_
      rintro e w' ⟨rfl, rfl⟩
      go_wp2_with fail
      go_ret
      exact ⟨rB (by rw [Bool.eq_iff_iff]; simp [Pl.okv, Pl.top]; omega), rfl⟩
    · go_enter Try.func58, Try.ntmps58
      go_wp2_with fail
      refine (l1Size_no s _ h1 h2).mono ?_
      rintro e w' ⟨rfl, rfl⟩
      go_wp2_with fail
      go_ret
      exact ⟨rB (by simp [Pl.okv, h1, h2]), rfl⟩

theorem l1Signed1 (v : Int) (w : World) (h0 : 0 ≤ v) (h1 : v < 256) :
    Calls Try.prog 65 #[.int .i64 1, .int .i64 v] w fun e w' => e = .returned (.int .i64 (Pl.sg 1 v)) ∧ w' = w := by
  by_cases h : 128 ≤ v
  · go_enter Try.func65, Try.ntmps65
    go_wp2_with fail
    refine (l1Top1 _).mono ?_
    rintro e w' ⟨rfl, rfl⟩
    go_wp2_with fail
    refine (l1Top1 _).mono ?_
    rintro e w' ⟨rfl, rfl⟩
    go_wp2_with fail
    go_ret
    exact ⟨rI (by simp [Pl.sg, Pl.top]; omega), rfl⟩
  · go_enter Try.func65, Try.ntmps65
    go_wp2_with fail
    refine (l1Top1 _).mono ?_
    rintro e w' ⟨rfl, rfl⟩
    go_wp2_with fail
    go_ret
    exact ⟨rI (by simp [Pl.sg, Pl.top]; omega), rfl⟩

theorem l1Signed2 (v : Int) (w : World) (h0 : 0 ≤ v) (h1 : v < 65536) :
    Calls Try.prog 65 #[.int .i64 2, .int .i64 v] w fun e w' => e = .returned (.int .i64 (Pl.sg 2 v)) ∧ w' = w := by
  by_cases h : 32768 ≤ v
  · go_enter Try.func65, Try.ntmps65
    go_wp2_with fail
    refine (l1Top2 _).mono ?_
    rintro e w' ⟨rfl, rfl⟩
    go_wp2_with fail
    refine (l1Top2 _).mono ?_
    rintro e w' ⟨rfl, rfl⟩
    go_wp2_with fail
    go_ret
    exact ⟨rI (by simp [Pl.sg, Pl.top]; omega), rfl⟩
  · go_enter Try.func65, Try.ntmps65
    go_wp2_with fail
    refine (l1Top2 _).mono ?_
    rintro e w' ⟨rfl, rfl⟩
    go_wp2_with fail
    go_ret
    exact ⟨rI (by simp [Pl.sg, Pl.top]; omega), rfl⟩

theorem l1SignedOk (s v : Int) (w : World) (h : Pl.okv s v = true) :
    Calls Try.prog 65 #[.int .i64 s, .int .i64 v] w fun e w' => e = .returned (.int .i64 (Pl.sg s v)) ∧ w' = w := by
  obtain ⟨hs, h0, h1⟩ := Pl.top_ok h
  rcases hs with ⟨rfl, _⟩ | ⟨rfl, _⟩
  · exact l1Signed1 v w h0 h1
  · exact l1Signed2 v w h0 h1

end Go.Proofs.Ytceipklpbnmggaa
