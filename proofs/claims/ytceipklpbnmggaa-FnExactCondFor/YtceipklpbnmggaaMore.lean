/- What CmpFlags, LogicFlags, ExtendWord and SwapBytes of chapter 1, and their models, answer for every argument: one contract a function; none changes the world. -/
import Derived.Test.YtceipklpbnmggaaSpec
namespace Go.Proofs.Ytceipklpbnmggaa
open Go.RowKit
set_option linter.unusedVariables false

theorem cmpFlags (s f a b : Int) (w : World) (la : -9223372036854775808 ≤ a) (ha : a ≤ 9223372036854775807) (lb : -9223372036854775808 ≤ b) (hb : b ≤ 9223372036854775807) :
    Calls Try.prog 44 #[.int .i64 s, .int .i64 f, .int .i64 a, .int .i64 b] w fun e w' => e = .returned (.tuple #[.int .i64 (Pl.cmpF s f a b), .bool (Pl.two s 0 a b && Pl.flags f)]) ∧ w' = w := by
  cases k : Pl.two s 0 a b
  · have HV : Hid (Pl.cmpF s f a b = 0) := hide (by simp [Pl.cmpF, k])
    go_enter Try.func44, Try.ntmps44
    go_wp2_with fail
    refine (subFlags s 0 a b _ la ha lb hb).mono ?_
    rintro e w' ⟨rfl, rfl⟩
    go_wp2_with fail
    go_ret2
    exact ⟨rIB HV.out.symm rfl, rfl⟩
  · cases kf : Pl.flags f
    · have HV : Hid (Pl.cmpF s f a b = 0) := hide (by simp [Pl.cmpF, kf])
      go_enter Try.func44, Try.ntmps44
      go_wp2_with fail
      refine (subFlags s 0 a b _ la ha lb hb).mono ?_
      rintro e w' ⟨rfl, rfl⟩
      go_wp2_with fail
      refine (isFlags f _).mono ?_
      rintro e w' ⟨rfl, rfl⟩
      go_wp2_with fail
      go_ret2
      exact ⟨rIB HV.out.symm rfl, rfl⟩
    · have HV : Hid (Pl.cmpF s f a b = bits .or .i64 (bits .andNot .i64 (Pl.subF s 0 a b) 16) (bits .and .i64 f 16)) := hide (by simp only [Pl.cmpF, k, kf, Bool.and_self, if_true, Pl.andNot16 _ (Pl.subF_bd s 0 a b).1 (Pl.subF_bd s 0 a b).2])
      go_enter Try.func44, Try.ntmps44
      go_wp2_with fail
      refine (subFlags s 0 a b _ la ha lb hb).mono ?_
      rintro e w' ⟨rfl, rfl⟩
      go_wp2_with fail
      refine (isFlags f _).mono ?_
      rintro e w' ⟨rfl, rfl⟩
      go_wp2_with fail
      go_ret2
      exact ⟨rIB HV.out.symm rfl, rfl⟩

theorem l1Flags (f : Int) (w : World) :
    Calls Try.prog 35 #[.int .i64 f] w fun e w' => e = .returned (.bool (Pl.flags f)) ∧ w' = w := by
  go_enter Try.func35, Try.ntmps35
  go_wp2_with fail
  refine (l1In f 0 31 _).mono ?_
  rintro e w' ⟨rfl, rfl⟩
  go_wp2_with fail
  go_ret
  exact ⟨rfl, rfl⟩

theorem l1SubOk (s x a b : Int) (w : World) (h : Pl.two s x a b = true) :
    Calls Try.prog 59 #[.int .i64 s, .int .i64 x, .int .i64 a, .int .i64 b] w fun e w' => e = .returned (.tuple #[.int .i64 (Pl.subV s x a b), .int .i64 (Pl.subF s x a b)]) ∧ w' = w := by
  have HV : Pl.subV s x a b = (a - b - x) % Pl.top s := by simp [Pl.subV, h]
  have HF : Pl.subF s x a b = Pl.keptF s (a - b - x) (Pl.sg s a - Pl.sg s b - x) := by simp [Pl.subF, h]
  rw [HV, HF]
  obtain ⟨ka, kb, kx⟩ := Pl.two_ok h
  obtain ⟨hs, a0, a1⟩ := Pl.top_ok ka
  obtain ⟨_, b0, b1⟩ := Pl.top_ok kb
  obtain ⟨x0, x1⟩ := Pl.bit_ok kx
  rcases hs with ⟨rfl, _⟩ | ⟨rfl, _⟩
  · exact l1Sub1 x a b w a0 a1 b0 b1 x0 x1
  · exact l1Sub2 x a b w a0 a1 b0 b1 x0 x1

theorem l1Cmp (s f a b : Int) (w : World) (h : Pl.two s 0 a b = true) :
    Calls Try.prog 46 #[.int .i64 s, .int .i64 f, .int .i64 a, .int .i64 b] w fun e w' => e = .returned (.int .i64 (bits .or .i64 (bits .and .i64 (Pl.subF s 0 a b) 15) (bits .and .i64 f 16))) ∧ w' = w := by
  go_enter Try.func46, Try.ntmps46
  go_wp2_with fail
  refine (l1SubOk s 0 a b _ h).mono ?_
  rintro e w' ⟨rfl, rfl⟩
  go_wp2_with fail
  go_ret
  exact ⟨rfl, rfl⟩

theorem l1ZnOk (s v : Int) (w : World) (h : Pl.okv s v = true) :
    Calls Try.prog 66 #[.int .i64 s, .int .i64 v] w fun e w' => e = .returned (.int .i64 (bits .or .i64 (Pl.fl (v == 0) 4) (Pl.fl (decide (Pl.sg s v < 0)) 8))) ∧ w' = w := by
  obtain ⟨hs, h0, h1⟩ := Pl.top_ok h
  rcases hs with ⟨rfl, _⟩ | ⟨rfl, _⟩
  · rw [← Pl.neg1 h0 h1]; exact l1Zn1 v w
  · rw [← Pl.neg2 h0 h1]; exact l1Zn2 v w

end Go.Proofs.Ytceipklpbnmggaa
