/- What the models of chapter 3's shifts answer for every argument: one contract a function; none changes the world. What the program's test of a value of a size answers: one contract a function; none changes the world. What the small functions of chapter 1 and of its model answer, for every argument: one contract a function; none changes the world. What the sums and differences of chapter 1, and of its model, answer for every argument: one contract a function; none changes the world. What AddFlags, SubFlags and NegFlags of chapter 1, and their models, answer for every argument: one contract a function; none changes the world. What the models of AddFlags, SubFlags and NegFlags answer for every argument: one contract a function; none changes the world. What CmpFlags, LogicFlags, ExtendWord and SwapBytes of chapter 1, and their models, answer for every argument: one contract a function; none changes the world. What the model's small functions on operations and notes answer. What the model's functions on notes answer. What the model makes of a note: the flags that are meant; FlagsOf, CondOf, CarryOf, NoteFlagOp. What the program's small functions on operations answer, whether a note is good, a note with an operation more. A call that only draws from the tape: what it leaves, in the two forms that a law's frame asks for. A row of bits (the program's struct of five fields), laid in a block of its own: what it holds, and what later worlds leave of it. What the program's moves by one place answer, for each kind and size: one contract a method; each makes new blocks and changes none that was there. -/
import Derived.Test.YtnmddmmmgdfknaaEJ1
import Derived.Deep.AppendLies
import Derived.Below
import Derived.Laws.Rows
import Derived.Laws.ResultCell
import Derived.RegionTactic
import Derived.ChangeAlike
import Derived.BigRegion
import Derived.Deep.RegionWith
namespace Go.Proofs.Ytnmddmmmgdfknaa
open Go.RowKit
set_option linter.unusedVariables false

theorem rBB {a b c d : Bool} (h : a = b) (k : c = d) : Ending.returned (.tuple #[.bool a, .bool c]) = .returned (.tuple #[.bool b, .bool d]) := by rw [h, k]
/-- one place, of whatever kind and size -/
theorem l3Once (k s f v : Int) (w : World) (k0 : 0 ≤ k) (k1 : k ≤ 7) (f0 : 0 ≤ f) (f1 : f ≤ 31) (h : Pl.Fit s (v, f / 16)) :
    Calls Try.prog 61 #[iv k, iv s, iv f, iv v] w fun e w' => e = .returned (.tuple #[iv (Pl.nv k s (f / 16) v), iv (Pl.onF k s (f / 16) v)]) ∧ w' = w := by
  obtain ⟨hs, v0, v1, _, _⟩ := h
  simp only at v0 v1
  have hk : k = 0 ∨ k = 1 ∨ k = 2 ∨ k = 3 ∨ k = 4 ∨ k = 5 ∨ k = 6 ∨ k = 7 := by omega
  rcases Pl.top12 hs with ⟨rfl, e⟩ | ⟨rfl, e⟩
  · rw [e] at v1
    rcases hk with rfl | rfl | rfl | rfl | rfl | rfl | rfl | rfl
    · exact l3Once01 f v w f0 f1 v0 v1
    · exact l3Once11 f v w f0 f1 v0 v1
    · exact l3Once21 f v w f0 f1 v0 v1
    · exact l3Once31 f v w f0 f1 v0 v1
    · exact l3Once41 f v w f0 f1 v0 v1
    · exact l3Once51 f v w f0 f1 v0 v1
    · exact l3Once61 f v w f0 f1 v0 v1
    · exact l3Once71 f v w f0 f1 v0 v1
  · rw [e] at v1
    rcases hk with rfl | rfl | rfl | rfl | rfl | rfl | rfl | rfl
    · exact l3Once02 f v w f0 f1 v0 v1
    · exact l3Once12 f v w f0 f1 v0 v1
    · exact l3Once22 f v w f0 f1 v0 v1
    · exact l3Once32 f v w f0 f1 v0 v1
    · exact l3Once42 f v w f0 f1 v0 v1
    · exact l3Once52 f v w f0 f1 v0 v1
    · exact l3Once62 f v w f0 f1 v0 v1
    · exact l3Once72 f v w f0 f1 v0 v1

end Go.Proofs.Ytnmddmmmgdfknaa

namespace Go.Proofs.Ytnmddmmmgdfknaa
open Go.RowKit
set_option linter.unusedVariables false

theorem signedAs8 (v : Int) (w : World) (lo : -9223372036854775808 ≤ v) (hi : v ≤ 9223372036854775807) :
    Calls Try.prog 59 #[iv v] w fun e w' => e = .returned (.tuple #[iv (Pl.sgnV 1 v), .bool (Pl.okv 1 v)]) ∧ w' = w := by
  by_cases h : 0 ≤ v ∧ v < 256
  · obtain ⟨h0, h1⟩ := h
    have hs : IntKind.u8.signed = false := rfl
    have hm : IntKind.u8.max = 255 := by decide
    have hb : bits .xor .u8 255 0 = 255 := by decide
    by_cases h : 127 < v
    all_goals
      go_enter Try.func59, Try.ntmps59
      go_wp2
      go_ret2
      exact ⟨rIB (by simp [Pl.sgnV, Pl.okv, Pl.sg, Pl.top, h0, h1]; omega) (by simp [Pl.okv, Pl.top, h0, h1]), rfl⟩
  · go_enter Try.func59, Try.ntmps59
    go_wp2
    go_ret2
    have k : Pl.okv 1 v = false := by
      cases c : Pl.okv 1 v
      · rfl
      · have := Pl.top_ok c; omega
    exact ⟨rIB (by simp [Pl.sgnV, k]) k.symm, rfl⟩

theorem signedAs16 (v : Int) (w : World) (lo : -9223372036854775808 ≤ v) (hi : v ≤ 9223372036854775807) :
    Calls Try.prog 60 #[iv v] w fun e w' => e = .returned (.tuple #[iv (Pl.sgnV 2 v), .bool (Pl.okv 2 v)]) ∧ w' = w := by
  by_cases h : 0 ≤ v ∧ v < 65536
  · obtain ⟨h0, h1⟩ := h
    have hs : IntKind.u16.signed = false := rfl
    have hm : IntKind.u16.max = 65535 := by decide
    have hb : bits .xor .u16 65535 0 = 65535 := by decide
    by_cases h : 32767 < v
    all_goals
      go_enter Try.func60, Try.ntmps60
      go_wp2
      go_ret2
      exact ⟨rIB (by simp [Pl.sgnV, Pl.okv, Pl.sg, Pl.top, h0, h1]; omega) (by simp [Pl.okv, Pl.top, h0, h1]), rfl⟩
  · have hw : IntKind.u16.wrap v = v % 65536 := IntKind.wrap_u16 v
    go_enter Try.func60, Try.ntmps60
    go_wp2
    go_ret2
    have k : Pl.okv 2 v = false := by
      cases c : Pl.okv 2 v
      · rfl
      · have := Pl.top_ok c; omega
    exact ⟨rIB (by simp [Pl.sgnV, k]) k.symm, rfl⟩

theorem signedOf (s v : Int) (w : World) (lo : -9223372036854775808 ≤ v) (hi : v ≤ 9223372036854775807) :
    Calls Try.prog 18 #[iv s, iv v] w fun e w' => e = .returned (.tuple #[iv (Pl.sgnV s v), .bool (Pl.okv s v)]) ∧ w' = w := by
  by_cases h1 : s = 1
  · subst h1
    go_enter Try.func18, Try.ntmps18
    go_wp2_with fail
    refine (signedAs8 v _ lo hi).mono ?_
    rintro e w' ⟨rfl, rfl⟩
    go_wp2_with fail
    go_ret2
    exact ⟨rfl, rfl⟩
  · by_cases h2 : s = 2
    · subst h2
      go_enter Try.func18, Try.ntmps18
      go_wp2_with fail
      refine (signedAs16 v _ lo hi).mono ?_
      rintro e w' ⟨rfl, rfl⟩
      go_wp2_with fail
      go_ret2
      exact ⟨rfl, rfl⟩
    · have k : Pl.okv s v = false := by simp [Pl.okv, h1, h2]
      have k1 : (s == 1) = false := by simpa using h1
      have k2 : (s == 2) = false := by simpa using h2
      go_enter Try.func18, Try.ntmps18
      go_wp2_with fail
      go_ret2
      exact ⟨rIB (by simp [Pl.sgnV, k]) k.symm, rfl⟩

end Go.Proofs.Ytnmddmmmgdfknaa

namespace Go.Proofs.Ytnmddmmmgdfknaa
open Go.RowKit
set_option linter.unusedVariables false

/-! ### the program's own -/

theorem flagsIf (b : Bool) (f : Int) (w : World) :
    Calls Try.prog 81 #[.bool b, iv f] w fun e w' => e = .returned (iv (Pl.fl b f)) ∧ w' = w := by
  cases b
  all_goals
    go_enter Try.func81, Try.ntmps81
    go_wp2
    go_ret
    exact ⟨rfl, rfl⟩

theorem isBit (x : Int) (w : World) :
    Calls Try.prog 139 #[iv x] w fun e w' => e = .returned (.bool (Pl.bit x)) ∧ w' = w := by
  by_cases h0 : x = 0
  · subst h0
    go_enter Try.func139, Try.ntmps139
    go_wp2
    go_ret
    exact ⟨rfl, rfl⟩
  · by_cases h1 : x = 1
    · subst h1
      go_enter Try.func139, Try.ntmps139
      go_wp2
      go_ret
      exact ⟨rfl, rfl⟩
    · have k0 : (x == 0) = false := by simpa using h0
      have k1 : (x == 1) = false := by simpa using h1
      go_enter Try.func139, Try.ntmps139
      go_wp2
      go_ret
      exact ⟨rB (by simp [Pl.bit]; omega), rfl⟩

theorem isFlags (x : Int) (w : World) :
    Calls Try.prog 82 #[iv x] w fun e w' => e = .returned (.bool (Pl.flags x)) ∧ w' = w := by
  by_cases h0 : 0 ≤ x
  all_goals
    by_cases h1 : x ≤ 31
    all_goals
      go_enter Try.func82, Try.ntmps82
      go_wp2
      go_ret
      exact ⟨rB (by simp [Pl.flags]; omega), rfl⟩

/-! ### the model's -/

end Go.Proofs.Ytnmddmmmgdfknaa

namespace Go.Proofs.Ytnmddmmmgdfknaa
set_option linter.unusedVariables false

theorem signedPair (s a b : Int) (w : World) (la : -9223372036854775808 ≤ a) (ha : a ≤ 9223372036854775807) (lb : -9223372036854775808 ≤ b) (hb : b ≤ 9223372036854775807) :
    Calls Try.prog 128 #[iv s, iv a, iv b] w fun e w' => e = .returned (.tuple #[iv (Pl.sgnV s a), iv (Pl.sgnV s b), .bool (Pl.okv s a && Pl.okv s b)]) ∧ w' = w := by
  cases ka : Pl.okv s a
  all_goals
    cases kb : Pl.okv s b
    all_goals
      go_enter Try.func128, Try.ntmps128
      go_wp2_with fail
      refine (signedOf s a _ la ha).mono ?_
      rintro e w' ⟨rfl, rfl⟩
      go_wp2_with fail
      refine (signedOf s b _ lb hb).mono ?_
      rintro e w' ⟨rfl, rfl⟩
      go_wp2_with fail
      go_ret3
      exact ⟨rIIB rfl rfl rfl, rfl⟩

theorem wrapSum8 (p q : Int) (w : World) :
    Calls Try.prog 144 #[iv p, iv q] w fun e w' => e = .returned (.tuple #[iv (p % 256), iv (Pl.keptF 1 p q)]) ∧ w' = w := by
  go_enter Try.func144, Try.ntmps144
  go_wp2_with fail
  refine (signedAs8 _ _ (by omega) (by omega)).mono ?_
  rintro e w' ⟨rfl, rfl⟩
  go_wp2_with fail
  refine (flagsIf _ _ _).mono ?_
  rintro e w' ⟨rfl, rfl⟩
  go_wp2_with fail
  refine (flagsIf _ _ _).mono ?_
  rintro e w' ⟨rfl, rfl⟩
  go_wp2_with fail
  refine (flagsIf _ _ _).mono ?_
  rintro e w' ⟨rfl, rfl⟩
  go_wp2_with fail
  refine (flagsIf _ _ _).mono ?_
  rintro e w' ⟨rfl, rfl⟩
  go_wp2_with fail
  go_ret2
  exact ⟨rII rfl (Pl.kept1 p q), rfl⟩

theorem wrapSum16 (p q : Int) (w : World) :
    Calls Try.prog 145 #[iv p, iv q] w fun e w' => e = .returned (.tuple #[iv (p % 65536), iv (Pl.keptF 2 p q)]) ∧ w' = w := by
  have hw : IntKind.u16.wrap p = p % 65536 := IntKind.wrap_u16 p
  go_enter Try.func145, Try.ntmps145
  go_wp2_with fail
  refine (signedAs16 _ _ (by omega) (by omega)).mono ?_
  rintro e w' ⟨rfl, rfl⟩
  go_wp2_with fail
  refine (flagsIf _ _ _).mono ?_
  rintro e w' ⟨rfl, rfl⟩
  go_wp2_with fail
  refine (flagsIf _ _ _).mono ?_
  rintro e w' ⟨rfl, rfl⟩
  go_wp2_with fail
  refine (flagsIf _ _ _).mono ?_
  rintro e w' ⟨rfl, rfl⟩
  go_wp2_with fail
  refine (flagsIf _ _ _).mono ?_
  rintro e w' ⟨rfl, rfl⟩
  go_wp2_with fail
  go_ret2
  exact ⟨rII rfl (Pl.kept2 p q), rfl⟩

theorem wrapSumOf (s p q : Int) (w : World) (hs : s = 1 ∨ s = 2) :
    Calls Try.prog 140 #[iv s, iv p, iv q] w fun e w' => e = .returned (.tuple #[iv (p % Pl.top s), iv (Pl.keptF s p q)]) ∧ w' = w := by
  rcases hs with rfl | rfl
  · go_enter Try.func140, Try.ntmps140
    go_wp2_with fail
    refine (wrapSum8 _ _ _).mono ?_
    rintro e w' ⟨rfl, rfl⟩
    go_wp2_with fail
    go_ret2
    exact ⟨rII rfl rfl, rfl⟩
  · go_enter Try.func140, Try.ntmps140
    go_wp2_with fail
    refine (wrapSum16 _ _ _).mono ?_
    rintro e w' ⟨rfl, rfl⟩
    go_wp2_with fail
    go_ret2
    exact ⟨rII rfl rfl, rfl⟩

end Go.Proofs.Ytnmddmmmgdfknaa

namespace Go.Proofs.Ytnmddmmmgdfknaa
open Go.RowKit
set_option linter.unusedVariables false

/-! ### the program's own -/

theorem addFlags (s x a b : Int) (w : World) (la : -9223372036854775808 ≤ a) (ha : a ≤ 9223372036854775807) (lb : -9223372036854775808 ≤ b) (hb : b ≤ 9223372036854775807) :
    Calls Try.prog 115 #[iv s, iv x, iv a, iv b] w fun e w' => e = .returned (.tuple #[iv (Pl.addV s x a b), iv (Pl.addF s x a b), .bool (Pl.two s x a b)]) ∧ w' = w := by
  cases k : Pl.two s x a b
  · have HV : Hid (Pl.addV s x a b = 0) := hide (by simp [Pl.addV, k])
    have HF : Hid (Pl.addF s x a b = 0) := hide (by simp [Pl.addF, k])
    have k' : Pl.okv s a = false ∨ Pl.okv s b = false ∨ (Pl.okv s a = true ∧ Pl.okv s b = true ∧ Pl.bit x = false) := by
      revert k
      unfold Pl.two
      cases Pl.okv s a <;> cases Pl.okv s b <;> cases Pl.bit x <;> simp
    clear k
    rcases k' with ka | kb | ⟨ka, kb, kx⟩
    · go_enter Try.func115, Try.ntmps115
      go_wp2_with fail
      refine (signedPair s a b _ la ha lb hb).mono ?_
      rintro e w' ⟨rfl, rfl⟩
      go_wp2_with fail
      go_ret3
      exact ⟨rIIB HV.out.symm HF.out.symm rfl, rfl⟩
    · have kab : (Pl.okv s a && Pl.okv s b) = false := by rw [kb]; simp
      go_enter Try.func115, Try.ntmps115
      go_wp2_with fail
      refine (signedPair s a b _ la ha lb hb).mono ?_
      rintro e w' ⟨rfl, rfl⟩
      go_wp2_with fail
      go_ret3
      exact ⟨rIIB HV.out.symm HF.out.symm rfl, rfl⟩
    · go_enter Try.func115, Try.ntmps115
      go_wp2_with fail
      refine (signedPair s a b _ la ha lb hb).mono ?_
      rintro e w' ⟨rfl, rfl⟩
      go_wp2_with fail
      refine (isBit x _).mono ?_
      rintro e w' ⟨rfl, rfl⟩
      go_wp2_with fail
      go_ret3
      exact ⟨rIIB HV.out.symm HF.out.symm rfl, rfl⟩
  · have HV : Hid (Pl.addV s x a b = (a + b + x) % Pl.top s) := hide (by simp [Pl.addV, k])
    have HF : Hid (Pl.addF s x a b = Pl.keptF s (a + b + x) (Pl.sg s a + Pl.sg s b + x)) := hide (by simp [Pl.addF, k])
    obtain ⟨ka, kb, kx⟩ := Pl.two_ok k
    have ea := Pl.sgnV_ok ka
    have eb := Pl.sgnV_ok kb
    obtain ⟨hs, a0, a1⟩ := Pl.top_ok ka
    obtain ⟨_, b0, b1⟩ := Pl.top_ok kb
    obtain ⟨x0, x1⟩ := Pl.bit_ok kx
    have sa : -32768 ≤ Pl.sg s a ∧ Pl.sg s a ≤ 32767 := by
      rcases hs with ⟨rfl, _⟩ | ⟨rfl, _⟩
      · have := Pl.sg_bd1 a0 a1; omega
      · exact Pl.sg_bd2 a0 a1
    have sb : -32768 ≤ Pl.sg s b ∧ Pl.sg s b ≤ 32767 := by
      rcases hs with ⟨rfl, _⟩ | ⟨rfl, _⟩
      · have := Pl.sg_bd1 b0 b1; omega
      · exact Pl.sg_bd2 b0 b1
    obtain ⟨sa0, sa1⟩ := sa
    obtain ⟨sb0, sb1⟩ := sb
    have a2 : a < 65536 := by omega
    have b2 : b < 65536 := by omega
    have hs2 : s = 1 ∨ s = 2 := by omega
    clear k hs a1 b1
    go_enter Try.func115, Try.ntmps115
    go_wp2_with fail
    refine (signedPair s a b _ la ha lb hb).mono ?_
    rintro e w' ⟨rfl, rfl⟩
    go_wp2_with fail
    refine (isBit x _).mono ?_
    rintro e w' ⟨rfl, rfl⟩
    go_wp2_with fail
    refine (wrapSumOf s _ _ _ hs2).mono ?_
    rintro e w' ⟨rfl, rfl⟩
    go_wp2_with fail
    go_ret3
    exact ⟨rIIB HV.out.symm HF.out.symm rfl, rfl⟩

theorem subFlags (s x a b : Int) (w : World) (la : -9223372036854775808 ≤ a) (ha : a ≤ 9223372036854775807) (lb : -9223372036854775808 ≤ b) (hb : b ≤ 9223372036854775807) :
    Calls Try.prog 117 #[iv s, iv x, iv a, iv b] w fun e w' => e = .returned (.tuple #[iv (Pl.subV s x a b), iv (Pl.subF s x a b), .bool (Pl.two s x a b)]) ∧ w' = w := by
  cases k : Pl.two s x a b
  · have HV : Hid (Pl.subV s x a b = 0) := hide (by simp [Pl.subV, k])
    have HF : Hid (Pl.subF s x a b = 0) := hide (by simp [Pl.subF, k])
    have k' : Pl.okv s a = false ∨ Pl.okv s b = false ∨ (Pl.okv s a = true ∧ Pl.okv s b = true ∧ Pl.bit x = false) := by
      revert k
      unfold Pl.two
      cases Pl.okv s a <;> cases Pl.okv s b <;> cases Pl.bit x <;> simp
    clear k
    rcases k' with ka | kb | ⟨ka, kb, kx⟩
    · go_enter Try.func117, Try.ntmps117
      go_wp2_with fail
      refine (signedPair s a b _ la ha lb hb).mono ?_
      rintro e w' ⟨rfl, rfl⟩
      go_wp2_with fail
      go_ret3
      exact ⟨rIIB HV.out.symm HF.out.symm rfl, rfl⟩
    · have kab : (Pl.okv s a && Pl.okv s b) = false := by rw [kb]; simp
      go_enter Try.func117, Try.ntmps117
      go_wp2_with fail
      refine (signedPair s a b _ la ha lb hb).mono ?_
      rintro e w' ⟨rfl, rfl⟩
      go_wp2_with fail
      go_ret3
      exact ⟨rIIB HV.out.symm HF.out.symm rfl, rfl⟩
    · go_enter Try.func117, Try.ntmps117
      go_wp2_with fail
      refine (signedPair s a b _ la ha lb hb).mono ?_
      rintro e w' ⟨rfl, rfl⟩
      go_wp2_with fail
      refine (isBit x _).mono ?_
      rintro e w' ⟨rfl, rfl⟩
      go_wp2_with fail
      go_ret3
      exact ⟨rIIB HV.out.symm HF.out.symm rfl, rfl⟩
  · have HV : Hid (Pl.subV s x a b = (a - b - x) % Pl.top s) := hide (by simp [Pl.subV, k])
    have HF : Hid (Pl.subF s x a b = Pl.keptF s (a - b - x) (Pl.sg s a - Pl.sg s b - x)) := hide (by simp [Pl.subF, k])
    obtain ⟨ka, kb, kx⟩ := Pl.two_ok k
    have ea := Pl.sgnV_ok ka
    have eb := Pl.sgnV_ok kb
    obtain ⟨hs, a0, a1⟩ := Pl.top_ok ka
    obtain ⟨_, b0, b1⟩ := Pl.top_ok kb
    obtain ⟨x0, x1⟩ := Pl.bit_ok kx
    have sa : -32768 ≤ Pl.sg s a ∧ Pl.sg s a ≤ 32767 := by
      rcases hs with ⟨rfl, _⟩ | ⟨rfl, _⟩
      · have := Pl.sg_bd1 a0 a1; omega
      · exact Pl.sg_bd2 a0 a1
    have sb : -32768 ≤ Pl.sg s b ∧ Pl.sg s b ≤ 32767 := by
      rcases hs with ⟨rfl, _⟩ | ⟨rfl, _⟩
      · have := Pl.sg_bd1 b0 b1; omega
      · exact Pl.sg_bd2 b0 b1
    obtain ⟨sa0, sa1⟩ := sa
    obtain ⟨sb0, sb1⟩ := sb
    have a2 : a < 65536 := by omega
    have b2 : b < 65536 := by omega
    have hs2 : s = 1 ∨ s = 2 := by omega
    clear k hs a1 b1
    go_enter Try.func117, Try.ntmps117
    go_wp2_with fail
    refine (signedPair s a b _ la ha lb hb).mono ?_
    rintro e w' ⟨rfl, rfl⟩
    go_wp2_with fail
    refine (isBit x _).mono ?_
    rintro e w' ⟨rfl, rfl⟩
    go_wp2_with fail
    refine (wrapSumOf s _ _ _ hs2).mono ?_
    rintro e w' ⟨rfl, rfl⟩
    go_wp2_with fail
    go_ret3
    exact ⟨rIIB HV.out.symm HF.out.symm rfl, rfl⟩

/-! ### the model's -/

theorem l1Signed1 (v : Int) (w : World) (h0 : 0 ≤ v) (h1 : v < 256) :
    Calls Try.prog 141 #[iv 1, iv v] w fun e w' => e = .returned (iv (Pl.sg 1 v)) ∧ w' = w := by
  by_cases h : 128 ≤ v
  · go_enter Try.func141, Try.ntmps141
    go_wp2_with fail
    refine (l1Top1 _).mono ?_
    rintro e w' ⟨rfl, rfl⟩
    go_wp2_with fail
    refine (l1Top1 _).mono ?_
    rintro e w' ⟨rfl, rfl⟩
    go_wp2_with fail
    go_ret
    exact ⟨rI (by simp [Pl.sg, Pl.top]; omega), rfl⟩
  · go_enter Try.func141, Try.ntmps141
    go_wp2_with fail
    refine (l1Top1 _).mono ?_
    rintro e w' ⟨rfl, rfl⟩
    go_wp2_with fail
    go_ret
    exact ⟨rI (by simp [Pl.sg, Pl.top]; omega), rfl⟩

theorem l1Signed2 (v : Int) (w : World) (h0 : 0 ≤ v) (h1 : v < 65536) :
    Calls Try.prog 141 #[iv 2, iv v] w fun e w' => e = .returned (iv (Pl.sg 2 v)) ∧ w' = w := by
  by_cases h : 32768 ≤ v
  · go_enter Try.func141, Try.ntmps141
    go_wp2_with fail
    refine (l1Top2 _).mono ?_
    rintro e w' ⟨rfl, rfl⟩
    go_wp2_with fail
    refine (l1Top2 _).mono ?_
    rintro e w' ⟨rfl, rfl⟩
    go_wp2_with fail
    go_ret
    exact ⟨rI (by simp [Pl.sg, Pl.top]; omega), rfl⟩
  · go_enter Try.func141, Try.ntmps141
    go_wp2_with fail
    refine (l1Top2 _).mono ?_
    rintro e w' ⟨rfl, rfl⟩
    go_wp2_with fail
    go_ret
    exact ⟨rI (by simp [Pl.sg, Pl.top]; omega), rfl⟩

end Go.Proofs.Ytnmddmmmgdfknaa

namespace Go.Proofs.Ytnmddmmmgdfknaa
open Go.RowKit
set_option linter.unusedVariables false

theorem l1Add1 (x a b : Int) (w : World) (a0 : 0 ≤ a) (a1 : a < 256) (b0 : 0 ≤ b) (b1 : b < 256) (x0 : 0 ≤ x) (x1 : x ≤ 1) :
    Calls Try.prog 124 #[iv 1, iv x, iv a, iv b] w fun e w' => e = .returned (.tuple #[iv ((a + b + x) % 256), iv (Pl.keptF 1 (a + b + x) (Pl.sg 1 a + Pl.sg 1 b + x))]) ∧ w' = w := by
  have em := Pl.and255 (a + b + x)
  obtain ⟨sa0, sa1⟩ := Pl.sg_bd1 a0 a1
  obtain ⟨sb0, sb1⟩ := Pl.sg_bd1 b0 b1
  go_enter Try.func124, Try.ntmps124
  go_wp2_with fail
  refine (l1Top1 _).mono ?_
  rintro e w' ⟨rfl, rfl⟩
  go_wp2_with fail
  refine (l1Signed1 a _ a0 a1).mono ?_
  rintro e w' ⟨rfl, rfl⟩
  go_wp2_with fail
  refine (l1Signed1 b _ b0 b1).mono ?_
  rintro e w' ⟨rfl, rfl⟩
  go_wp2_with fail
  refine (l1Flag _ _ _).mono ?_
  rintro e w' ⟨rfl, rfl⟩
  go_wp2_with fail
  refine (l1Signed1 ((a + b + x) % 256) _ (by omega) (by omega)).mono ?_
  rintro e w' ⟨rfl, rfl⟩
  go_wp2_with fail
  refine (l1Flag _ _ _).mono ?_
  rintro e w' ⟨rfl, rfl⟩
  go_wp2_with fail
  refine (l1Zn1 _ _).mono ?_
  rintro e w' ⟨rfl, rfl⟩
  go_wp2_with fail
  go_ret2
  exact ⟨rII rfl (Pl.skept1 _ _), rfl⟩

theorem l1Add2 (x a b : Int) (w : World) (a0 : 0 ≤ a) (a1 : a < 65536) (b0 : 0 ≤ b) (b1 : b < 65536) (x0 : 0 ≤ x) (x1 : x ≤ 1) :
    Calls Try.prog 124 #[iv 2, iv x, iv a, iv b] w fun e w' => e = .returned (.tuple #[iv ((a + b + x) % 65536), iv (Pl.keptF 2 (a + b + x) (Pl.sg 2 a + Pl.sg 2 b + x))]) ∧ w' = w := by
  have em := Pl.and65535 (a + b + x)
  obtain ⟨sa0, sa1⟩ := Pl.sg_bd2 a0 a1
  obtain ⟨sb0, sb1⟩ := Pl.sg_bd2 b0 b1
  go_enter Try.func124, Try.ntmps124
  go_wp2_with fail
  refine (l1Top2 _).mono ?_
  rintro e w' ⟨rfl, rfl⟩
  go_wp2_with fail
  refine (l1Signed2 a _ a0 a1).mono ?_
  rintro e w' ⟨rfl, rfl⟩
  go_wp2_with fail
  refine (l1Signed2 b _ b0 b1).mono ?_
  rintro e w' ⟨rfl, rfl⟩
  go_wp2_with fail
  refine (l1Flag _ _ _).mono ?_
  rintro e w' ⟨rfl, rfl⟩
  go_wp2_with fail
  refine (l1Signed2 ((a + b + x) % 65536) _ (by omega) (by omega)).mono ?_
  rintro e w' ⟨rfl, rfl⟩
  go_wp2_with fail
  refine (l1Flag _ _ _).mono ?_
  rintro e w' ⟨rfl, rfl⟩
  go_wp2_with fail
  refine (l1Zn2 _ _).mono ?_
  rintro e w' ⟨rfl, rfl⟩
  go_wp2_with fail
  go_ret2
  exact ⟨rII rfl (Pl.skept2 _ _), rfl⟩

theorem l1Sub1 (x a b : Int) (w : World) (a0 : 0 ≤ a) (a1 : a < 256) (b0 : 0 ≤ b) (b1 : b < 256) (x0 : 0 ≤ x) (x1 : x ≤ 1) :
    Calls Try.prog 125 #[iv 1, iv x, iv a, iv b] w fun e w' => e = .returned (.tuple #[iv ((a - b - x) % 256), iv (Pl.keptF 1 (a - b - x) (Pl.sg 1 a - Pl.sg 1 b - x))]) ∧ w' = w := by
  have em := Pl.and255 (a - b - x)
  obtain ⟨sa0, sa1⟩ := Pl.sg_bd1 a0 a1
  obtain ⟨sb0, sb1⟩ := Pl.sg_bd1 b0 b1
  go_enter Try.func125, Try.ntmps125
  go_wp2_with fail
  refine (l1Top1 _).mono ?_
  rintro e w' ⟨rfl, rfl⟩
  go_wp2_with fail
  refine (l1Signed1 a _ a0 a1).mono ?_
  rintro e w' ⟨rfl, rfl⟩
  go_wp2_with fail
  refine (l1Signed1 b _ b0 b1).mono ?_
  rintro e w' ⟨rfl, rfl⟩
  go_wp2_with fail
  refine (l1Flag _ _ _).mono ?_
  rintro e w' ⟨rfl, rfl⟩
  go_wp2_with fail
  refine (l1Signed1 ((a - b - x) % 256) _ (by omega) (by omega)).mono ?_
  rintro e w' ⟨rfl, rfl⟩
  go_wp2_with fail
  refine (l1Flag _ _ _).mono ?_
  rintro e w' ⟨rfl, rfl⟩
  go_wp2_with fail
  refine (l1Zn1 _ _).mono ?_
  rintro e w' ⟨rfl, rfl⟩
  go_wp2_with fail
  go_ret2
  exact ⟨rII rfl (Pl.sbelow1 _ _ (by omega)), rfl⟩

theorem l1Sub2 (x a b : Int) (w : World) (a0 : 0 ≤ a) (a1 : a < 65536) (b0 : 0 ≤ b) (b1 : b < 65536) (x0 : 0 ≤ x) (x1 : x ≤ 1) :
    Calls Try.prog 125 #[iv 2, iv x, iv a, iv b] w fun e w' => e = .returned (.tuple #[iv ((a - b - x) % 65536), iv (Pl.keptF 2 (a - b - x) (Pl.sg 2 a - Pl.sg 2 b - x))]) ∧ w' = w := by
  have em := Pl.and65535 (a - b - x)
  obtain ⟨sa0, sa1⟩ := Pl.sg_bd2 a0 a1
  obtain ⟨sb0, sb1⟩ := Pl.sg_bd2 b0 b1
  go_enter Try.func125, Try.ntmps125
  go_wp2_with fail
  refine (l1Top2 _).mono ?_
  rintro e w' ⟨rfl, rfl⟩
  go_wp2_with fail
  refine (l1Signed2 a _ a0 a1).mono ?_
  rintro e w' ⟨rfl, rfl⟩
  go_wp2_with fail
  refine (l1Signed2 b _ b0 b1).mono ?_
  rintro e w' ⟨rfl, rfl⟩
  go_wp2_with fail
  refine (l1Flag _ _ _).mono ?_
  rintro e w' ⟨rfl, rfl⟩
  go_wp2_with fail
  refine (l1Signed2 ((a - b - x) % 65536) _ (by omega) (by omega)).mono ?_
  rintro e w' ⟨rfl, rfl⟩
  go_wp2_with fail
  refine (l1Flag _ _ _).mono ?_
  rintro e w' ⟨rfl, rfl⟩
  go_wp2_with fail
  refine (l1Zn2 _ _).mono ?_
  rintro e w' ⟨rfl, rfl⟩
  go_wp2_with fail
  go_ret2
  exact ⟨rII rfl (Pl.sbelow2 _ _ (by omega)), rfl⟩

end Go.Proofs.Ytnmddmmmgdfknaa

namespace Go.Proofs.Ytnmddmmmgdfknaa
open Go.RowKit
set_option linter.unusedVariables false

theorem cmpFlags (s f a b : Int) (w : World) (la : -9223372036854775808 ≤ a) (ha : a ≤ 9223372036854775807) (lb : -9223372036854775808 ≤ b) (hb : b ≤ 9223372036854775807) :
    Calls Try.prog 119 #[iv s, iv f, iv a, iv b] w fun e w' => e = .returned (.tuple #[iv (Pl.cmpF s f a b), .bool (Pl.two s 0 a b && Pl.flags f)]) ∧ w' = w := by
  cases k : Pl.two s 0 a b
  · have HV : Hid (Pl.cmpF s f a b = 0) := hide (by simp [Pl.cmpF, k])
    go_enter Try.func119, Try.ntmps119
    go_wp2_with fail
    refine (subFlags s 0 a b _ la ha lb hb).mono ?_
    rintro e w' ⟨rfl, rfl⟩
    go_wp2_with fail
    go_ret2
    exact ⟨rIB HV.out.symm rfl, rfl⟩
  · cases kf : Pl.flags f
    · have HV : Hid (Pl.cmpF s f a b = 0) := hide (by simp [Pl.cmpF, kf])
      go_enter Try.func119, Try.ntmps119
      go_wp2_with fail
      refine (subFlags s 0 a b _ la ha lb hb).mono ?_
      rintro e w' ⟨rfl, rfl⟩
      go_wp2_with fail
      refine (isFlags f _).mono ?_
      rintro e w' ⟨rfl, rfl⟩
      go_wp2_with fail
      go_ret2
      exact ⟨rIB HV.out.symm rfl, rfl⟩
    · have HV : Hid (Pl.cmpF s f a b = bits .or .i64 (bits .andNot .i64 (Pl.subF s 0 a b) 16) (bits .and .i64 f 16)) := hide (by simp only [Pl.cmpF, k, kf, Bool.and_self, if_true, Pl.andNot16 _ (Pl.subF_bd s 0 a b).1 (Pl.subF_bd s 0 a b).2])
      go_enter Try.func119, Try.ntmps119
      go_wp2_with fail
      refine (subFlags s 0 a b _ la ha lb hb).mono ?_
      rintro e w' ⟨rfl, rfl⟩
      go_wp2_with fail
      refine (isFlags f _).mono ?_
      rintro e w' ⟨rfl, rfl⟩
      go_wp2_with fail
      go_ret2
      exact ⟨rIB HV.out.symm rfl, rfl⟩

theorem l1SubOk (s x a b : Int) (w : World) (h : Pl.two s x a b = true) :
    Calls Try.prog 125 #[iv s, iv x, iv a, iv b] w fun e w' => e = .returned (.tuple #[iv (Pl.subV s x a b), iv (Pl.subF s x a b)]) ∧ w' = w := by
  have HV : Pl.subV s x a b = (a - b - x) % Pl.top s := by simp [Pl.subV, h]
  have HF : Pl.subF s x a b = Pl.keptF s (a - b - x) (Pl.sg s a - Pl.sg s b - x) := by simp [Pl.subF, h]
  rw [HV, HF]
  obtain ⟨ka, kb, kx⟩ := Pl.two_ok h
  obtain ⟨hs, a0, a1⟩ := Pl.top_ok ka
  obtain ⟨_, b0, b1⟩ := Pl.top_ok kb
  obtain ⟨x0, x1⟩ := Pl.bit_ok kx
  rcases hs with ⟨rfl, _⟩ | ⟨rfl, _⟩
  · exact l1Sub1 x a b w a0 a1 b0 b1 x0 x1
  · exact l1Sub2 x a b w a0 a1 b0 b1 x0 x1

theorem l1Cmp (s f a b : Int) (w : World) (h : Pl.two s 0 a b = true) :
    Calls Try.prog 126 #[iv s, iv f, iv a, iv b] w fun e w' => e = .returned (iv (bits .or .i64 (bits .and .i64 (Pl.subF s 0 a b) 15) (bits .and .i64 f 16))) ∧ w' = w := by
  go_enter Try.func126, Try.ntmps126
  go_wp2_with fail
  refine (l1SubOk s 0 a b _ h).mono ?_
  rintro e w' ⟨rfl, rfl⟩
  go_wp2_with fail
  go_ret
  exact ⟨rfl, rfl⟩

theorem logicFlags (s f v : Int) (w : World) (lv : -9223372036854775808 ≤ v) (hv : v ≤ 9223372036854775807) :
    Calls Try.prog 121 #[iv s, iv f, iv v] w fun e w' => e = .returned (.tuple #[iv (Pl.logF s f v), .bool (Pl.okv s v && Pl.flags f)]) ∧ w' = w := by
  cases k : Pl.okv s v
  · have HV : Hid (Pl.logF s f v = 0) := hide (by simp [Pl.logF, k])
    go_enter Try.func121, Try.ntmps121
    go_wp2_with fail
    refine (signedOf s v _ lv hv).mono ?_
    rintro e w' ⟨rfl, rfl⟩
    go_wp2_with fail
    go_ret2
    exact ⟨rIB HV.out.symm rfl, rfl⟩
  · cases kf : Pl.flags f
    · have HV : Hid (Pl.logF s f v = 0) := hide (by simp [Pl.logF, kf])
      go_enter Try.func121, Try.ntmps121
      go_wp2_with fail
      refine (signedOf s v _ lv hv).mono ?_
      rintro e w' ⟨rfl, rfl⟩
      go_wp2_with fail
      refine (isFlags f _).mono ?_
      rintro e w' ⟨rfl, rfl⟩
      go_wp2_with fail
      go_ret2
      exact ⟨rIB HV.out.symm rfl, rfl⟩
    · have HV : Hid (Pl.logF s f v = bits .or .i64 (Pl.keptF s v (Pl.sgnV s v)) (bits .and .i64 f 16)) := hide (by
        simp only [Pl.logF, k, kf, Bool.and_self, if_true, Pl.sgnV_ok k, Pl.keptSelf k]; rw [Pl.or_comm])
      have hs : s = 1 ∨ s = 2 := by have := Pl.top_ok k; omega
      go_enter Try.func121, Try.ntmps121
      go_wp2_with fail
      refine (signedOf s v _ lv hv).mono ?_
      rintro e w' ⟨rfl, rfl⟩
      go_wp2_with fail
      refine (isFlags f _).mono ?_
      rintro e w' ⟨rfl, rfl⟩
      go_wp2_with fail
      refine (wrapSumOf s _ _ _ hs).mono ?_
      rintro e w' ⟨rfl, rfl⟩
      go_wp2_with fail
      go_ret2
      exact ⟨rIB HV.out.symm rfl, rfl⟩

theorem l1ZnOk (s v : Int) (w : World) (h : Pl.okv s v = true) :
    Calls Try.prog 107 #[iv s, iv v] w fun e w' => e = .returned (iv (bits .or .i64 (Pl.fl (v == 0) 4) (Pl.fl (decide (Pl.sg s v < 0)) 8))) ∧ w' = w := by
  obtain ⟨hs, h0, h1⟩ := Pl.top_ok h
  rcases hs with ⟨rfl, _⟩ | ⟨rfl, _⟩
  · rw [← Pl.neg1 h0 h1]; exact l1Zn1 v w
  · rw [← Pl.neg2 h0 h1]; exact l1Zn2 v w

theorem l1Logic (s f v : Int) (w : World) (h : Pl.okv s v = true) :
    Calls Try.prog 127 #[iv s, iv f, iv v] w fun e w' => e = .returned (iv (bits .or .i64 (bits .and .i64 f 16) (bits .or .i64 (Pl.fl (v == 0) 4) (Pl.fl (decide (Pl.sg s v < 0)) 8)))) ∧ w' = w := by
  go_enter Try.func127, Try.ntmps127
  go_wp2_with fail
  refine (l1ZnOk s v _ h).mono ?_
  rintro e w' ⟨rfl, rfl⟩
  go_wp2_with fail
  go_ret
  exact ⟨rfl, rfl⟩

end Go.Proofs.Ytnmddmmmgdfknaa

namespace Go.Proofs.Ytnmddmmmgdfknaa
open Go.RowKit
set_option linter.unusedVariables false
theorem eqFo (a b : Pl.Fo) (w : World) : (binOp .eql 47 (.agg #[iv a.k, iv a.z, iv a.a, iv a.b]) (.agg #[iv b.k, iv b.z, iv b.a, iv b.b])).run Try.prog w = .ok (.bool (Pl.foSame a b)) w := by
  obtain ⟨a1, a2, a3, a4⟩ := a
  obtain ⟨b1, b2, b3, b4⟩ := b
  unfold Pl.foSame
  go_simp
  by_cases h1 : a1 = b1
  · by_cases h2 : a2 = b2
    · by_cases h3 : a3 = b3
      · by_cases h4 : a4 = b4
        · simp [h1, h2, h3, h4]
        · simp [h1, h2, h3, h4]
      · simp [h1, h2, h3]
    · simp [h1, h2]
  · simp [h1]
theorem eqFo0 (a : Pl.Fo) (w : World) : (binOp .eql 47 (.agg #[iv a.k, iv a.z, iv a.a, iv a.b]) (.agg #[iv 0, iv 0, iv 0, iv 0])).run Try.prog w = .ok (.bool (Pl.foNone a)) w := by
  obtain ⟨a1, a2, a3, a4⟩ := a
  unfold Pl.foNone
  go_simp
  by_cases h1 : a1 = 0 <;> by_cases h2 : a2 = 0 <;> by_cases h3 : a3 = 0 <;> by_cases h4 : a4 = 0 <;> simp [h1, h2, h3, h4]
theorem specFo (w : World) (x : Pl.Fo) : Calls Try.prog 112 #[.agg (foA x)] w fun e w' => e = .returned (.bool (Pl.foOk x)) ∧ Kept 0 0 w w' := by
  cases h1 : Pl.okv x.z x.a
  · go_enter Try.func112, Try.ntmps112
    go_wp2_with (go_at_call 70; refine st (l1Value _ _ _) ?_; rw [h1])
    go_ret
    exact ⟨rB (by simp [Pl.foOk, h1]), kept_alloc _ _⟩
  · cases h2 : Pl.okv x.z x.b
    · go_enter Try.func112, Try.ntmps112
      go_wp2_with (go_at_call 70; refine st (l1Value _ _ _) ?_; first | rw [h1] | rw [h2])
      go_ret
      exact ⟨rB (by simp [Pl.foOk, h1, h2]), kept_alloc _ _⟩
    · by_cases h3 : 1 ≤ x.k ∧ x.k ≤ 5
      · have h3b : (decide (1 ≤ x.k) && decide (x.k ≤ 5)) = true := by simp [h3]
        by_cases h4 : x.k ≤ 3
        all_goals
          go_enter Try.func112, Try.ntmps112
          go_wp2_with (first | (go_at_call 70; refine st (l1Value _ _ _) ?_; first | rw [h1] | rw [h2]) | (go_at_call 57; refine st (l1In _ _ _ _) ?_; rw [h3b]))
          go_ret
          exact ⟨rB (by simp [Pl.foOk, h1, h2, h3, h4]), kept_alloc _ _⟩
      · have h3b : (decide (1 ≤ x.k) && decide (x.k ≤ 5)) = false := by simp; omega
        go_enter Try.func112, Try.ntmps112
        go_wp2_with (first | (go_at_call 70; refine st (l1Value _ _ _) ?_; first | rw [h1] | rw [h2]) | (go_at_call 57; refine st (l1In _ _ _ _) ?_; rw [h3b]))
        go_ret
        exact ⟨rB (by simp [Pl.foOk, h1, h2, h3b]), kept_alloc _ _⟩
theorem l1AddOk (s x a b : Int) (w : World) (h : Pl.two s x a b = true) :
    Calls Try.prog 124 #[iv s, iv x, iv a, iv b] w fun e w' => e = .returned (.tuple #[iv (Pl.addV s x a b), iv (Pl.addF s x a b)]) ∧ w' = w := by
  have HV : Pl.addV s x a b = (a + b + x) % Pl.top s := by simp [Pl.addV, h]
  have HF : Pl.addF s x a b = Pl.keptF s (a + b + x) (Pl.sg s a + Pl.sg s b + x) := by simp [Pl.addF, h]
  rw [HV, HF]
  obtain ⟨ka, kb, kx⟩ := Pl.two_ok h
  obtain ⟨hs, a0, a1⟩ := Pl.top_ok ka
  obtain ⟨_, b0, b1⟩ := Pl.top_ok kb
  obtain ⟨x0, x1⟩ := Pl.bit_ok kx
  rcases hs with ⟨rfl, _⟩ | ⟨rfl, _⟩
  · exact l1Add1 x a b w a0 a1 b0 b1 x0 x1
  · exact l1Add2 x a b w a0 a1 b0 b1 x0 x1
/-- what an operation makes of flags -/
theorem specMake (w : World) (f : Int) (x : Pl.Fo) (h : Pl.foOk x = true) (hf : Pl.flags f = true) : Calls Try.prog 79 #[iv f, .agg (foA x)] w fun e w' => e = .returned (iv (Pl.mk f x)) ∧ Kept 0 0 w w' := by
  obtain ⟨h1, h2, h3, h4, h5⟩ := Pl.foOk_ok h
  have hk : x.k = 1 ∨ x.k = 2 ∨ x.k = 3 ∨ x.k = 4 ∨ x.k = 5 := by omega
  obtain ⟨k, z, a, b⟩ := x
  simp only at h1 h2 h5 hk
  clear h h3 h4
  rcases hk with rfl | rfl | rfl | rfl | rfl
  · have HV : Hid (Pl.mk f ⟨1, z, a, b⟩ = Pl.addF z 0 a b) := hide (by simp [Pl.mk])
    go_enter Try.func79, Try.ntmps79
    go_wp2_with (go_at_call 124; refine st (l1AddOk _ _ _ _ _ h5) ?_)
    go_ret
    exact ⟨rI HV.out.symm, kept_alloc _ _⟩
  · have HV : Hid (Pl.mk f ⟨2, z, a, b⟩ = Pl.subF z 0 a b) := hide (by simp [Pl.mk])
    go_enter Try.func79, Try.ntmps79
    go_wp2_with (go_at_call 125; refine st (l1SubOk _ _ _ _ _ h5) ?_)
    go_ret
    exact ⟨rI HV.out.symm, kept_alloc _ _⟩
  · have HV : Hid (Pl.mk f ⟨3, z, a, b⟩ = bits .or .i64 (bits .and .i64 (Pl.subF z 0 a b) 15) (bits .and .i64 f 16)) := hide (by simp [Pl.mk, Pl.cmpF, h5, hf])
    go_enter Try.func79, Try.ntmps79
    go_wp2_with (go_at_call 126; refine st (l1Cmp _ _ _ _ _ h5) ?_)
    go_ret
    exact ⟨rI HV.out.symm, kept_alloc _ _⟩
  · have HV : Hid (Pl.mk f ⟨4, z, a, b⟩ = bits .or .i64 (bits .and .i64 f 16) (bits .or .i64 (Pl.fl (a == 0) 4) (Pl.fl (decide (Pl.sg z a < 0)) 8))) := hide (by simp [Pl.mk, Pl.logF, h1, hf])
    go_enter Try.func79, Try.ntmps79
    go_wp2_with (go_at_call 127; refine st (l1Logic _ _ _ _ h1) ?_)
    go_ret
    exact ⟨rI HV.out.symm, kept_alloc _ _⟩
  · have hg : Pl.goodK 4 z f a = true := by simp [Pl.goodK, h1, hf]
    have HV : Hid (Pl.mk f ⟨5, z, a, b⟩ = Pl.onF 4 z (f / 16) a) := hide (by simp [Pl.mk, Pl.onceF, hg])
    obtain ⟨k0, k1, _, f0, f1, hfit⟩ := Pl.goodK_ok hg
    go_enter Try.func79, Try.ntmps79
    go_wp2_with (go_at_call 61; refine st (l3Once 4 _ _ _ _ k0 k1 f0 f1 hfit) ?_)
    go_ret
    exact ⟨rI HV.out.symm, kept_alloc _ _⟩
end Go.Proofs.Ytnmddmmmgdfknaa

namespace Go.Proofs.Ytnmddmmmgdfknaa
open Go.RowKit
set_option linter.unusedVariables false
theorem specSumA (w : World) (x : Pl.Fo) : Calls Try.prog 113 #[.agg (foA x)] w fun e w' => e = .returned (.bool (Pl.sumK x.k)) ∧ ∃ o, w' = w.alloc o := by
  obtain ⟨k, z, a, b⟩ := x
  by_cases h1 : k = 1
  · subst h1
    go_enter Try.func113, Try.ntmps113
    go_wp2_with fail
    go_ret
    exact ⟨rfl, _, rfl⟩
  · by_cases h2 : k = 2
    · subst h2
      go_enter Try.func113, Try.ntmps113
      go_wp2_with fail
      go_ret
      exact ⟨rfl, _, rfl⟩
    · have k1 : (k == 1) = false := by simpa using h1
      have k2 : (k == 2) = false := by simpa using h2
      go_enter Try.func113, Try.ntmps113
      go_wp2_with fail
      go_ret
      exact ⟨rB (by simp [Pl.sumK, h1, h2]), _, rfl⟩
theorem specNote (w : World) (z : Pl.Lz) (x : Pl.Fo) : Calls Try.prog 76 #[.agg (lzA z), .agg (foA x)] w fun e w' => e = .returned (.agg (lzA (Pl.note z x))) ∧ Kept 0 0 w w' := by
  cases S : Pl.sumK x.k
  all_goals
    go_enter Try.func76, Try.ntmps76
    go_wp2_with (go_at_call 113; refine (specSumA _ x).mono ?_; rw [S]; rintro e9 w9 ⟨rfl, o9, rfl⟩)
    refine bodyPost_ret (v := .agg (lzA (Pl.note z x))) ?_ rfl ⟨rfl, ?_⟩
    · rw [results_one rfl]; go_simp; simp [Pl.note, S]
    · repeat (first | with_reducible exact Kept.refl _ _ _ | refine kept_new ?_ _ | refine kept_set ?_ _ _ _ (.inr (by simp)))
theorem results_c1t {fn : Func} {p q : Tmp} {ty : TypeId} (h : fn.results = #[.cell p ty, .tmp q]) (tmps : Array Value) (P : Program) (w : World) :
    (results fn tmps).run P w = ((asAddr (tmps.getD p undef)).run P w).andThen fun a w₁ => ((loadVar ty a).run P w₁).andThen fun v w₂ => .ok (.tuple #[v, tmps.getD q undef]) w₂ := by
  simp only [results, h]
  simp [Sem.run_bind, Result.andThen]
end Go.Proofs.Ytnmddmmmgdfknaa

namespace Go.Proofs.Ytnmddmmmgdfknaa
open Go.RowKit
set_option linter.unusedVariables false
def Pl.cdOk (z : Pl.Lz) (k : Int) : Bool := Pl.lzOk z && Pl.cOk k
def Pl.cdV (z : Pl.Lz) (k : Int) : Bool := Pl.cdOk z k && Pl.tst k (Pl.lzF z)
def Pl.crC (z : Pl.Lz) : Int := if Pl.lzOk z = true then Pl.lzF z % 2 else 0
def Pl.crX (z : Pl.Lz) : Int := if Pl.lzOk z = true then Pl.lzF z / 16 else 0
end Go.Proofs.Ytnmddmmmgdfknaa

namespace Go.Proofs.Ytnmddmmmgdfknaa
open Go.RowKit
set_option linter.unusedVariables false
theorem implNone (w : World) (x : Pl.Fo) : Calls Try.prog 83 #[.agg (foA x)] w fun e w' => e = .returned (.bool (Pl.foNone x)) ∧ Kept 0 0 w w' := by
  have he := eqFo0 x
  go_enter Try.func83, Try.ntmps83
  go_wp2_with fail
  go_ret
  exact ⟨rfl, kept_alloc _ _⟩
theorem implSum (k : Int) (w : World) : Calls Try.prog 85 #[iv k] w fun e w' => e = .returned (.bool (Pl.sumK k)) ∧ w' = w := by
  by_cases h1 : k = 1
  · subst h1
    go_enter Try.func85, Try.ntmps85
    go_wp2_with fail
    go_ret
    exact ⟨rfl, rfl⟩
  · have k1 : (k == 1) = false := by simpa using h1
    go_enter Try.func85, Try.ntmps85
    go_wp2_with fail
    go_ret
    exact ⟨rB (by simp [Pl.sumK, h1]), rfl⟩
theorem implTakesB (k : Int) (w : World) : Calls Try.prog 129 #[iv k] w fun e w' => e = .returned (.bool (Pl.sumK k || (k == 3))) ∧ w' = w := by
  cases S : Pl.sumK k
  all_goals
    go_enter Try.func129, Try.ntmps129
    go_wp2_with (go_at_call 85; refine st (implSum k _) ?_; rw [S])
    go_ret
    exact ⟨rB (by simp), rfl⟩
theorem implFo (w : World) (x : Pl.Fo) (wf : FoW x) : Calls Try.prog 84 #[.agg (foA x)] w fun e w' => e = .returned (.bool (Pl.foOk x)) ∧ Kept 0 0 w w' := by
  obtain ⟨la, ha⟩ := bounds_i64 wf.a
  obtain ⟨lb, hb⟩ := bounds_i64 wf.b
  obtain ⟨k, z, a, b⟩ := x
  simp only at la ha lb hb
  clear wf
  cases P : (Pl.okv z a && Pl.okv z b)
  · go_enter Try.func84, Try.ntmps84
    go_wp2_with (go_at_call 128; refine st (signedPair z a b _ la ha lb hb) ?_; rw [P])
    go_ret
    exact ⟨rB (by simp only [Pl.foOk]; rw [P]; rfl), kept_alloc _ _⟩
  · by_cases h1 : 1 ≤ k
    · by_cases h5 : k ≤ 5
      · cases T : (Pl.sumK k || (k == 3))
        · have h3 : ¬ k ≤ 3 := by simp [Pl.sumK] at T; omega
          have E : Hid (Pl.foOk ⟨k, z, a, b⟩ = (b == 0)) := hide (by simp only [Pl.foOk]; rw [P, decide_eq_true h1, decide_eq_true h5, decide_eq_false h3]; simp)
          go_enter Try.func84, Try.ntmps84
          go_wp2_with (first | (go_at_call 128; refine st (signedPair z a b _ la ha lb hb) ?_; rw [P]) | (go_at_call 129; refine st (implTakesB k _) ?_; rw [T]))
          go_ret
          exact ⟨rB E.out.symm, kept_alloc _ _⟩
        · have h3 : k ≤ 3 := by simp [Pl.sumK] at T; omega
          have E : Hid (Pl.foOk ⟨k, z, a, b⟩ = true) := hide (by simp only [Pl.foOk]; rw [P, decide_eq_true h1, decide_eq_true h5, decide_eq_true h3]; simp)
          go_enter Try.func84, Try.ntmps84
          go_wp2_with (first | (go_at_call 128; refine st (signedPair z a b _ la ha lb hb) ?_; rw [P]) | (go_at_call 129; refine st (implTakesB k _) ?_; rw [T]))
          go_ret
          exact ⟨rB E.out.symm, kept_alloc _ _⟩
      · have E : Hid (Pl.foOk ⟨k, z, a, b⟩ = false) := hide (by simp only [Pl.foOk]; rw [decide_eq_false h5]; simp)
        go_enter Try.func84, Try.ntmps84
        go_wp2_with (go_at_call 128; refine st (signedPair z a b _ la ha lb hb) ?_; rw [P])
        go_ret
        exact ⟨rB E.out.symm, kept_alloc _ _⟩
    · have E : Hid (Pl.foOk ⟨k, z, a, b⟩ = false) := hide (by simp only [Pl.foOk]; rw [decide_eq_false h1]; simp)
      go_enter Try.func84, Try.ntmps84
      go_wp2_with (go_at_call 128; refine st (signedPair z a b _ la ha lb hb) ?_; rw [P])
      go_ret
      exact ⟨rB E.out.symm, kept_alloc _ _⟩
set_option maxRecDepth 100000 in
set_option maxHeartbeats 4000000 in
theorem implGoodLazy (w : World) (z : Pl.Lz) (wf : LzW z) : Calls Try.prog 39 #[.agg (lzA z)] w fun e w' => e = .returned (.bool (Pl.lzOk z)) ∧ Kept 0 0 w w' := by
  have he := eqFo z.r z.l
  have K0 := hide (kept_alloc w (.cells (lzA z) 49))
  have B0 := hide (Blk.new w (lzA z) 49)
  have q := B0.out.all
  cases F : Pl.flags z.b
  · go_enter Try.func39, Try.ntmps39
    go_wp2_with (first | (go_at_call 82; refine st (isFlags _ _) ?_; rw [F]) | (go_at_call 83; (first | (with_reducible refine (implNone _ z.l).mono ?_; rw [NL]) | (with_reducible refine (implNone _ z.r).mono ?_; rw [NR])); rintro e9 w9 ⟨rfl, k9⟩; replace K0 := hide (K0.out.trans k9); replace B0 := hide (B0.out.kept0 k9); clear q; have q := B0.out.all; clear k9) | (go_at_call 84; (first | (with_reducible refine (implFo _ z.l wf.l).mono ?_; rw [OL]) | (with_reducible refine (implFo _ z.r wf.r).mono ?_; rw [OR])); rintro e9 w9 ⟨rfl, k9⟩; replace K0 := hide (K0.out.trans k9); replace B0 := hide (B0.out.kept0 k9); clear q; have q := B0.out.all; clear k9) | (go_at_call 85; (first | (with_reducible refine st (implSum z.l.k _) ?_; rw [SL]) | (with_reducible refine st (implSum z.r.k _) ?_; rw [SR]))))
    go_ret
    exact ⟨rB (by simp [Pl.lzOk, F]), K0.out⟩
  · cases NL : Pl.foNone z.l
    · cases OL : Pl.foOk z.l
      · go_enter Try.func39, Try.ntmps39
        go_wp2_with (first | (go_at_call 82; refine st (isFlags _ _) ?_; rw [F]) | (go_at_call 83; (first | (with_reducible refine (implNone _ z.l).mono ?_; rw [NL]) | (with_reducible refine (implNone _ z.r).mono ?_; rw [NR])); rintro e9 w9 ⟨rfl, k9⟩; replace K0 := hide (K0.out.trans k9); replace B0 := hide (B0.out.kept0 k9); clear q; have q := B0.out.all; clear k9) | (go_at_call 84; (first | (with_reducible refine (implFo _ z.l wf.l).mono ?_; rw [OL]) | (with_reducible refine (implFo _ z.r wf.r).mono ?_; rw [OR])); rintro e9 w9 ⟨rfl, k9⟩; replace K0 := hide (K0.out.trans k9); replace B0 := hide (B0.out.kept0 k9); clear q; have q := B0.out.all; clear k9) | (go_at_call 85; (first | (with_reducible refine st (implSum z.l.k _) ?_; rw [SL]) | (with_reducible refine st (implSum z.r.k _) ?_; rw [SR]))))
        go_ret
        exact ⟨rB (by simp [Pl.lzOk, F, NL, OL]), K0.out⟩
      · cases SL : Pl.sumK z.l.k
        · cases NR : Pl.foNone z.r
          · cases SR : Pl.sumK z.r.k
            · go_enter Try.func39, Try.ntmps39
              go_wp2_with (first | (go_at_call 82; refine st (isFlags _ _) ?_; rw [F]) | (go_at_call 83; (first | (with_reducible refine (implNone _ z.l).mono ?_; rw [NL]) | (with_reducible refine (implNone _ z.r).mono ?_; rw [NR])); rintro e9 w9 ⟨rfl, k9⟩; replace K0 := hide (K0.out.trans k9); replace B0 := hide (B0.out.kept0 k9); clear q; have q := B0.out.all; clear k9) | (go_at_call 84; (first | (with_reducible refine (implFo _ z.l wf.l).mono ?_; rw [OL]) | (with_reducible refine (implFo _ z.r wf.r).mono ?_; rw [OR])); rintro e9 w9 ⟨rfl, k9⟩; replace K0 := hide (K0.out.trans k9); replace B0 := hide (B0.out.kept0 k9); clear q; have q := B0.out.all; clear k9) | (go_at_call 85; (first | (with_reducible refine st (implSum z.l.k _) ?_; rw [SL]) | (with_reducible refine st (implSum z.r.k _) ?_; rw [SR]))))
              go_ret
              exact ⟨rB (by simp [Pl.lzOk, F, NL, OL, SL, NR, SR]), K0.out⟩
            · cases OR : Pl.foOk z.r
              · go_enter Try.func39, Try.ntmps39
                go_wp2_with (first | (go_at_call 82; refine st (isFlags _ _) ?_; rw [F]) | (go_at_call 83; (first | (with_reducible refine (implNone _ z.l).mono ?_; rw [NL]) | (with_reducible refine (implNone _ z.r).mono ?_; rw [NR])); rintro e9 w9 ⟨rfl, k9⟩; replace K0 := hide (K0.out.trans k9); replace B0 := hide (B0.out.kept0 k9); clear q; have q := B0.out.all; clear k9) | (go_at_call 84; (first | (with_reducible refine (implFo _ z.l wf.l).mono ?_; rw [OL]) | (with_reducible refine (implFo _ z.r wf.r).mono ?_; rw [OR])); rintro e9 w9 ⟨rfl, k9⟩; replace K0 := hide (K0.out.trans k9); replace B0 := hide (B0.out.kept0 k9); clear q; have q := B0.out.all; clear k9) | (go_at_call 85; (first | (with_reducible refine st (implSum z.l.k _) ?_; rw [SL]) | (with_reducible refine st (implSum z.r.k _) ?_; rw [SR]))))
                go_ret
                exact ⟨rB (by simp [Pl.lzOk, F, NL, OL, SL, NR, SR, OR]), K0.out⟩
              · go_enter Try.func39, Try.ntmps39
                go_wp2_with (first | (go_at_call 82; refine st (isFlags _ _) ?_; rw [F]) | (go_at_call 83; (first | (with_reducible refine (implNone _ z.l).mono ?_; rw [NL]) | (with_reducible refine (implNone _ z.r).mono ?_; rw [NR])); rintro e9 w9 ⟨rfl, k9⟩; replace K0 := hide (K0.out.trans k9); replace B0 := hide (B0.out.kept0 k9); clear q; have q := B0.out.all; clear k9) | (go_at_call 84; (first | (with_reducible refine (implFo _ z.l wf.l).mono ?_; rw [OL]) | (with_reducible refine (implFo _ z.r wf.r).mono ?_; rw [OR])); rintro e9 w9 ⟨rfl, k9⟩; replace K0 := hide (K0.out.trans k9); replace B0 := hide (B0.out.kept0 k9); clear q; have q := B0.out.all; clear k9) | (go_at_call 85; (first | (with_reducible refine st (implSum z.l.k _) ?_; rw [SL]) | (with_reducible refine st (implSum z.r.k _) ?_; rw [SR]))))
                go_ret
                exact ⟨rB (by simp [Pl.lzOk, F, NL, OL, SL, NR, SR, OR]), K0.out⟩
          · go_enter Try.func39, Try.ntmps39
            go_wp2_with (first | (go_at_call 82; refine st (isFlags _ _) ?_; rw [F]) | (go_at_call 83; (first | (with_reducible refine (implNone _ z.l).mono ?_; rw [NL]) | (with_reducible refine (implNone _ z.r).mono ?_; rw [NR])); rintro e9 w9 ⟨rfl, k9⟩; replace K0 := hide (K0.out.trans k9); replace B0 := hide (B0.out.kept0 k9); clear q; have q := B0.out.all; clear k9) | (go_at_call 84; (first | (with_reducible refine (implFo _ z.l wf.l).mono ?_; rw [OL]) | (with_reducible refine (implFo _ z.r wf.r).mono ?_; rw [OR])); rintro e9 w9 ⟨rfl, k9⟩; replace K0 := hide (K0.out.trans k9); replace B0 := hide (B0.out.kept0 k9); clear q; have q := B0.out.all; clear k9) | (go_at_call 85; (first | (with_reducible refine st (implSum z.l.k _) ?_; rw [SL]) | (with_reducible refine st (implSum z.r.k _) ?_; rw [SR]))))
            go_ret
            exact ⟨rB (by simp [Pl.lzOk, F, NL, OL, SL, NR]), K0.out⟩
        · go_enter Try.func39, Try.ntmps39
          go_wp2_with (first | (go_at_call 82; refine st (isFlags _ _) ?_; rw [F]) | (go_at_call 83; (first | (with_reducible refine (implNone _ z.l).mono ?_; rw [NL]) | (with_reducible refine (implNone _ z.r).mono ?_; rw [NR])); rintro e9 w9 ⟨rfl, k9⟩; replace K0 := hide (K0.out.trans k9); replace B0 := hide (B0.out.kept0 k9); clear q; have q := B0.out.all; clear k9) | (go_at_call 84; (first | (with_reducible refine (implFo _ z.l wf.l).mono ?_; rw [OL]) | (with_reducible refine (implFo _ z.r wf.r).mono ?_; rw [OR])); rintro e9 w9 ⟨rfl, k9⟩; replace K0 := hide (K0.out.trans k9); replace B0 := hide (B0.out.kept0 k9); clear q; have q := B0.out.all; clear k9) | (go_at_call 85; (first | (with_reducible refine st (implSum z.l.k _) ?_; rw [SL]) | (with_reducible refine st (implSum z.r.k _) ?_; rw [SR]))))
          go_ret
          exact ⟨rB (by simp [Pl.lzOk, F, NL, OL, SL]), K0.out⟩
    · cases NR : Pl.foNone z.r
      · go_enter Try.func39, Try.ntmps39
        go_wp2_with (first | (go_at_call 82; refine st (isFlags _ _) ?_; rw [F]) | (go_at_call 83; (first | (with_reducible refine (implNone _ z.l).mono ?_; rw [NL]) | (with_reducible refine (implNone _ z.r).mono ?_; rw [NR])); rintro e9 w9 ⟨rfl, k9⟩; replace K0 := hide (K0.out.trans k9); replace B0 := hide (B0.out.kept0 k9); clear q; have q := B0.out.all; clear k9) | (go_at_call 84; (first | (with_reducible refine (implFo _ z.l wf.l).mono ?_; rw [OL]) | (with_reducible refine (implFo _ z.r wf.r).mono ?_; rw [OR])); rintro e9 w9 ⟨rfl, k9⟩; replace K0 := hide (K0.out.trans k9); replace B0 := hide (B0.out.kept0 k9); clear q; have q := B0.out.all; clear k9) | (go_at_call 85; (first | (with_reducible refine st (implSum z.l.k _) ?_; rw [SL]) | (with_reducible refine st (implSum z.r.k _) ?_; rw [SR]))))
        go_ret
        exact ⟨rB (by simp [Pl.lzOk, F, NL, NR]), K0.out⟩
      · go_enter Try.func39, Try.ntmps39
        go_wp2_with (first | (go_at_call 82; refine st (isFlags _ _) ?_; rw [F]) | (go_at_call 83; (first | (with_reducible refine (implNone _ z.l).mono ?_; rw [NL]) | (with_reducible refine (implNone _ z.r).mono ?_; rw [NR])); rintro e9 w9 ⟨rfl, k9⟩; replace K0 := hide (K0.out.trans k9); replace B0 := hide (B0.out.kept0 k9); clear q; have q := B0.out.all; clear k9) | (go_at_call 84; (first | (with_reducible refine (implFo _ z.l wf.l).mono ?_; rw [OL]) | (with_reducible refine (implFo _ z.r wf.r).mono ?_; rw [OR])); rintro e9 w9 ⟨rfl, k9⟩; replace K0 := hide (K0.out.trans k9); replace B0 := hide (B0.out.kept0 k9); clear q; have q := B0.out.all; clear k9) | (go_at_call 85; (first | (with_reducible refine st (implSum z.l.k _) ?_; rw [SL]) | (with_reducible refine st (implSum z.r.k _) ?_; rw [SR]))))
        go_ret
        exact ⟨rB (by simp [Pl.lzOk, F, NL, NR]), K0.out⟩
theorem implNote (w : World) (z : Pl.Lz) (x : Pl.Fo) : Calls Try.prog 73 #[.agg (lzA z), .agg (foA x)] w fun e w' => e = .returned (.agg (lzA (Pl.note z x))) ∧ Kept 0 0 w w' := by
  cases S : Pl.sumK x.k
  all_goals
    go_enter Try.func73, Try.ntmps73
    go_wp2_with (go_at_call 85; refine st (implSum x.k _) ?_; rw [S])
    refine bodyPost_ret (v := .agg (lzA (Pl.note z x))) ?_ rfl ⟨rfl, ?_⟩
    · rw [results_one rfl]; go_simp; simp [Pl.note, S]
    · repeat (first | with_reducible exact Kept.refl _ _ _ | refine kept_new ?_ _ | refine kept_set ?_ _ _ _ (.inr (by simp)))
end Go.Proofs.Ytnmddmmmgdfknaa

namespace Go.Proofs.Ytnmddmmmgdfknaa
open Go.RowKit
set_option linter.unusedVariables false

/-- a number that an int holds -/
def W64 (n : Int) : Prop := -9223372036854775808 ≤ n ∧ n ≤ 9223372036854775807
end Go.Proofs.Ytnmddmmmgdfknaa

namespace Go.Proofs.Ytnmddmmmgdfknaa
open Go.RowKit
set_option linter.unusedVariables false
set_option linter.unusedSimpArgs false
theorem store_func (a : Addr) (fn : Fn) (m : Mode) (w : World) : (store a (.func fn #[] #[]) m).run Try.prog w = stored Try.prog w a (.func fn #[] #[]) m := run_store Try.prog w a _ m rfl
theorem undrew {B : Nat} {w wt : World} (h : Below B w.drew wt) : Below B w wt := ⟨h.os, h.tape, h.output, h.size, h.block⟩
/-- a row of bits, laid in block b -/
def Box (w : World) (b : Nat) (v s x f : Int) (t : Bool) : Prop := w.heap[b]? = some (.cells #[iv v, iv s, iv x, iv f, .bool t] 78)
theorem Box.later {w wt : World} {b : Nat} {v s x f : Int} {t : Bool} (h : Box w b v s x f t) (hb : Below w.heap.size w wt) : Box wt b v s x f t := by
  have lt : b < w.heap.size := by
    unfold Box at h
    rcases Nat.lt_or_ge b w.heap.size with h' | h'
    · exact h'
    · rw [Array.getElem?_eq_none h'] at h; cases h
  exact (hb.block b lt).trans h
theorem Box.cells {w : World} {b : Nat} {v s x f : Int} {t : Bool} (h : Box w b v s x f t) :
    w.cell? ⟨b, 0, none⟩ = some (iv v) ∧ w.cell? ⟨b, 1, none⟩ = some (iv s) ∧ w.cell? ⟨b, 2, none⟩ = some (iv x) ∧ w.cell? ⟨b, 3, none⟩ = some (iv f) ∧ w.cell? ⟨b, 4, none⟩ = some (.bool t) ∧
    w.frozen? ⟨b, 0, none⟩ = false ∧ w.frozen? ⟨b, 1, none⟩ = false ∧ w.frozen? ⟨b, 2, none⟩ = false ∧ w.frozen? ⟨b, 3, none⟩ = false ∧ w.frozen? ⟨b, 4, none⟩ = false := by
  unfold Box at h
  refine ⟨?_, ?_, ?_, ?_, ?_, ?_, ?_, ?_, ?_, ?_⟩ <;> simp [World.cell?, World.frozen?, h]
theorem results_box {fn : Func} {p : Tmp} (h : fn.results = #[.cell p 78]) (tmps : Array Value) {w : World} {b : Nat} {v s x f : Int} {t : Bool} (hp : tmps.getD p undef = .pointer (some ⟨b, 0, none⟩)) (hB : Box w b v s x f t) :
    (results fn tmps).run Try.prog w = .ok (.agg #[iv v, iv s, iv x, iv f, .bool t]) w :=
  results_cell_row h tmps w b _ _ _ _ hp hB (Try.underlying78) rfl (by kernel_rfl)
theorem Box.set {w : World} {b : Nat} {v s x f v' s' x' f' : Int} {t t' : Bool} (h : Box w b v s x f t) :
    Box (((((w.setCell ⟨b, 0, none⟩ (iv v')).setCell ⟨b, 1, none⟩ (iv s')).setCell ⟨b, 2, none⟩ (iv x')).setCell ⟨b, 3, none⟩ (iv f')).setCell ⟨b, 4, none⟩ (.bool t')) b v' s' x' f' t' := by
  unfold Box at h ⊢
  simp [World.setCell, Array.getElem?_modify, h]
theorem Box.new0 (w : World) (v s x f : Int) (t : Bool) : Box (w.alloc (.cells #[iv v, iv s, iv x, iv f, .bool t] 78)) w.heap.size v s x f t := heap_alloc_new w _
theorem Box.two {w : World} {b : Nat} {v s x f : Int} {t : Bool} (h : Box w b v s x f t) (o1 o2 : Obj) : Box ((w.alloc o1).alloc o2) b v s x f t :=
  h.later (((Below.refl _ w).alloc (Nat.le_refl _) o1).alloc (by simp) o2)
theorem Below.set5 {B : Nat} {a w : World} (h : Below B a w) {b : Nat} (hb : B ≤ b) (v0 v1 v2 v3 v4 : Value) :
    Below B a (((((w.setCell ⟨b, 0, none⟩ v0).setCell ⟨b, 1, none⟩ v1).setCell ⟨b, 2, none⟩ v2).setCell ⟨b, 3, none⟩ v3).setCell ⟨b, 4, none⟩ v4) :=
  ((((h.setCell hb _).setCell hb _).setCell hb _).setCell hb _).setCell hb _
theorem Box.new1 (w : World) (v s x f : Int) (t : Bool) (o1 : Obj) (o2 : Obj) : Box (((w.alloc (.cells #[iv v, iv s, iv x, iv f, .bool t] 78)).alloc o1).alloc o2) w.heap.size v s x f t := by
  unfold Box
  rw [Below.heap_alloc _ _ _ (by simp <;> omega), Below.heap_alloc _ _ _ (by simp)]
  exact heap_alloc_new w _
theorem Box.new2 (w : World) (v s x f : Int) (t : Bool) (o1 : Obj) (o2 : Obj) : Box (((w.alloc o1).alloc (.cells #[iv v, iv s, iv x, iv f, .bool t] 78)).alloc o2) (w.heap.size + 1) v s x f t := by
  unfold Box
  rw [Below.heap_alloc _ _ _ (by simp)]
  exact heap_alloc2_new w _ _

end Go.Proofs.Ytnmddmmmgdfknaa

namespace Go.Proofs.Ytnmddmmmgdfknaa
open Go.RowKit
set_option linter.unusedVariables false

theorem rA {a b c d a' b' c' d' : Int} {t t' : Bool} (ha : a = a') (hb : b = b') (hc : c = c') (hd : d = d') (ht : t = t') : Ending.returned (.agg #[iv a, iv b, iv c, iv d, .bool t]) = .returned (.agg #[iv a', iv b', iv c', iv d', .bool t']) := by rw [ha, hb, hc, hd, ht]
theorem results_cell1 {fn : Func} {p : Tmp} {ty : TypeId} (h : fn.results = #[.cell p ty]) (tmps : Array Value) (P : Program) (w : World) :
    (results fn tmps).run P w = ((asAddr (tmps.getD p undef)).run P w).andThen fun a w₁ => (loadVar ty a).run P w₁ := by
  simp only [results, h]
  simp [Sem.run_bind, Result.andThen]
theorem Pl.or_low' {a q : Int} (h0 : 0 ≤ a) (h1 : a < 131072) (h2 : a % 2 = 0) (q0 : 0 ≤ q) (q1 : q ≤ 1) : bits .or .i64 a q = a + q :=
  bits_join .i64 62 (by decide) wraps_i64 1 a q (by omega) (by omega) (by omega) (by omega) (by omega) (by omega)
theorem lowest (v s x f : Int) (t : Bool) (w : World) :
    Calls Try.prog 137 #[.agg #[iv v, iv s, iv x, iv f, .bool t]] w fun e w' => e = .returned (iv (v % 2)) ∧ ∃ o, w' = w.alloc o := by
  have hA := Pl.and1 v
  go_enter Try.func137, Try.ntmps137
  go_wp2
  go_ret
  exact ⟨rfl, _, rfl⟩
theorem keepFallen (v s x f : Int) (t : Bool) (w : World) :
    Calls Try.prog 135 #[.agg #[iv v, iv s, iv x, iv f, .bool t]] w fun e w' => e = .returned (.agg #[iv v, iv s, iv f, iv f, .bool t]) ∧ ∃ o1 o2, w' = (w.alloc o1).alloc o2 := by
  go_enter Try.func135, Try.ntmps135
  go_wp2
  refine bodyPost_ret (v := .agg #[iv v, iv s, iv f, iv f, .bool t]) ?_ rfl ⟨rfl, _, _, rfl⟩
  rw [results_cell1 rfl]; go_simp
theorem highest1 (v x f : Int) (t : Bool) (w : World) (h0 : 0 ≤ v) (h1 : v < 256) :
    Calls Try.prog 106 #[.agg #[iv v, iv 8, iv x, iv f, .bool t]] w fun e w' => e = .returned (iv (Pl.hi 1 v)) ∧ ∃ o, w' = w.alloc o := by
  have E : Hid (v / 128 = Pl.hi 1 v) := hide (by simp [Pl.hi, Pl.top]; omega)
  go_enter Try.func106, Try.ntmps106
  go_wp2
  go_ret
  exact ⟨rI E.out, _, rfl⟩
theorem moveUp1 (v x f i : Int) (t : Bool) (w : World) (h0 : 0 ≤ v) (h1 : v < 256) (i0 : 0 ≤ i) (i1 : i ≤ 1) :
    Calls Try.prog 134 #[.agg #[iv v, iv 8, iv x, iv f, .bool t], iv i] w fun e w' => e = .returned (.agg #[iv (v * 2 % 256 + i), iv 8, iv x, iv (Pl.hi 1 v), .bool t]) ∧ ∃ o1 o2 o3, w' = (((w.alloc o1).alloc o2).alloc o3).drew := by
  have hO := Pl.or_low' (a := v * 2) (q := i) (by omega) (by omega) (by omega) i0 i1
  have hA := Pl.and255 (v * 2 + i)
  have hE : (v * 2 + i) % 256 = v * 2 % 256 + i := by omega
  go_enter Try.func134, Try.ntmps134
  go_wp2_with fail
  refine (highest1 v x f t _ h0 h1).mono ?_
  rintro e w' ⟨rfl, o, rfl⟩
  go_wp2_with fail
  go_region
  go_wp2_with fail
  refine bodyPost_ret (v := .agg #[iv (v * 2 % 256 + i), iv 8, iv x, iv (Pl.hi 1 v), .bool t]) ?_ rfl ⟨rfl, _, _, _, rfl⟩
  rw [results_cell1 rfl]; go_simp
theorem moveDown1 (v x f i : Int) (t : Bool) (w : World) (h0 : 0 ≤ v) (h1 : v < 256) (i0 : 0 ≤ i) (i1 : i ≤ 1) :
    Calls Try.prog 136 #[.agg #[iv v, iv 8, iv x, iv f, .bool t], iv i] w fun e w' => e = .returned (.agg #[iv (v / 2 + i * 128), iv 8, iv x, iv (v % 2), .bool t]) ∧ ∃ o1 o2 o3, w' = (((w.alloc o1).alloc o2).alloc o3).drew := by
  have hO := Pl.or_high1 (a := v / 2) (q := i) (by omega) (by omega) i0 i1
  go_enter Try.func136, Try.ntmps136
  go_wp2_with fail
  refine (lowest v 8 x f t _).mono ?_
  rintro e w' ⟨rfl, o, rfl⟩
  go_wp2_with fail
  go_region
  go_wp2_with fail
  refine bodyPost_ret (v := .agg #[iv (v / 2 + i * 128), iv 8, iv x, iv (v % 2), .bool t]) ?_ rfl ⟨rfl, _, _, _, rfl⟩
  rw [results_cell1 rfl]; go_simp
theorem highest2 (v x f : Int) (t : Bool) (w : World) (h0 : 0 ≤ v) (h1 : v < 65536) :
    Calls Try.prog 106 #[.agg #[iv v, iv 16, iv x, iv f, .bool t]] w fun e w' => e = .returned (iv (Pl.hi 2 v)) ∧ ∃ o, w' = w.alloc o := by
  have E : Hid (v / 32768 = Pl.hi 2 v) := hide (by simp [Pl.hi, Pl.top]; omega)
  go_enter Try.func106, Try.ntmps106
  go_wp2
  go_ret
  exact ⟨rI E.out, _, rfl⟩
theorem moveUp2 (v x f i : Int) (t : Bool) (w : World) (h0 : 0 ≤ v) (h1 : v < 65536) (i0 : 0 ≤ i) (i1 : i ≤ 1) :
    Calls Try.prog 134 #[.agg #[iv v, iv 16, iv x, iv f, .bool t], iv i] w fun e w' => e = .returned (.agg #[iv (v * 2 % 65536 + i), iv 16, iv x, iv (Pl.hi 2 v), .bool t]) ∧ ∃ o1 o2 o3, w' = (((w.alloc o1).alloc o2).alloc o3).drew := by
  have hO := Pl.or_low' (a := v * 2) (q := i) (by omega) (by omega) (by omega) i0 i1
  have hA := Pl.and65535 (v * 2 + i)
  have hE : (v * 2 + i) % 65536 = v * 2 % 65536 + i := by omega
  go_enter Try.func134, Try.ntmps134
  go_wp2_with fail
  refine (highest2 v x f t _ h0 h1).mono ?_
  rintro e w' ⟨rfl, o, rfl⟩
  go_wp2_with fail
  go_region
  go_wp2_with fail
  refine bodyPost_ret (v := .agg #[iv (v * 2 % 65536 + i), iv 16, iv x, iv (Pl.hi 2 v), .bool t]) ?_ rfl ⟨rfl, _, _, _, rfl⟩
  rw [results_cell1 rfl]; go_simp
theorem moveDown2 (v x f i : Int) (t : Bool) (w : World) (h0 : 0 ≤ v) (h1 : v < 65536) (i0 : 0 ≤ i) (i1 : i ≤ 1) :
    Calls Try.prog 136 #[.agg #[iv v, iv 16, iv x, iv f, .bool t], iv i] w fun e w' => e = .returned (.agg #[iv (v / 2 + i * 32768), iv 16, iv x, iv (v % 2), .bool t]) ∧ ∃ o1 o2 o3, w' = (((w.alloc o1).alloc o2).alloc o3).drew := by
  have hO := Pl.or_high2 (a := v / 2) (q := i) (by omega) (by omega) i0 i1
  go_enter Try.func136, Try.ntmps136
  go_wp2_with fail
  refine (lowest v 16 x f t _).mono ?_
  rintro e w' ⟨rfl, o, rfl⟩
  go_wp2_with fail
  go_region
  go_wp2_with fail
  refine bodyPost_ret (v := .agg #[iv (v / 2 + i * 32768), iv 16, iv x, iv (v % 2), .bool t]) ?_ rfl ⟨rfl, _, _, _, rfl⟩
  rw [results_cell1 rfl]; go_simp
end Go.Proofs.Ytnmddmmmgdfknaa

