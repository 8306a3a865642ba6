/- What CmpFlags, LogicFlags, ExtendWord and SwapBytes of chapter 1, and their models, answer for every argument: one contract a function; none changes the world. -/
import Derived.Test.YtogckmalfdddcaaSpec
namespace Go.Proofs.Ytogckmalfdddcaa
open Go.RowKit
set_option linter.unusedVariables false

theorem cmpFlags (s f a b : Int) (w : World) (la : -9223372036854775808 ≤ a) (ha : a ≤ 9223372036854775807) (lb : -9223372036854775808 ≤ b) (hb : b ≤ 9223372036854775807) :
    Calls Try.prog 35 #[.int .i64 s, .int .i64 f, .int .i64 a, .int .i64 b] w fun e w' => e = .returned (.tuple #[.int .i64 (Pl.cmpF s f a b), .bool (Pl.two s 0 a b && Pl.flags f)]) ∧ w' = w := by
  cases k : Pl.two s 0 a b
  · have HV : Hid (Pl.cmpF s f a b = 0) := hide (by simp [Pl.cmpF, k])
    go_enter Try.func35, Try.ntmps35
    go_wp2_with fail
    refine (subFlags s 0 a b _ la ha lb hb).mono ?_
    rintro e w' ⟨rfl, rfl⟩
    go_wp2_with fail
    go_ret2
    exact ⟨rIB HV.out.symm rfl, rfl⟩
  · cases kf : Pl.flags f
    · have HV : Hid (Pl.cmpF s f a b = 0) := hide (by simp [Pl.cmpF, kf])
      go_enter Try.func35, Try.ntmps35
      go_wp2_with fail
      refine (subFlags s 0 a b _ la ha lb hb).mono ?_
      rintro e w' ⟨rfl, rfl⟩
      go_wp2_with fail
      refine (isFlags f _).mono ?_
      rintro e w' ⟨rfl, rfl⟩
      go_wp2_with fail
      go_ret2
      exact ⟨rIB HV.out.symm rfl, rfl⟩
    · have HV : Hid (Pl.cmpF s f a b = bits .or .i64 (bits .andNot .i64 (Pl.subF s 0 a b) 16) (bits .and .i64 f 16)) := hide (by simp only [Pl.cmpF, k, kf, Bool.and_self, if_true, Pl.andNot16 _ (Pl.subF_bd s 0 a b).1 (Pl.subF_bd s 0 a b).2])
      go_enter Try.func35, Try.ntmps35
      go_wp2_with fail
      refine (subFlags s 0 a b _ la ha lb hb).mono ?_
      rintro e w' ⟨rfl, rfl⟩
      go_wp2_with fail
      refine (isFlags f _).mono ?_
      rintro e w' ⟨rfl, rfl⟩
      go_wp2_with fail
      go_ret2
      exact ⟨rIB HV.out.symm rfl, rfl⟩

theorem l1Flags (f : Int) (w : World) :
    Calls Try.prog 66 #[.int .i64 f] w fun e w' => e = .returned (.bool (Pl.flags f)) ∧ w' = w := by
  go_enter Try.func66, Try.ntmps66
  go_wp2_with fail
  refine (l1In f 0 31 _).mono ?_
  rintro e w' ⟨rfl, rfl⟩
  go_wp2_with fail
  go_ret
  exact ⟨rfl, rfl⟩

theorem l1SubOk (s x a b : Int) (w : World) (h : Pl.two s x a b = true) :
    Calls Try.prog 53 #[.int .i64 s, .int .i64 x, .int .i64 a, .int .i64 b] w fun e w' => e = .returned (.tuple #[.int .i64 (Pl.subV s x a b), .int .i64 (Pl.subF s x a b)]) ∧ w' = w := by
  have HV : Pl.subV s x a b = (a - b - x) % Pl.top s := by simp [Pl.subV, h]
  have HF : Pl.subF s x a b = Pl.keptF s (a - b - x) (Pl.sg s a - Pl.sg s b - x) := by simp [Pl.subF, h]
  rw [HV, HF]
  obtain ⟨ka, kb, kx⟩ := Pl.two_ok h
  obtain ⟨hs, a0, a1⟩ := Pl.top_ok ka
  obtain ⟨_, b0, b1⟩ := Pl.top_ok kb
  obtain ⟨x0, x1⟩ := Pl.bit_ok kx
  rcases hs with ⟨rfl, _⟩ | ⟨rfl, _⟩
  · exact l1Sub1 x a b w a0 a1 b0 b1 x0 x1
  · exact l1Sub2 x a b w a0 a1 b0 b1 x0 x1

theorem l1Cmp (s f a b : Int) (w : World) (h : Pl.two s 0 a b = true) :
    Calls Try.prog 67 #[.int .i64 s, .int .i64 f, .int .i64 a, .int .i64 b] w fun e w' => e = .returned (.int .i64 (bits .or .i64 (bits .and .i64 (Pl.subF s 0 a b) 15) (bits .and .i64 f 16))) ∧ w' = w := by
  go_enter Try.func67, Try.ntmps67
  go_wp2_with fail
  refine (l1SubOk s 0 a b _ h).mono ?_
  rintro e w' ⟨rfl, rfl⟩
  go_wp2_with fail
  go_ret
  exact ⟨rfl, rfl⟩

theorem specCmpFlags (s f a b : Int) (w : World) :
    Calls Try.prog 36 #[.int .i64 s, .int .i64 f, .int .i64 a, .int .i64 b] w fun e w' => e = .returned (.tuple #[.int .i64 (Pl.cmpF s f a b), .bool (Pl.two s 0 a b && Pl.flags f)]) ∧ w' = w := by
  cases k : Pl.two s 0 a b
  · have HV : Hid (Pl.cmpF s f a b = 0) := hide (by simp [Pl.cmpF, k])
    go_enter Try.func36, Try.ntmps36
    go_wp2_with fail
    refine (l1Two s 0 a b _).mono ?_
    rintro e w' ⟨rfl, rfl⟩
    go_wp2_with fail
    go_ret2
    exact ⟨rIB HV.out.symm rfl, rfl⟩
  · cases kf : Pl.flags f
    · have HV : Hid (Pl.cmpF s f a b = 0) := hide (by simp [Pl.cmpF, kf])
      go_enter Try.func36, Try.ntmps36
      go_wp2_with fail
      refine (l1Two s 0 a b _).mono ?_
      rintro e w' ⟨rfl, rfl⟩
      go_wp2_with fail
      refine (l1Flags f _).mono ?_
      rintro e w' ⟨rfl, rfl⟩
      go_wp2_with fail
      go_ret2
      exact ⟨rIB HV.out.symm rfl, rfl⟩
    · have HV : Hid (Pl.cmpF s f a b = bits .or .i64 (bits .and .i64 (Pl.subF s 0 a b) 15) (bits .and .i64 f 16)) := hide (by simp only [Pl.cmpF, k, kf, Bool.and_self, if_true])
      go_enter Try.func36, Try.ntmps36
      go_wp2_with fail
      refine (l1Two s 0 a b _).mono ?_
      rintro e w' ⟨rfl, rfl⟩
      go_wp2_with fail
      refine (l1Flags f _).mono ?_
      rintro e w' ⟨rfl, rfl⟩
      go_wp2_with fail
      refine (l1Cmp s f a b _ k).mono ?_
      rintro e w' ⟨rfl, rfl⟩
      go_wp2_with fail
      go_ret2
      exact ⟨rIB HV.out.symm rfl, rfl⟩

theorem logicFlags (s f v : Int) (w : World) (lv : -9223372036854775808 ≤ v) (hv : v ≤ 9223372036854775807) :
    Calls Try.prog 38 #[.int .i64 s, .int .i64 f, .int .i64 v] w fun e w' => e = .returned (.tuple #[.int .i64 (Pl.logF s f v), .bool (Pl.okv s v && Pl.flags f)]) ∧ w' = w := by
  cases k : Pl.okv s v
  · have HV : Hid (Pl.logF s f v = 0) := hide (by simp [Pl.logF, k])
    go_enter Try.func38, Try.ntmps38
    go_wp2_with fail
    refine (signedOf s v _ lv hv).mono ?_
    rintro e w' ⟨rfl, rfl⟩
    go_wp2_with fail
    go_ret2
    exact ⟨rIB HV.out.symm rfl, rfl⟩
  · cases kf : Pl.flags f
    · have HV : Hid (Pl.logF s f v = 0) := hide (by simp [Pl.logF, kf])
      go_enter Try.func38, Try.ntmps38
      go_wp2_with fail
      refine (signedOf s v _ lv hv).mono ?_
      rintro e w' ⟨rfl, rfl⟩
      go_wp2_with fail
      refine (isFlags f _).mono ?_
      rintro e w' ⟨rfl, rfl⟩
      go_wp2_with fail
      go_ret2
      exact ⟨rIB HV.out.symm rfl, rfl⟩
    · have HV : Hid (Pl.logF s f v = bits .or .i64 (Pl.keptF s v (Pl.sgnV s v)) (bits .and .i64 f 16)) := hide (by
        simp only [Pl.logF, k, kf, Bool.and_self, if_true, Pl.sgnV_ok k, Pl.keptSelf k]; rw [Pl.or_comm])
      have hs : s = 1 ∨ s = 2 := by have := Pl.top_ok k; omega
      go_enter Try.func38, Try.ntmps38
      go_wp2_with fail
      refine (signedOf s v _ lv hv).mono ?_
      rintro e w' ⟨rfl, rfl⟩
      go_wp2_with fail
      refine (isFlags f _).mono ?_
      rintro e w' ⟨rfl, rfl⟩
      go_wp2_with fail
      refine (wrapSumOf s _ _ _ hs).mono ?_
      rintro e w' ⟨rfl, rfl⟩
      go_wp2_with fail
      go_ret2
      exact ⟨rIB HV.out.symm rfl, rfl⟩

theorem l1ZnOk (s v : Int) (w : World) (h : Pl.okv s v = true) :
    Calls Try.prog 72 #[.int .i64 s, .int .i64 v] w fun e w' => e = .returned (.int .i64 (bits .or .i64 (Pl.fl (v == 0) 4) (Pl.fl (decide (Pl.sg s v < 0)) 8))) ∧ w' = w := by
  obtain ⟨hs, h0, h1⟩ := Pl.top_ok h
  rcases hs with ⟨rfl, _⟩ | ⟨rfl, _⟩
  · rw [← Pl.neg1 h0 h1]; exact l1Zn1 v w
  · rw [← Pl.neg2 h0 h1]; exact l1Zn2 v w

theorem l1Logic (s f v : Int) (w : World) (h : Pl.okv s v = true) :
    Calls Try.prog 68 #[.int .i64 s, .int .i64 f, .int .i64 v] w fun e w' => e = .returned (.int .i64 (bits .or .i64 (bits .and .i64 f 16) (bits .or .i64 (Pl.fl (v == 0) 4) (Pl.fl (decide (Pl.sg s v < 0)) 8)))) ∧ w' = w := by
  go_enter Try.func68, Try.ntmps68
  go_wp2_with fail
  refine (l1ZnOk s v _ h).mono ?_
  rintro e w' ⟨rfl, rfl⟩
  go_wp2_with fail
  go_ret
  exact ⟨rfl, rfl⟩

theorem specLogicFlags (s f v : Int) (w : World) :
    Calls Try.prog 39 #[.int .i64 s, .int .i64 f, .int .i64 v] w fun e w' => e = .returned (.tuple #[.int .i64 (Pl.logF s f v), .bool (Pl.okv s v && Pl.flags f)]) ∧ w' = w := by
  cases k : Pl.okv s v
  · have HV : Hid (Pl.logF s f v = 0) := hide (by simp [Pl.logF, k])
    go_enter Try.func39, Try.ntmps39
    go_wp2_with fail
    refine (l1Value s v _).mono ?_
    rintro e w' ⟨rfl, rfl⟩
    go_wp2_with fail
    go_ret2
    exact ⟨rIB HV.out.symm rfl, rfl⟩
  · cases kf : Pl.flags f
    · have HV : Hid (Pl.logF s f v = 0) := hide (by simp [Pl.logF, kf])
      go_enter Try.func39, Try.ntmps39
      go_wp2_with fail
      refine (l1Value s v _).mono ?_
      rintro e w' ⟨rfl, rfl⟩
      go_wp2_with fail
      refine (l1Flags f _).mono ?_
      rintro e w' ⟨rfl, rfl⟩
      go_wp2_with fail
      go_ret2
      exact ⟨rIB HV.out.symm rfl, rfl⟩
    · have HV : Hid (Pl.logF s f v = bits .or .i64 (bits .and .i64 f 16) (bits .or .i64 (Pl.fl (v == 0) 4) (Pl.fl (decide (Pl.sg s v < 0)) 8))) := hide (by simp only [Pl.logF, k, kf, Bool.and_self, if_true])
      go_enter Try.func39, Try.ntmps39
      go_wp2_with fail
      refine (l1Value s v _).mono ?_
      rintro e w' ⟨rfl, rfl⟩
      go_wp2_with fail
      refine (l1Flags f _).mono ?_
      rintro e w' ⟨rfl, rfl⟩
      go_wp2_with fail
      refine (l1Logic s f v _ k).mono ?_
      rintro e w' ⟨rfl, rfl⟩
      go_wp2_with fail
      go_ret2
      exact ⟨rIB HV.out.symm rfl, rfl⟩

theorem extendWord (v : Int) (w : World) (lv : -9223372036854775808 ≤ v) (hv : v ≤ 9223372036854775807) :
    Calls Try.prog 29 #[.int .i64 v] w fun e w' => e = .returned (.tuple #[.int .i64 (Pl.extV v), .bool (Pl.okv 1 v)]) ∧ w' = w := by
  cases k : Pl.okv 1 v
  · have HV : Hid (Pl.extV v = 0) := hide (by simp [Pl.extV, k])
    go_enter Try.func29, Try.ntmps29
    go_wp2_with fail
    refine (signedOf 1 v _ lv hv).mono ?_
    rintro e w' ⟨rfl, rfl⟩
    go_wp2_with fail
    go_ret2
    exact ⟨rIB HV.out.symm rfl, rfl⟩
  · have HV : Hid (Pl.extV v = Pl.sg 1 v % 65536) := hide (by simp [Pl.extV, k])
    have e1 := Pl.sgnV_ok k
    have hw : IntKind.u16.wrap (Pl.sg 1 v) = Pl.sg 1 v % 65536 := IntKind.wrap_u16 _
    go_enter Try.func29, Try.ntmps29
    go_wp2_with fail
    refine (signedOf 1 v _ lv hv).mono ?_
    rintro e w' ⟨rfl, rfl⟩
    go_wp2_with fail
    go_ret2
    exact ⟨rIB HV.out.symm rfl, rfl⟩

theorem specExtendWord (v : Int) (w : World) :
    Calls Try.prog 30 #[.int .i64 v] w fun e w' => e = .returned (.tuple #[.int .i64 (Pl.extV v), .bool (Pl.okv 1 v)]) ∧ w' = w := by
  cases k : Pl.okv 1 v
  · have HV : Hid (Pl.extV v = 0) := hide (by simp [Pl.extV, k])
    go_enter Try.func30, Try.ntmps30
    go_wp2_with fail
    refine (l1Value 1 v _).mono ?_
    rintro e w' ⟨rfl, rfl⟩
    go_wp2_with fail
    go_ret2
    exact ⟨rIB HV.out.symm rfl, rfl⟩
  · have HV : Hid (Pl.extV v = Pl.sg 1 v % 65536) := hide (by simp [Pl.extV, k])
    have em := Pl.and65535 (Pl.sg 1 v)
    go_enter Try.func30, Try.ntmps30
    go_wp2_with fail
    refine (l1Value 1 v _).mono ?_
    rintro e w' ⟨rfl, rfl⟩
    go_wp2_with fail
    refine (l1SignedOk 1 v _ k).mono ?_
    rintro e w' ⟨rfl, rfl⟩
    go_wp2_with fail
    go_ret2
    exact ⟨rIB HV.out.symm rfl, rfl⟩

theorem swapBytes (v : Int) (w : World) (lv : -9223372036854775808 ≤ v) (hv : v ≤ 9223372036854775807) :
    Calls Try.prog 32 #[.int .i64 v] w fun e w' => e = .returned (.tuple #[.int .i64 (Pl.swpV v), .bool (Pl.okv 2 v)]) ∧ w' = w := by
  cases k : Pl.okv 2 v
  · have HV : Hid (Pl.swpV v = 0) := hide (by simp [Pl.swpV, k])
    go_enter Try.func32, Try.ntmps32
    go_wp2_with fail
    refine (signedOf 2 v _ lv hv).mono ?_
    rintro e w' ⟨rfl, rfl⟩
    go_wp2_with fail
    go_ret2
    exact ⟨rIB HV.out.symm rfl, rfl⟩
  · have HV : Hid (Pl.swpV v = v % 256 * 256 + v / 256) := hide (by simp [Pl.swpV, k])
    have h0 : 0 ≤ v := by have := Pl.top_ok k; omega
    have h1 : v < 65536 := by have := Pl.top_ok k; omega
    go_enter Try.func32, Try.ntmps32
    go_wp2_with fail
    refine (signedOf 2 v _ lv hv).mono ?_
    rintro e w' ⟨rfl, rfl⟩
    go_wp2_with fail
    go_ret2
    exact ⟨rIB HV.out.symm rfl, rfl⟩

theorem specSwapBytes (v : Int) (w : World) :
    Calls Try.prog 33 #[.int .i64 v] w fun e w' => e = .returned (.tuple #[.int .i64 (Pl.swpV v), .bool (Pl.okv 2 v)]) ∧ w' = w := by
  cases k : Pl.okv 2 v
  · have HV : Hid (Pl.swpV v = 0) := hide (by simp [Pl.swpV, k])
    go_enter Try.func33, Try.ntmps33
    go_wp2_with fail
    refine (l1Value 2 v _).mono ?_
    rintro e w' ⟨rfl, rfl⟩
    go_wp2_with fail
    go_ret2
    exact ⟨rIB HV.out.symm rfl, rfl⟩
  · have HV : Hid (Pl.swpV v = v % 256 * 256 + v / 256) := hide (by simp [Pl.swpV, k])
    have h0 : 0 ≤ v := by have := Pl.top_ok k; omega
    have h1 : v < 65536 := by have := Pl.top_ok k; omega
    have em := Pl.and255 v
    have eo := Pl.swap_or v h0 h1
    go_enter Try.func33, Try.ntmps33
    go_wp2_with fail
    refine (l1Value 2 v _).mono ?_
    rintro e w' ⟨rfl, rfl⟩
    go_wp2_with fail
    go_ret2
    exact ⟨rIB HV.out.symm rfl, rfl⟩

end Go.Proofs.Ytogckmalfdddcaa
