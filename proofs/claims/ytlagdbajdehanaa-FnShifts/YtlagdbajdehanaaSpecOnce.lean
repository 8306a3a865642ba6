/- What the model's one place answers, for each kind and size: one contract each; none changes the world. -/
import Derived.Test.YtlagdbajdehanaaSpecWord
import Derived.Test.YtlagdbajdehanaaShf
namespace Go.Proofs.Ytlagdbajdehanaa
open Go.RowKit
set_option linter.unusedVariables false
set_option linter.unusedSimpArgs false

theorem Pl.and16 {f : Int} (h0 : 0 ≤ f) (h1 : f ≤ 31) : bits .and .i64 f 16 = f / 16 * 16 := by
  obtain ⟨n, rfl⟩ := Int.eq_ofNat_of_zero_le h0
  have hn : n < 32 := by omega
  have : ∀ m : Nat, m < 32 → bits .and .i64 (m : Int) 16 = (m : Int) / 16 * 16 := by decide
  exact this n hn
theorem Pl.or_low {a q : Int} (h0 : 0 ≤ a) (h1 : a < 65536) (h2 : a % 2 = 0) (q0 : 0 ≤ q) (q1 : q ≤ 1) : bits .or .i64 a q = a + q :=
  bits_join .i64 62 (by decide) wraps_i64 1 a q (by omega) (by omega) (by omega) (by omega) (by omega) (by omega)
theorem Pl.or_high1 {a q : Int} (h0 : 0 ≤ a) (h1 : a < 128) (q0 : 0 ≤ q) (q1 : q ≤ 1) : bits .or .i64 a (q * 128) = a + q * 128 := by
  rw [Pl.or_comm, bits_join .i64 62 (by decide) wraps_i64 7 (q * 128) a (by omega) (by omega) (by omega) (by omega) (by omega) (by omega)]; omega
theorem Pl.or_high2 {a q : Int} (h0 : 0 ≤ a) (h1 : a < 32768) (q0 : 0 ≤ q) (q1 : q ≤ 1) : bits .or .i64 a (q * 32768) = a + q * 32768 := by
  rw [Pl.or_comm, bits_join .i64 62 (by decide) wraps_i64 15 (q * 32768) a (by omega) (by omega) (by omega) (by omega) (by omega) (by omega)]; omega
theorem Pl.or_flags {c o x : Int} {z n : Bool} (hc : c = 0 ∨ c = 1) (ho : o = 0 ∨ o = 2) (hx : x = 0 ∨ x = 16) :
    bits .or .i64 (bits .or .i64 (bits .or .i64 c (bits .or .i64 (Pl.fl z 4) (Pl.fl n 8))) o) x = c + o + (Pl.fl z 4 + Pl.fl n 8) + x := by
  rcases hc with rfl | rfl <;> rcases ho with rfl | rfl <;> rcases hx with rfl | rfl <;> cases z <;> cases n <;> decide
theorem Pl.fl_two (b : Bool) : Pl.fl b 2 = 0 ∨ Pl.fl b 2 = 2 := by cases b <;> simp [Pl.fl]

theorem l1FlagH1 (v : Int) (w : World) : Calls Try.prog 68 #[.bool (decide (128 ≤ v)), .int .i64 1] w fun e w' => e = .returned (.int .i64 (Pl.hi 1 v)) ∧ w' = w := by
  have e : Pl.hi 1 v = Pl.fl (decide (128 ≤ v)) 1 := by simp [Pl.hi, Pl.fl, Pl.top]
  rw [e]; exact l1Flag _ 1 w
theorem l1FlagH2 (v : Int) (w : World) : Calls Try.prog 68 #[.bool (decide (32768 ≤ v)), .int .i64 1] w fun e w' => e = .returned (.int .i64 (Pl.hi 2 v)) ∧ w' = w := by
  have e : Pl.hi 2 v = Pl.fl (decide (32768 ≤ v)) 1 := by simp [Pl.hi, Pl.fl, Pl.top]
  rw [e]; exact l1Flag _ 1 w
theorem l1FlagX (f : Int) (f0 : 0 ≤ f) (f1 : f ≤ 31) (w : World) : Calls Try.prog 68 #[.bool (f / 16 * 16 != 0), .int .i64 1] w fun e w' => e = .returned (.int .i64 (f / 16)) ∧ w' = w := by
  refine (l1Flag _ 1 w).mono ?_
  rintro e w' ⟨rfl, rfl⟩
  refine ⟨rI ?_, rfl⟩
  obtain h | h : f / 16 = 0 ∨ f / 16 = 1 := by omega
  all_goals rw [h]; decide

theorem l3Left (k : Int) (w : World) : Calls Try.prog 45 #[.int .i64 k] w fun e w' => e = .returned (.bool (k % 2 == 0)) ∧ w' = w := by
  have h := Pl.and1 k
  go_enter Try.func45, Try.ntmps45
  go_wp2
  go_ret
  exact ⟨rfl, rfl⟩
theorem l3LeftT (k : Int) (h : (k % 2 == 0) = true) (w : World) : Calls Try.prog 45 #[.int .i64 k] w fun e w' => e = .returned (.bool true) ∧ w' = w := by
  rw [← h]; exact l3Left k w
theorem l3LeftF (k : Int) (h : (k % 2 == 0) = false) (w : World) : Calls Try.prog 45 #[.int .i64 k] w fun e w' => e = .returned (.bool false) ∧ w' = w := by
  rw [← h]; exact l3Left k w

theorem l3Once01 (f v : Int) (w : World) (f0 : 0 ≤ f) (f1 : f ≤ 31) (v0 : 0 ≤ v) (v1 : v < 256) :
    Calls Try.prog 42 #[.int .i64 0, .int .i64 1, .int .i64 f, .int .i64 v] w fun e w' => e = .returned (.tuple #[.int .i64 (Pl.nv 0 1 (f / 16) v), .int .i64 (Pl.onF 0 1 (f / 16) v)]) ∧ w' = w := by
  have hA := Pl.and1 v
  have hB := Pl.and16 f0 f1
  obtain ⟨q0, q1⟩ := Pl.hi_bd 1 v
  have hC := Pl.and255 (v * 2)
  have hD := Pl.or_low (a := v * 2 % 256) (q := 0) (by omega) (by omega) (by omega) (by omega) (by omega)
  rw [Int.add_zero] at hD
  have hW : Hid (Pl.nv 0 1 (f / 16) v = (v * 2 % 256)) := hide (by simp only [Pl.nv, Pl.inn, Pl.fell, Pl.top, Int.reduceMod, Int.reduceEq, Int.reduceLE, if_true, if_false, or_self] <;> omega)
  have hO : Hid (Pl.onF 0 1 (f / 16) v = Pl.hi 1 v + Pl.fl (Pl.hi 1 v != Pl.hi 1 (v * 2 % 256)) 2 + (Pl.fl ((v * 2 % 256) == 0) 4 + Pl.fl (decide (128 ≤ (v * 2 % 256))) 8) + Pl.hi 1 v * 16) := hide (by simp only [Pl.onF, Pl.vfl, hW.out, Pl.zn, Pl.nx, Pl.fell, Pl.top, Int.reduceMod, Int.reduceEq, Int.reduceDiv, if_true, if_false, decide_true, Bool.true_and, or_self] <;> omega)
  go_enter Try.func42, Try.ntmps42
  go_wp2_with fail
  refine (l1Top1 _).mono ?_
  rintro e w' ⟨rfl, rfl⟩
  go_wp2_with fail
  refine (l1FlagH1 _ _).mono ?_
  rintro e w' ⟨rfl, rfl⟩
  go_wp2_with fail
  refine (l3LeftT 0 rfl _).mono ?_
  rintro e w' ⟨rfl, rfl⟩
  go_wp2_with fail
  refine (l3LeftT 0 rfl _).mono ?_
  rintro e w' ⟨rfl, rfl⟩
  go_wp2_with fail
  refine (l1Zn1 _ _).mono ?_
  rintro e w' ⟨rfl, rfl⟩
  go_wp2_with fail
  refine (l1FlagH1 _ _).mono ?_
  rintro e w' ⟨rfl, rfl⟩
  go_wp2_with fail
  refine (l1Flag _ _ _).mono ?_
  rintro e w' ⟨rfl, rfl⟩
  go_wp2_with fail
  go_ret2
  exact ⟨rII hW.out.symm (by rw [Pl.or_flags (by omega) (Pl.fl_two _) (by omega)]; exact hO.out.symm), rfl⟩

theorem l3Once11 (f v : Int) (w : World) (f0 : 0 ≤ f) (f1 : f ≤ 31) (v0 : 0 ≤ v) (v1 : v < 256) :
    Calls Try.prog 42 #[.int .i64 1, .int .i64 1, .int .i64 f, .int .i64 v] w fun e w' => e = .returned (.tuple #[.int .i64 (Pl.nv 1 1 (f / 16) v), .int .i64 (Pl.onF 1 1 (f / 16) v)]) ∧ w' = w := by
  have hA := Pl.and1 v
  have hB := Pl.and16 f0 f1
  obtain ⟨q0, q1⟩ := Pl.hi_bd 1 v
  have hD := Pl.or_high1 (a := v / 2) (q := Pl.hi 1 v) (by omega) (by omega) (by omega) (by omega)
  have hW : Hid (Pl.nv 1 1 (f / 16) v = (v / 2 + Pl.hi 1 v * 128)) := hide (by simp only [Pl.nv, Pl.inn, Pl.fell, Pl.top, Int.reduceMod, Int.reduceEq, Int.reduceLE, if_true, if_false] <;> omega)
  have hO : Hid (Pl.onF 1 1 (f / 16) v = v % 2 + Pl.fl false 2 + (Pl.fl ((v / 2 + Pl.hi 1 v * 128) == 0) 4 + Pl.fl (decide (128 ≤ (v / 2 + Pl.hi 1 v * 128))) 8) + v % 2 * 16) := hide (by simp only [Pl.onF, Pl.vfl, hW.out, Pl.zn, Pl.nx, Pl.fell, Pl.top, Int.reduceMod, Int.reduceEq, Int.reduceDiv, if_true, if_false, decide_false, Bool.false_and, or_self] <;> omega)
  go_enter Try.func42, Try.ntmps42
  go_wp2_with fail
  refine (l1Top1 _).mono ?_
  rintro e w' ⟨rfl, rfl⟩
  go_wp2_with fail
  refine (l1FlagH1 _ _).mono ?_
  rintro e w' ⟨rfl, rfl⟩
  go_wp2_with fail
  refine (l3LeftF 1 rfl _).mono ?_
  rintro e w' ⟨rfl, rfl⟩
  go_wp2_with fail
  refine (l3LeftF 1 rfl _).mono ?_
  rintro e w' ⟨rfl, rfl⟩
  go_wp2_with fail
  refine (l1Zn1 _ _).mono ?_
  rintro e w' ⟨rfl, rfl⟩
  go_wp2_with fail
  refine (l1Flag _ _ _).mono ?_
  rintro e w' ⟨rfl, rfl⟩
  go_wp2_with fail
  go_ret2
  exact ⟨rII hW.out.symm (by rw [Pl.or_flags (by omega) (Pl.fl_two _) (by omega)]; exact hO.out.symm), rfl⟩

theorem l3Once21 (f v : Int) (w : World) (f0 : 0 ≤ f) (f1 : f ≤ 31) (v0 : 0 ≤ v) (v1 : v < 256) :
    Calls Try.prog 42 #[.int .i64 2, .int .i64 1, .int .i64 f, .int .i64 v] w fun e w' => e = .returned (.tuple #[.int .i64 (Pl.nv 2 1 (f / 16) v), .int .i64 (Pl.onF 2 1 (f / 16) v)]) ∧ w' = w := by
  have hA := Pl.and1 v
  have hB := Pl.and16 f0 f1
  obtain ⟨q0, q1⟩ := Pl.hi_bd 1 v
  have hC := Pl.and255 (v * 2)
  have hD := Pl.or_low (a := v * 2 % 256) (q := 0) (by omega) (by omega) (by omega) (by omega) (by omega)
  rw [Int.add_zero] at hD
  have hW : Hid (Pl.nv 2 1 (f / 16) v = (v * 2 % 256)) := hide (by simp only [Pl.nv, Pl.inn, Pl.fell, Pl.top, Int.reduceMod, Int.reduceEq, Int.reduceLE, if_true, if_false, or_self] <;> omega)
  have hO : Hid (Pl.onF 2 1 (f / 16) v = Pl.hi 1 v + Pl.fl false 2 + (Pl.fl ((v * 2 % 256) == 0) 4 + Pl.fl (decide (128 ≤ (v * 2 % 256))) 8) + Pl.hi 1 v * 16) := hide (by simp only [Pl.onF, Pl.vfl, hW.out, Pl.zn, Pl.nx, Pl.fell, Pl.top, Int.reduceMod, Int.reduceEq, Int.reduceDiv, if_true, if_false, decide_false, Bool.false_and, or_self] <;> omega)
  go_enter Try.func42, Try.ntmps42
  go_wp2_with fail
  refine (l1Top1 _).mono ?_
  rintro e w' ⟨rfl, rfl⟩
  go_wp2_with fail
  refine (l1FlagH1 _ _).mono ?_
  rintro e w' ⟨rfl, rfl⟩
  go_wp2_with fail
  refine (l3LeftT 2 rfl _).mono ?_
  rintro e w' ⟨rfl, rfl⟩
  go_wp2_with fail
  refine (l3LeftT 2 rfl _).mono ?_
  rintro e w' ⟨rfl, rfl⟩
  go_wp2_with fail
  refine (l1Zn1 _ _).mono ?_
  rintro e w' ⟨rfl, rfl⟩
  go_wp2_with fail
  refine (l1Flag _ _ _).mono ?_
  rintro e w' ⟨rfl, rfl⟩
  go_wp2_with fail
  go_ret2
  exact ⟨rII hW.out.symm (by rw [Pl.or_flags (by omega) (Pl.fl_two _) (by omega)]; exact hO.out.symm), rfl⟩

theorem l3Once31 (f v : Int) (w : World) (f0 : 0 ≤ f) (f1 : f ≤ 31) (v0 : 0 ≤ v) (v1 : v < 256) :
    Calls Try.prog 42 #[.int .i64 3, .int .i64 1, .int .i64 f, .int .i64 v] w fun e w' => e = .returned (.tuple #[.int .i64 (Pl.nv 3 1 (f / 16) v), .int .i64 (Pl.onF 3 1 (f / 16) v)]) ∧ w' = w := by
  have hA := Pl.and1 v
  have hB := Pl.and16 f0 f1
  obtain ⟨q0, q1⟩ := Pl.hi_bd 1 v
  have hD := Pl.or_high1 (a := v / 2) (q := 0) (by omega) (by omega) (by omega) (by omega)
  rw [Int.zero_mul, Int.add_zero] at hD
  have hW : Hid (Pl.nv 3 1 (f / 16) v = (v / 2)) := hide (by simp only [Pl.nv, Pl.inn, Pl.fell, Pl.top, Int.reduceMod, Int.reduceEq, Int.reduceLE, if_true, if_false, or_self] <;> omega)
  have hO : Hid (Pl.onF 3 1 (f / 16) v = v % 2 + Pl.fl false 2 + (Pl.fl ((v / 2) == 0) 4 + Pl.fl (decide (128 ≤ (v / 2))) 8) + v % 2 * 16) := hide (by simp only [Pl.onF, Pl.vfl, hW.out, Pl.zn, Pl.nx, Pl.fell, Pl.top, Int.reduceMod, Int.reduceEq, Int.reduceDiv, if_true, if_false, decide_false, Bool.false_and, or_self] <;> omega)
  go_enter Try.func42, Try.ntmps42
  go_wp2_with fail
  refine (l1Top1 _).mono ?_
  rintro e w' ⟨rfl, rfl⟩
  go_wp2_with fail
  refine (l1FlagH1 _ _).mono ?_
  rintro e w' ⟨rfl, rfl⟩
  go_wp2_with fail
  refine (l3LeftF 3 rfl _).mono ?_
  rintro e w' ⟨rfl, rfl⟩
  go_wp2_with fail
  refine (l3LeftF 3 rfl _).mono ?_
  rintro e w' ⟨rfl, rfl⟩
  go_wp2_with fail
  refine (l1Zn1 _ _).mono ?_
  rintro e w' ⟨rfl, rfl⟩
  go_wp2_with fail
  refine (l1Flag _ _ _).mono ?_
  rintro e w' ⟨rfl, rfl⟩
  go_wp2_with fail
  go_ret2
  exact ⟨rII hW.out.symm (by rw [Pl.or_flags (by omega) (Pl.fl_two _) (by omega)]; exact hO.out.symm), rfl⟩

theorem l3Once41 (f v : Int) (w : World) (f0 : 0 ≤ f) (f1 : f ≤ 31) (v0 : 0 ≤ v) (v1 : v < 256) :
    Calls Try.prog 42 #[.int .i64 4, .int .i64 1, .int .i64 f, .int .i64 v] w fun e w' => e = .returned (.tuple #[.int .i64 (Pl.nv 4 1 (f / 16) v), .int .i64 (Pl.onF 4 1 (f / 16) v)]) ∧ w' = w := by
  have hA := Pl.and1 v
  have hB := Pl.and16 f0 f1
  obtain ⟨q0, q1⟩ := Pl.hi_bd 1 v
  have hC := Pl.and255 (v * 2)
  have hD := Pl.or_low (a := v * 2 % 256) (q := Pl.hi 1 v) (by omega) (by omega) (by omega) (by omega) (by omega)
  have hW : Hid (Pl.nv 4 1 (f / 16) v = (v * 2 % 256 + Pl.hi 1 v)) := hide (by simp only [Pl.nv, Pl.inn, Pl.fell, Pl.top, Int.reduceMod, Int.reduceEq, Int.reduceLE, if_true, if_false, or_false] <;> omega)
  have hO : Hid (Pl.onF 4 1 (f / 16) v = Pl.hi 1 v + Pl.fl false 2 + (Pl.fl ((v * 2 % 256 + Pl.hi 1 v) == 0) 4 + Pl.fl (decide (128 ≤ (v * 2 % 256 + Pl.hi 1 v))) 8) + f / 16 * 16) := hide (by simp only [Pl.onF, Pl.vfl, hW.out, Pl.zn, Pl.nx, Pl.fell, Pl.top, Int.reduceMod, Int.reduceEq, Int.reduceDiv, if_true, if_false, decide_false, Bool.false_and, or_false] <;> omega)
  go_enter Try.func42, Try.ntmps42
  go_wp2_with fail
  refine (l1Top1 _).mono ?_
  rintro e w' ⟨rfl, rfl⟩
  go_wp2_with fail
  refine (l1FlagH1 _ _).mono ?_
  rintro e w' ⟨rfl, rfl⟩
  go_wp2_with fail
  refine (l3LeftT 4 rfl _).mono ?_
  rintro e w' ⟨rfl, rfl⟩
  go_wp2_with fail
  refine (l3LeftT 4 rfl _).mono ?_
  rintro e w' ⟨rfl, rfl⟩
  go_wp2_with fail
  refine (l1Zn1 _ _).mono ?_
  rintro e w' ⟨rfl, rfl⟩
  go_wp2_with fail
  refine (l1Flag _ _ _).mono ?_
  rintro e w' ⟨rfl, rfl⟩
  go_wp2_with fail
  go_ret2
  exact ⟨rII hW.out.symm (by rw [Pl.or_flags (by omega) (Pl.fl_two _) (by omega)]; exact hO.out.symm), rfl⟩

theorem l3Once51 (f v : Int) (w : World) (f0 : 0 ≤ f) (f1 : f ≤ 31) (v0 : 0 ≤ v) (v1 : v < 256) :
    Calls Try.prog 42 #[.int .i64 5, .int .i64 1, .int .i64 f, .int .i64 v] w fun e w' => e = .returned (.tuple #[.int .i64 (Pl.nv 5 1 (f / 16) v), .int .i64 (Pl.onF 5 1 (f / 16) v)]) ∧ w' = w := by
  have hA := Pl.and1 v
  have hB := Pl.and16 f0 f1
  obtain ⟨q0, q1⟩ := Pl.hi_bd 1 v
  have hD := Pl.or_high1 (a := v / 2) (q := (v % 2)) (by omega) (by omega) (by omega) (by omega)
  have hW : Hid (Pl.nv 5 1 (f / 16) v = (v / 2 + (v % 2) * 128)) := hide (by simp only [Pl.nv, Pl.inn, Pl.fell, Pl.top, Int.reduceMod, Int.reduceEq, Int.reduceLE, if_true, if_false, or_true] <;> omega)
  have hO : Hid (Pl.onF 5 1 (f / 16) v = v % 2 + Pl.fl false 2 + (Pl.fl ((v / 2 + (v % 2) * 128) == 0) 4 + Pl.fl (decide (128 ≤ (v / 2 + (v % 2) * 128))) 8) + f / 16 * 16) := hide (by simp only [Pl.onF, Pl.vfl, hW.out, Pl.zn, Pl.nx, Pl.fell, Pl.top, Int.reduceMod, Int.reduceEq, Int.reduceDiv, if_true, if_false, decide_false, Bool.false_and, or_true] <;> omega)
  go_enter Try.func42, Try.ntmps42
  go_wp2_with fail
  refine (l1Top1 _).mono ?_
  rintro e w' ⟨rfl, rfl⟩
  go_wp2_with fail
  refine (l1FlagH1 _ _).mono ?_
  rintro e w' ⟨rfl, rfl⟩
  go_wp2_with fail
  refine (l3LeftF 5 rfl _).mono ?_
  rintro e w' ⟨rfl, rfl⟩
  go_wp2_with fail
  refine (l3LeftF 5 rfl _).mono ?_
  rintro e w' ⟨rfl, rfl⟩
  go_wp2_with fail
  refine (l1Zn1 _ _).mono ?_
  rintro e w' ⟨rfl, rfl⟩
  go_wp2_with fail
  refine (l1Flag _ _ _).mono ?_
  rintro e w' ⟨rfl, rfl⟩
  go_wp2_with fail
  go_ret2
  exact ⟨rII hW.out.symm (by rw [Pl.or_flags (by omega) (Pl.fl_two _) (by omega)]; exact hO.out.symm), rfl⟩

theorem l3Once61 (f v : Int) (w : World) (f0 : 0 ≤ f) (f1 : f ≤ 31) (v0 : 0 ≤ v) (v1 : v < 256) :
    Calls Try.prog 42 #[.int .i64 6, .int .i64 1, .int .i64 f, .int .i64 v] w fun e w' => e = .returned (.tuple #[.int .i64 (Pl.nv 6 1 (f / 16) v), .int .i64 (Pl.onF 6 1 (f / 16) v)]) ∧ w' = w := by
  have hA := Pl.and1 v
  have hB := Pl.and16 f0 f1
  obtain ⟨q0, q1⟩ := Pl.hi_bd 1 v
  have hC := Pl.and255 (v * 2)
  have hD := Pl.or_low (a := v * 2 % 256) (q := (f / 16)) (by omega) (by omega) (by omega) (by omega) (by omega)
  have hW : Hid (Pl.nv 6 1 (f / 16) v = (v * 2 % 256 + (f / 16))) := hide (by simp only [Pl.nv, Pl.inn, Pl.fell, Pl.top, Int.reduceMod, Int.reduceEq, Int.reduceLE, if_true, if_false, or_self] <;> omega)
  have hO : Hid (Pl.onF 6 1 (f / 16) v = Pl.hi 1 v + Pl.fl false 2 + (Pl.fl ((v * 2 % 256 + (f / 16)) == 0) 4 + Pl.fl (decide (128 ≤ (v * 2 % 256 + (f / 16)))) 8) + Pl.hi 1 v * 16) := hide (by simp only [Pl.onF, Pl.vfl, hW.out, Pl.zn, Pl.nx, Pl.fell, Pl.top, Int.reduceMod, Int.reduceEq, Int.reduceDiv, if_true, if_false, decide_false, Bool.false_and, or_self] <;> omega)
  go_enter Try.func42, Try.ntmps42
  go_wp2_with fail
  refine (l1Top1 _).mono ?_
  rintro e w' ⟨rfl, rfl⟩
  go_wp2_with fail
  refine (l1FlagH1 _ _).mono ?_
  rintro e w' ⟨rfl, rfl⟩
  go_wp2_with fail
  refine (l3LeftT 6 rfl _).mono ?_
  rintro e w' ⟨rfl, rfl⟩
  go_wp2_with fail
  refine (l1FlagX f f0 f1 _).mono ?_
  rintro e w' ⟨rfl, rfl⟩
  go_wp2_with fail
  refine (l3LeftT 6 rfl _).mono ?_
  rintro e w' ⟨rfl, rfl⟩
  go_wp2_with fail
  refine (l1Zn1 _ _).mono ?_
  rintro e w' ⟨rfl, rfl⟩
  go_wp2_with fail
  refine (l1Flag _ _ _).mono ?_
  rintro e w' ⟨rfl, rfl⟩
  go_wp2_with fail
  go_ret2
  exact ⟨rII hW.out.symm (by rw [Pl.or_flags (by omega) (Pl.fl_two _) (by omega)]; exact hO.out.symm), rfl⟩

theorem l3Once71 (f v : Int) (w : World) (f0 : 0 ≤ f) (f1 : f ≤ 31) (v0 : 0 ≤ v) (v1 : v < 256) :
    Calls Try.prog 42 #[.int .i64 7, .int .i64 1, .int .i64 f, .int .i64 v] w fun e w' => e = .returned (.tuple #[.int .i64 (Pl.nv 7 1 (f / 16) v), .int .i64 (Pl.onF 7 1 (f / 16) v)]) ∧ w' = w := by
  have hA := Pl.and1 v
  have hB := Pl.and16 f0 f1
  obtain ⟨q0, q1⟩ := Pl.hi_bd 1 v
  have hD := Pl.or_high1 (a := v / 2) (q := (f / 16)) (by omega) (by omega) (by omega) (by omega)
  have hW : Hid (Pl.nv 7 1 (f / 16) v = (v / 2 + (f / 16) * 128)) := hide (by simp only [Pl.nv, Pl.inn, Pl.fell, Pl.top, Int.reduceMod, Int.reduceEq, Int.reduceLE, if_true, if_false, or_self] <;> omega)
  have hO : Hid (Pl.onF 7 1 (f / 16) v = v % 2 + Pl.fl false 2 + (Pl.fl ((v / 2 + (f / 16) * 128) == 0) 4 + Pl.fl (decide (128 ≤ (v / 2 + (f / 16) * 128))) 8) + v % 2 * 16) := hide (by simp only [Pl.onF, Pl.vfl, hW.out, Pl.zn, Pl.nx, Pl.fell, Pl.top, Int.reduceMod, Int.reduceEq, Int.reduceDiv, if_true, if_false, decide_false, Bool.false_and, or_self] <;> omega)
  go_enter Try.func42, Try.ntmps42
  go_wp2_with fail
  refine (l1Top1 _).mono ?_
  rintro e w' ⟨rfl, rfl⟩
  go_wp2_with fail
  refine (l1FlagH1 _ _).mono ?_
  rintro e w' ⟨rfl, rfl⟩
  go_wp2_with fail
  refine (l3LeftF 7 rfl _).mono ?_
  rintro e w' ⟨rfl, rfl⟩
  go_wp2_with fail
  refine (l1FlagX f f0 f1 _).mono ?_
  rintro e w' ⟨rfl, rfl⟩
  go_wp2_with fail
  refine (l3LeftF 7 rfl _).mono ?_
  rintro e w' ⟨rfl, rfl⟩
  go_wp2_with fail
  refine (l1Zn1 _ _).mono ?_
  rintro e w' ⟨rfl, rfl⟩
  go_wp2_with fail
  refine (l1Flag _ _ _).mono ?_
  rintro e w' ⟨rfl, rfl⟩
  go_wp2_with fail
  go_ret2
  exact ⟨rII hW.out.symm (by rw [Pl.or_flags (by omega) (Pl.fl_two _) (by omega)]; exact hO.out.symm), rfl⟩

theorem l3Once02 (f v : Int) (w : World) (f0 : 0 ≤ f) (f1 : f ≤ 31) (v0 : 0 ≤ v) (v1 : v < 65536) :
    Calls Try.prog 42 #[.int .i64 0, .int .i64 2, .int .i64 f, .int .i64 v] w fun e w' => e = .returned (.tuple #[.int .i64 (Pl.nv 0 2 (f / 16) v), .int .i64 (Pl.onF 0 2 (f / 16) v)]) ∧ w' = w := by
  have hA := Pl.and1 v
  have hB := Pl.and16 f0 f1
  obtain ⟨q0, q1⟩ := Pl.hi_bd 2 v
  have hC := Pl.and65535 (v * 2)
  have hD := Pl.or_low (a := v * 2 % 65536) (q := 0) (by omega) (by omega) (by omega) (by omega) (by omega)
  rw [Int.add_zero] at hD
  have hW : Hid (Pl.nv 0 2 (f / 16) v = (v * 2 % 65536)) := hide (by simp only [Pl.nv, Pl.inn, Pl.fell, Pl.top, Int.reduceMod, Int.reduceEq, Int.reduceLE, if_true, if_false, or_self] <;> omega)
  have hO : Hid (Pl.onF 0 2 (f / 16) v = Pl.hi 2 v + Pl.fl (Pl.hi 2 v != Pl.hi 2 (v * 2 % 65536)) 2 + (Pl.fl ((v * 2 % 65536) == 0) 4 + Pl.fl (decide (32768 ≤ (v * 2 % 65536))) 8) + Pl.hi 2 v * 16) := hide (by simp only [Pl.onF, Pl.vfl, hW.out, Pl.zn, Pl.nx, Pl.fell, Pl.top, Int.reduceMod, Int.reduceEq, Int.reduceDiv, if_true, if_false, decide_true, Bool.true_and, or_self] <;> omega)
  go_enter Try.func42, Try.ntmps42
  go_wp2_with fail
  refine (l1Top2 _).mono ?_
  rintro e w' ⟨rfl, rfl⟩
  go_wp2_with fail
  refine (l1FlagH2 _ _).mono ?_
  rintro e w' ⟨rfl, rfl⟩
  go_wp2_with fail
  refine (l3LeftT 0 rfl _).mono ?_
  rintro e w' ⟨rfl, rfl⟩
  go_wp2_with fail
  refine (l3LeftT 0 rfl _).mono ?_
  rintro e w' ⟨rfl, rfl⟩
  go_wp2_with fail
  refine (l1Zn2 _ _).mono ?_
  rintro e w' ⟨rfl, rfl⟩
  go_wp2_with fail
  refine (l1FlagH2 _ _).mono ?_
  rintro e w' ⟨rfl, rfl⟩
  go_wp2_with fail
  refine (l1Flag _ _ _).mono ?_
  rintro e w' ⟨rfl, rfl⟩
  go_wp2_with fail
  go_ret2
  exact ⟨rII hW.out.symm (by rw [Pl.or_flags (by omega) (Pl.fl_two _) (by omega)]; exact hO.out.symm), rfl⟩

theorem l3Once12 (f v : Int) (w : World) (f0 : 0 ≤ f) (f1 : f ≤ 31) (v0 : 0 ≤ v) (v1 : v < 65536) :
    Calls Try.prog 42 #[.int .i64 1, .int .i64 2, .int .i64 f, .int .i64 v] w fun e w' => e = .returned (.tuple #[.int .i64 (Pl.nv 1 2 (f / 16) v), .int .i64 (Pl.onF 1 2 (f / 16) v)]) ∧ w' = w := by
  have hA := Pl.and1 v
  have hB := Pl.and16 f0 f1
  obtain ⟨q0, q1⟩ := Pl.hi_bd 2 v
  have hD := Pl.or_high2 (a := v / 2) (q := Pl.hi 2 v) (by omega) (by omega) (by omega) (by omega)
  have hW : Hid (Pl.nv 1 2 (f / 16) v = (v / 2 + Pl.hi 2 v * 32768)) := hide (by simp only [Pl.nv, Pl.inn, Pl.fell, Pl.top, Int.reduceMod, Int.reduceEq, Int.reduceLE, if_true, if_false] <;> omega)
  have hO : Hid (Pl.onF 1 2 (f / 16) v = v % 2 + Pl.fl false 2 + (Pl.fl ((v / 2 + Pl.hi 2 v * 32768) == 0) 4 + Pl.fl (decide (32768 ≤ (v / 2 + Pl.hi 2 v * 32768))) 8) + v % 2 * 16) := hide (by simp only [Pl.onF, Pl.vfl, hW.out, Pl.zn, Pl.nx, Pl.fell, Pl.top, Int.reduceMod, Int.reduceEq, Int.reduceDiv, if_true, if_false, decide_false, Bool.false_and, or_self] <;> omega)
  go_enter Try.func42, Try.ntmps42
  go_wp2_with fail
  refine (l1Top2 _).mono ?_
  rintro e w' ⟨rfl, rfl⟩
  go_wp2_with fail
  refine (l1FlagH2 _ _).mono ?_
  rintro e w' ⟨rfl, rfl⟩
  go_wp2_with fail
  refine (l3LeftF 1 rfl _).mono ?_
  rintro e w' ⟨rfl, rfl⟩
  go_wp2_with fail
  refine (l3LeftF 1 rfl _).mono ?_
  rintro e w' ⟨rfl, rfl⟩
  go_wp2_with fail
  refine (l1Zn2 _ _).mono ?_
  rintro e w' ⟨rfl, rfl⟩
  go_wp2_with fail
  refine (l1Flag _ _ _).mono ?_
  rintro e w' ⟨rfl, rfl⟩
  go_wp2_with fail
  go_ret2
  exact ⟨rII hW.out.symm (by rw [Pl.or_flags (by omega) (Pl.fl_two _) (by omega)]; exact hO.out.symm), rfl⟩

theorem l3Once22 (f v : Int) (w : World) (f0 : 0 ≤ f) (f1 : f ≤ 31) (v0 : 0 ≤ v) (v1 : v < 65536) :
    Calls Try.prog 42 #[.int .i64 2, .int .i64 2, .int .i64 f, .int .i64 v] w fun e w' => e = .returned (.tuple #[.int .i64 (Pl.nv 2 2 (f / 16) v), .int .i64 (Pl.onF 2 2 (f / 16) v)]) ∧ w' = w := by
  have hA := Pl.and1 v
  have hB := Pl.and16 f0 f1
  obtain ⟨q0, q1⟩ := Pl.hi_bd 2 v
  have hC := Pl.and65535 (v * 2)
  have hD := Pl.or_low (a := v * 2 % 65536) (q := 0) (by omega) (by omega) (by omega) (by omega) (by omega)
  rw [Int.add_zero] at hD
  have hW : Hid (Pl.nv 2 2 (f / 16) v = (v * 2 % 65536)) := hide (by simp only [Pl.nv, Pl.inn, Pl.fell, Pl.top, Int.reduceMod, Int.reduceEq, Int.reduceLE, if_true, if_false, or_self] <;> omega)
  have hO : Hid (Pl.onF 2 2 (f / 16) v = Pl.hi 2 v + Pl.fl false 2 + (Pl.fl ((v * 2 % 65536) == 0) 4 + Pl.fl (decide (32768 ≤ (v * 2 % 65536))) 8) + Pl.hi 2 v * 16) := hide (by simp only [Pl.onF, Pl.vfl, hW.out, Pl.zn, Pl.nx, Pl.fell, Pl.top, Int.reduceMod, Int.reduceEq, Int.reduceDiv, if_true, if_false, decide_false, Bool.false_and, or_self] <;> omega)
  go_enter Try.func42, Try.ntmps42
  go_wp2_with fail
  refine (l1Top2 _).mono ?_
  rintro e w' ⟨rfl, rfl⟩
  go_wp2_with fail
  refine (l1FlagH2 _ _).mono ?_
  rintro e w' ⟨rfl, rfl⟩
  go_wp2_with fail
  refine (l3LeftT 2 rfl _).mono ?_
  rintro e w' ⟨rfl, rfl⟩
  go_wp2_with fail
  refine (l3LeftT 2 rfl _).mono ?_
  rintro e w' ⟨rfl, rfl⟩
  go_wp2_with fail
  refine (l1Zn2 _ _).mono ?_
  rintro e w' ⟨rfl, rfl⟩
  go_wp2_with fail
  refine (l1Flag _ _ _).mono ?_
  rintro e w' ⟨rfl, rfl⟩
  go_wp2_with fail
  go_ret2
  exact ⟨rII hW.out.symm (by rw [Pl.or_flags (by omega) (Pl.fl_two _) (by omega)]; exact hO.out.symm), rfl⟩

theorem l3Once32 (f v : Int) (w : World) (f0 : 0 ≤ f) (f1 : f ≤ 31) (v0 : 0 ≤ v) (v1 : v < 65536) :
    Calls Try.prog 42 #[.int .i64 3, .int .i64 2, .int .i64 f, .int .i64 v] w fun e w' => e = .returned (.tuple #[.int .i64 (Pl.nv 3 2 (f / 16) v), .int .i64 (Pl.onF 3 2 (f / 16) v)]) ∧ w' = w := by
  have hA := Pl.and1 v
  have hB := Pl.and16 f0 f1
  obtain ⟨q0, q1⟩ := Pl.hi_bd 2 v
  have hD := Pl.or_high2 (a := v / 2) (q := 0) (by omega) (by omega) (by omega) (by omega)
  rw [Int.zero_mul, Int.add_zero] at hD
  have hW : Hid (Pl.nv 3 2 (f / 16) v = (v / 2)) := hide (by simp only [Pl.nv, Pl.inn, Pl.fell, Pl.top, Int.reduceMod, Int.reduceEq, Int.reduceLE, if_true, if_false, or_self] <;> omega)
  have hO : Hid (Pl.onF 3 2 (f / 16) v = v % 2 + Pl.fl false 2 + (Pl.fl ((v / 2) == 0) 4 + Pl.fl (decide (32768 ≤ (v / 2))) 8) + v % 2 * 16) := hide (by simp only [Pl.onF, Pl.vfl, hW.out, Pl.zn, Pl.nx, Pl.fell, Pl.top, Int.reduceMod, Int.reduceEq, Int.reduceDiv, if_true, if_false, decide_false, Bool.false_and, or_self] <;> omega)
  go_enter Try.func42, Try.ntmps42
  go_wp2_with fail
  refine (l1Top2 _).mono ?_
  rintro e w' ⟨rfl, rfl⟩
  go_wp2_with fail
  refine (l1FlagH2 _ _).mono ?_
  rintro e w' ⟨rfl, rfl⟩
  go_wp2_with fail
  refine (l3LeftF 3 rfl _).mono ?_
  rintro e w' ⟨rfl, rfl⟩
  go_wp2_with fail
  refine (l3LeftF 3 rfl _).mono ?_
  rintro e w' ⟨rfl, rfl⟩
  go_wp2_with fail
  refine (l1Zn2 _ _).mono ?_
  rintro e w' ⟨rfl, rfl⟩
  go_wp2_with fail
  refine (l1Flag _ _ _).mono ?_
  rintro e w' ⟨rfl, rfl⟩
  go_wp2_with fail
  go_ret2
  exact ⟨rII hW.out.symm (by rw [Pl.or_flags (by omega) (Pl.fl_two _) (by omega)]; exact hO.out.symm), rfl⟩

theorem l3Once42 (f v : Int) (w : World) (f0 : 0 ≤ f) (f1 : f ≤ 31) (v0 : 0 ≤ v) (v1 : v < 65536) :
    Calls Try.prog 42 #[.int .i64 4, .int .i64 2, .int .i64 f, .int .i64 v] w fun e w' => e = .returned (.tuple #[.int .i64 (Pl.nv 4 2 (f / 16) v), .int .i64 (Pl.onF 4 2 (f / 16) v)]) ∧ w' = w := by
  have hA := Pl.and1 v
  have hB := Pl.and16 f0 f1
  obtain ⟨q0, q1⟩ := Pl.hi_bd 2 v
  have hC := Pl.and65535 (v * 2)
  have hD := Pl.or_low (a := v * 2 % 65536) (q := Pl.hi 2 v) (by omega) (by omega) (by omega) (by omega) (by omega)
  have hW : Hid (Pl.nv 4 2 (f / 16) v = (v * 2 % 65536 + Pl.hi 2 v)) := hide (by simp only [Pl.nv, Pl.inn, Pl.fell, Pl.top, Int.reduceMod, Int.reduceEq, Int.reduceLE, if_true, if_false, or_false] <;> omega)
  have hO : Hid (Pl.onF 4 2 (f / 16) v = Pl.hi 2 v + Pl.fl false 2 + (Pl.fl ((v * 2 % 65536 + Pl.hi 2 v) == 0) 4 + Pl.fl (decide (32768 ≤ (v * 2 % 65536 + Pl.hi 2 v))) 8) + f / 16 * 16) := hide (by simp only [Pl.onF, Pl.vfl, hW.out, Pl.zn, Pl.nx, Pl.fell, Pl.top, Int.reduceMod, Int.reduceEq, Int.reduceDiv, if_true, if_false, decide_false, Bool.false_and, or_false] <;> omega)
  go_enter Try.func42, Try.ntmps42
  go_wp2_with fail
  refine (l1Top2 _).mono ?_
  rintro e w' ⟨rfl, rfl⟩
  go_wp2_with fail
  refine (l1FlagH2 _ _).mono ?_
  rintro e w' ⟨rfl, rfl⟩
  go_wp2_with fail
  refine (l3LeftT 4 rfl _).mono ?_
  rintro e w' ⟨rfl, rfl⟩
  go_wp2_with fail
  refine (l3LeftT 4 rfl _).mono ?_
  rintro e w' ⟨rfl, rfl⟩
  go_wp2_with fail
  refine (l1Zn2 _ _).mono ?_
  rintro e w' ⟨rfl, rfl⟩
  go_wp2_with fail
  refine (l1Flag _ _ _).mono ?_
  rintro e w' ⟨rfl, rfl⟩
  go_wp2_with fail
  go_ret2
  exact ⟨rII hW.out.symm (by rw [Pl.or_flags (by omega) (Pl.fl_two _) (by omega)]; exact hO.out.symm), rfl⟩

theorem l3Once52 (f v : Int) (w : World) (f0 : 0 ≤ f) (f1 : f ≤ 31) (v0 : 0 ≤ v) (v1 : v < 65536) :
    Calls Try.prog 42 #[.int .i64 5, .int .i64 2, .int .i64 f, .int .i64 v] w fun e w' => e = .returned (.tuple #[.int .i64 (Pl.nv 5 2 (f / 16) v), .int .i64 (Pl.onF 5 2 (f / 16) v)]) ∧ w' = w := by
  have hA := Pl.and1 v
  have hB := Pl.and16 f0 f1
  obtain ⟨q0, q1⟩ := Pl.hi_bd 2 v
  have hD := Pl.or_high2 (a := v / 2) (q := (v % 2)) (by omega) (by omega) (by omega) (by omega)
  have hW : Hid (Pl.nv 5 2 (f / 16) v = (v / 2 + (v % 2) * 32768)) := hide (by simp only [Pl.nv, Pl.inn, Pl.fell, Pl.top, Int.reduceMod, Int.reduceEq, Int.reduceLE, if_true, if_false, or_true] <;> omega)
  have hO : Hid (Pl.onF 5 2 (f / 16) v = v % 2 + Pl.fl false 2 + (Pl.fl ((v / 2 + (v % 2) * 32768) == 0) 4 + Pl.fl (decide (32768 ≤ (v / 2 + (v % 2) * 32768))) 8) + f / 16 * 16) := hide (by simp only [Pl.onF, Pl.vfl, hW.out, Pl.zn, Pl.nx, Pl.fell, Pl.top, Int.reduceMod, Int.reduceEq, Int.reduceDiv, if_true, if_false, decide_false, Bool.false_and, or_true] <;> omega)
  go_enter Try.func42, Try.ntmps42
  go_wp2_with fail
  refine (l1Top2 _).mono ?_
  rintro e w' ⟨rfl, rfl⟩
  go_wp2_with fail
  refine (l1FlagH2 _ _).mono ?_
  rintro e w' ⟨rfl, rfl⟩
  go_wp2_with fail
  refine (l3LeftF 5 rfl _).mono ?_
  rintro e w' ⟨rfl, rfl⟩
  go_wp2_with fail
  refine (l3LeftF 5 rfl _).mono ?_
  rintro e w' ⟨rfl, rfl⟩
  go_wp2_with fail
  refine (l1Zn2 _ _).mono ?_
  rintro e w' ⟨rfl, rfl⟩
  go_wp2_with fail
  refine (l1Flag _ _ _).mono ?_
  rintro e w' ⟨rfl, rfl⟩
  go_wp2_with fail
  go_ret2
  exact ⟨rII hW.out.symm (by rw [Pl.or_flags (by omega) (Pl.fl_two _) (by omega)]; exact hO.out.symm), rfl⟩

theorem l3Once62 (f v : Int) (w : World) (f0 : 0 ≤ f) (f1 : f ≤ 31) (v0 : 0 ≤ v) (v1 : v < 65536) :
    Calls Try.prog 42 #[.int .i64 6, .int .i64 2, .int .i64 f, .int .i64 v] w fun e w' => e = .returned (.tuple #[.int .i64 (Pl.nv 6 2 (f / 16) v), .int .i64 (Pl.onF 6 2 (f / 16) v)]) ∧ w' = w := by
  have hA := Pl.and1 v
  have hB := Pl.and16 f0 f1
  obtain ⟨q0, q1⟩ := Pl.hi_bd 2 v
  have hC := Pl.and65535 (v * 2)
  have hD := Pl.or_low (a := v * 2 % 65536) (q := (f / 16)) (by omega) (by omega) (by omega) (by omega) (by omega)
  have hW : Hid (Pl.nv 6 2 (f / 16) v = (v * 2 % 65536 + (f / 16))) := hide (by simp only [Pl.nv, Pl.inn, Pl.fell, Pl.top, Int.reduceMod, Int.reduceEq, Int.reduceLE, if_true, if_false, or_self] <;> omega)
  have hO : Hid (Pl.onF 6 2 (f / 16) v = Pl.hi 2 v + Pl.fl false 2 + (Pl.fl ((v * 2 % 65536 + (f / 16)) == 0) 4 + Pl.fl (decide (32768 ≤ (v * 2 % 65536 + (f / 16)))) 8) + Pl.hi 2 v * 16) := hide (by simp only [Pl.onF, Pl.vfl, hW.out, Pl.zn, Pl.nx, Pl.fell, Pl.top, Int.reduceMod, Int.reduceEq, Int.reduceDiv, if_true, if_false, decide_false, Bool.false_and, or_self] <;> omega)
  go_enter Try.func42, Try.ntmps42
  go_wp2_with fail
  refine (l1Top2 _).mono ?_
  rintro e w' ⟨rfl, rfl⟩
  go_wp2_with fail
  refine (l1FlagH2 _ _).mono ?_
  rintro e w' ⟨rfl, rfl⟩
  go_wp2_with fail
  refine (l3LeftT 6 rfl _).mono ?_
  rintro e w' ⟨rfl, rfl⟩
  go_wp2_with fail
  refine (l1FlagX f f0 f1 _).mono ?_
  rintro e w' ⟨rfl, rfl⟩
  go_wp2_with fail
  refine (l3LeftT 6 rfl _).mono ?_
  rintro e w' ⟨rfl, rfl⟩
  go_wp2_with fail
  refine (l1Zn2 _ _).mono ?_
  rintro e w' ⟨rfl, rfl⟩
  go_wp2_with fail
  refine (l1Flag _ _ _).mono ?_
  rintro e w' ⟨rfl, rfl⟩
  go_wp2_with fail
  go_ret2
  exact ⟨rII hW.out.symm (by rw [Pl.or_flags (by omega) (Pl.fl_two _) (by omega)]; exact hO.out.symm), rfl⟩

theorem l3Once72 (f v : Int) (w : World) (f0 : 0 ≤ f) (f1 : f ≤ 31) (v0 : 0 ≤ v) (v1 : v < 65536) :
    Calls Try.prog 42 #[.int .i64 7, .int .i64 2, .int .i64 f, .int .i64 v] w fun e w' => e = .returned (.tuple #[.int .i64 (Pl.nv 7 2 (f / 16) v), .int .i64 (Pl.onF 7 2 (f / 16) v)]) ∧ w' = w := by
  have hA := Pl.and1 v
  have hB := Pl.and16 f0 f1
  obtain ⟨q0, q1⟩ := Pl.hi_bd 2 v
  have hD := Pl.or_high2 (a := v / 2) (q := (f / 16)) (by omega) (by omega) (by omega) (by omega)
  have hW : Hid (Pl.nv 7 2 (f / 16) v = (v / 2 + (f / 16) * 32768)) := hide (by simp only [Pl.nv, Pl.inn, Pl.fell, Pl.top, Int.reduceMod, Int.reduceEq, Int.reduceLE, if_true, if_false, or_self] <;> omega)
  have hO : Hid (Pl.onF 7 2 (f / 16) v = v % 2 + Pl.fl false 2 + (Pl.fl ((v / 2 + (f / 16) * 32768) == 0) 4 + Pl.fl (decide (32768 ≤ (v / 2 + (f / 16) * 32768))) 8) + v % 2 * 16) := hide (by simp only [Pl.onF, Pl.vfl, hW.out, Pl.zn, Pl.nx, Pl.fell, Pl.top, Int.reduceMod, Int.reduceEq, Int.reduceDiv, if_true, if_false, decide_false, Bool.false_and, or_self] <;> omega)
  go_enter Try.func42, Try.ntmps42
  go_wp2_with fail
  refine (l1Top2 _).mono ?_
  rintro e w' ⟨rfl, rfl⟩
  go_wp2_with fail
  refine (l1FlagH2 _ _).mono ?_
  rintro e w' ⟨rfl, rfl⟩
  go_wp2_with fail
  refine (l3LeftF 7 rfl _).mono ?_
  rintro e w' ⟨rfl, rfl⟩
  go_wp2_with fail
  refine (l1FlagX f f0 f1 _).mono ?_
  rintro e w' ⟨rfl, rfl⟩
  go_wp2_with fail
  refine (l3LeftF 7 rfl _).mono ?_
  rintro e w' ⟨rfl, rfl⟩
  go_wp2_with fail
  refine (l1Zn2 _ _).mono ?_
  rintro e w' ⟨rfl, rfl⟩
  go_wp2_with fail
  refine (l1Flag _ _ _).mono ?_
  rintro e w' ⟨rfl, rfl⟩
  go_wp2_with fail
  go_ret2
  exact ⟨rII hW.out.symm (by rw [Pl.or_flags (by omega) (Pl.fl_two _) (by omega)]; exact hO.out.symm), rfl⟩

end Go.Proofs.Ytlagdbajdehanaa
