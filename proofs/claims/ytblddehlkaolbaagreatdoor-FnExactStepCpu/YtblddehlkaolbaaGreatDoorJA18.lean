/- What the model's one place answers, for each kind and size: one contract each; none changes the world. What the models of chapter 3's shifts answer for every argument: one contract a function; none changes the world. What the model's step does with shifts. What the model's step does from a register. What the model's step does to the status. What the model's step does, for every good instruction. -/
import Derived.Test.YtblddehlkaolbaaGreatDoorJA7
import Derived.Test.YtblddehlkaolbaaGreatDoorJA2
import Derived.Test.YtblddehlkaolbaaGreatDoorJA17
namespace Go.Proofs.YtblddehlkaolbaaGreatDoor
open Go.RowKit
set_option linter.unusedVariables false
set_option linter.unusedSimpArgs false

theorem Pl.and16 {f : Int} (h0 : 0 ≤ f) (h1 : f ≤ 31) : bits .and .i64 f 16 = f / 16 * 16 := by
  obtain ⟨n, rfl⟩ := Int.eq_ofNat_of_zero_le h0
  have hn : n < 32 := by omega
  have : ∀ m : Nat, m < 32 → bits .and .i64 (m : Int) 16 = (m : Int) / 16 * 16 := by decide
  exact this n hn
theorem Pl.or_low {a q : Int} (h0 : 0 ≤ a) (h1 : a < 65536) (h2 : a % 2 = 0) (q0 : 0 ≤ q) (q1 : q ≤ 1) : bits .or .i64 a q = a + q :=
  bits_join .i64 62 (by decide) wraps_i64 1 a q (by omega) (by omega) (by omega) (by omega) (by omega) (by omega)
theorem Pl.or_high1 {a q : Int} (h0 : 0 ≤ a) (h1 : a < 128) (q0 : 0 ≤ q) (q1 : q ≤ 1) : bits .or .i64 a (q * 128) = a + q * 128 := by
  rw [Pl.or_comm, bits_join .i64 62 (by decide) wraps_i64 7 (q * 128) a (by omega) (by omega) (by omega) (by omega) (by omega) (by omega)]; omega
theorem Pl.or_high2 {a q : Int} (h0 : 0 ≤ a) (h1 : a < 32768) (q0 : 0 ≤ q) (q1 : q ≤ 1) : bits .or .i64 a (q * 32768) = a + q * 32768 := by
  rw [Pl.or_comm, bits_join .i64 62 (by decide) wraps_i64 15 (q * 32768) a (by omega) (by omega) (by omega) (by omega) (by omega) (by omega)]; omega
theorem Pl.or_flags {c o x : Int} {z n : Bool} (hc : c = 0 ∨ c = 1) (ho : o = 0 ∨ o = 2) (hx : x = 0 ∨ x = 16) :
    bits .or .i64 (bits .or .i64 (bits .or .i64 c (bits .or .i64 (Pl.fl z 4) (Pl.fl n 8))) o) x = c + o + (Pl.fl z 4 + Pl.fl n 8) + x := by
  rcases hc with rfl | rfl <;> rcases ho with rfl | rfl <;> rcases hx with rfl | rfl <;> cases z <;> cases n <;> decide
theorem Pl.fl_two (b : Bool) : Pl.fl b 2 = 0 ∨ Pl.fl b 2 = 2 := by cases b <;> simp [Pl.fl]

theorem l1FlagH1 (v : Int) (w : World) : Calls Tryz.prog 119 #[.bool (decide (128 ≤ v)), .int .i64 1] w fun e w' => e = .returned (.int .i64 (Pl.hi 1 v)) ∧ w' = w := by
  have e : Pl.hi 1 v = Pl.fl (decide (128 ≤ v)) 1 := by simp [Pl.hi, Pl.fl, Pl.top]
  rw [e]; exact l1Flag _ 1 w
theorem l1FlagH2 (v : Int) (w : World) : Calls Tryz.prog 119 #[.bool (decide (32768 ≤ v)), .int .i64 1] w fun e w' => e = .returned (.int .i64 (Pl.hi 2 v)) ∧ w' = w := by
  have e : Pl.hi 2 v = Pl.fl (decide (32768 ≤ v)) 1 := by simp [Pl.hi, Pl.fl, Pl.top]
  rw [e]; exact l1Flag _ 1 w
theorem l1FlagX (f : Int) (f0 : 0 ≤ f) (f1 : f ≤ 31) (w : World) : Calls Tryz.prog 119 #[.bool (f / 16 * 16 != 0), .int .i64 1] w fun e w' => e = .returned (.int .i64 (f / 16)) ∧ w' = w := by
  refine (l1Flag _ 1 w).mono ?_
  rintro e w' ⟨rfl, rfl⟩
  refine ⟨rI ?_, rfl⟩
  obtain h | h : f / 16 = 0 ∨ f / 16 = 1 := by omega
  all_goals rw [h]; decide

theorem l3Left (k : Int) (w : World) : Calls Tryz.prog 154 #[.int .i64 k] w fun e w' => e = .returned (.bool (k % 2 == 0)) ∧ w' = w := by
  have h := Pl.and1 k
  go_enter Tryz.func154, Tryz.ntmps154
  go_wp2
  go_ret
  exact ⟨rfl, rfl⟩
theorem l3LeftT (k : Int) (h : (k % 2 == 0) = true) (w : World) : Calls Tryz.prog 154 #[.int .i64 k] w fun e w' => e = .returned (.bool true) ∧ w' = w := by
  rw [← h]; exact l3Left k w
theorem l3LeftF (k : Int) (h : (k % 2 == 0) = false) (w : World) : Calls Tryz.prog 154 #[.int .i64 k] w fun e w' => e = .returned (.bool false) ∧ w' = w := by
  rw [← h]; exact l3Left k w

theorem l3Once01 (f v : Int) (w : World) (f0 : 0 ≤ f) (f1 : f ≤ 31) (v0 : 0 ≤ v) (v1 : v < 256) :
    Calls Tryz.prog 120 #[.int .i64 0, .int .i64 1, .int .i64 f, .int .i64 v] w fun e w' => e = .returned (.tuple #[.int .i64 (Pl.nv 0 1 (f / 16) v), .int .i64 (Pl.onF 0 1 (f / 16) v)]) ∧ w' = w := by
  have hA := Pl.and1 v
  have hB := Pl.and16 f0 f1
  obtain ⟨q0, q1⟩ := Pl.hi_bd 1 v
  have hC := Pl.and255 (v * 2)
  have hD := Pl.or_low (a := v * 2 % 256) (q := 0) (by omega) (by omega) (by omega) (by omega) (by omega)
  rw [Int.add_zero] at hD
  have hW : Hid (Pl.nv 0 1 (f / 16) v = (v * 2 % 256)) := hide (by simp only [Pl.nv, Pl.inn, Pl.fell, Pl.top, Int.reduceMod, Int.reduceEq, Int.reduceLE, if_true, if_false, or_self] <;> omega)
  have hO : Hid (Pl.onF 0 1 (f / 16) v = Pl.hi 1 v + Pl.fl (Pl.hi 1 v != Pl.hi 1 (v * 2 % 256)) 2 + (Pl.fl ((v * 2 % 256) == 0) 4 + Pl.fl (decide (128 ≤ (v * 2 % 256))) 8) + Pl.hi 1 v * 16) := hide (by simp only [Pl.onF, Pl.vfl, hW.out, Pl.zn, Pl.nx, Pl.fell, Pl.top, Int.reduceMod, Int.reduceEq, Int.reduceDiv, if_true, if_false, decide_true, Bool.true_and, or_self] <;> omega)
  go_enter Tryz.func120, Tryz.ntmps120
  go_wp2_with fail
  refine (l1Top1 _).mono ?_
  rintro e w' ⟨rfl, rfl⟩
  go_wp2_with fail
  refine (l1FlagH1 _ _).mono ?_
  rintro e w' ⟨rfl, rfl⟩
  go_wp2_with fail
  refine (l3LeftT 0 rfl _).mono ?_
  rintro e w' ⟨rfl, rfl⟩
  go_wp2_with fail
  refine (l3LeftT 0 rfl _).mono ?_
  rintro e w' ⟨rfl, rfl⟩
  go_wp2_with fail
  refine (l1Zn1 _ _).mono ?_
  rintro e w' ⟨rfl, rfl⟩
  go_wp2_with fail
  refine (l1FlagH1 _ _).mono ?_
  rintro e w' ⟨rfl, rfl⟩
  go_wp2_with fail
  refine (l1Flag _ _ _).mono ?_
  rintro e w' ⟨rfl, rfl⟩
  go_wp2_with fail
  go_ret2
  exact ⟨rII hW.out.symm (by rw [Pl.or_flags (by omega) (Pl.fl_two _) (by omega)]; exact hO.out.symm), rfl⟩

theorem l3Once11 (f v : Int) (w : World) (f0 : 0 ≤ f) (f1 : f ≤ 31) (v0 : 0 ≤ v) (v1 : v < 256) :
    Calls Tryz.prog 120 #[.int .i64 1, .int .i64 1, .int .i64 f, .int .i64 v] w fun e w' => e = .returned (.tuple #[.int .i64 (Pl.nv 1 1 (f / 16) v), .int .i64 (Pl.onF 1 1 (f / 16) v)]) ∧ w' = w := by
  have hA := Pl.and1 v
  have hB := Pl.and16 f0 f1
  obtain ⟨q0, q1⟩ := Pl.hi_bd 1 v
  have hD := Pl.or_high1 (a := v / 2) (q := Pl.hi 1 v) (by omega) (by omega) (by omega) (by omega)
  have hW : Hid (Pl.nv 1 1 (f / 16) v = (v / 2 + Pl.hi 1 v * 128)) := hide (by simp only [Pl.nv, Pl.inn, Pl.fell, Pl.top, Int.reduceMod, Int.reduceEq, Int.reduceLE, if_true, if_false] <;> omega)
  have hO : Hid (Pl.onF 1 1 (f / 16) v = v % 2 + Pl.fl false 2 + (Pl.fl ((v / 2 + Pl.hi 1 v * 128) == 0) 4 + Pl.fl (decide (128 ≤ (v / 2 + Pl.hi 1 v * 128))) 8) + v % 2 * 16) := hide (by simp only [Pl.onF, Pl.vfl, hW.out, Pl.zn, Pl.nx, Pl.fell, Pl.top, Int.reduceMod, Int.reduceEq, Int.reduceDiv, if_true, if_false, decide_false, Bool.false_and, or_self] <;> omega)
  go_enter Tryz.func120, Tryz.ntmps120
  go_wp2_with fail
  refine (l1Top1 _).mono ?_
  rintro e w' ⟨rfl, rfl⟩
  go_wp2_with fail
  refine (l1FlagH1 _ _).mono ?_
  rintro e w' ⟨rfl, rfl⟩
  go_wp2_with fail
  refine (l3LeftF 1 rfl _).mono ?_
  rintro e w' ⟨rfl, rfl⟩
  go_wp2_with fail
  refine (l3LeftF 1 rfl _).mono ?_
  rintro e w' ⟨rfl, rfl⟩
  go_wp2_with fail
  refine (l1Zn1 _ _).mono ?_
  rintro e w' ⟨rfl, rfl⟩
  go_wp2_with fail
  refine (l1Flag _ _ _).mono ?_
  rintro e w' ⟨rfl, rfl⟩
  go_wp2_with fail
  go_ret2
  exact ⟨rII hW.out.symm (by rw [Pl.or_flags (by omega) (Pl.fl_two _) (by omega)]; exact hO.out.symm), rfl⟩

theorem l3Once21 (f v : Int) (w : World) (f0 : 0 ≤ f) (f1 : f ≤ 31) (v0 : 0 ≤ v) (v1 : v < 256) :
    Calls Tryz.prog 120 #[.int .i64 2, .int .i64 1, .int .i64 f, .int .i64 v] w fun e w' => e = .returned (.tuple #[.int .i64 (Pl.nv 2 1 (f / 16) v), .int .i64 (Pl.onF 2 1 (f / 16) v)]) ∧ w' = w := by
  have hA := Pl.and1 v
  have hB := Pl.and16 f0 f1
  obtain ⟨q0, q1⟩ := Pl.hi_bd 1 v
  have hC := Pl.and255 (v * 2)
  have hD := Pl.or_low (a := v * 2 % 256) (q := 0) (by omega) (by omega) (by omega) (by omega) (by omega)
  rw [Int.add_zero] at hD
  have hW : Hid (Pl.nv 2 1 (f / 16) v = (v * 2 % 256)) := hide (by simp only [Pl.nv, Pl.inn, Pl.fell, Pl.top, Int.reduceMod, Int.reduceEq, Int.reduceLE, if_true, if_false, or_self] <;> omega)
  have hO : Hid (Pl.onF 2 1 (f / 16) v = Pl.hi 1 v + Pl.fl false 2 + (Pl.fl ((v * 2 % 256) == 0) 4 + Pl.fl (decide (128 ≤ (v * 2 % 256))) 8) + Pl.hi 1 v * 16) := hide (by simp only [Pl.onF, Pl.vfl, hW.out, Pl.zn, Pl.nx, Pl.fell, Pl.top, Int.reduceMod, Int.reduceEq, Int.reduceDiv, if_true, if_false, decide_false, Bool.false_and, or_self] <;> omega)
  go_enter Tryz.func120, Tryz.ntmps120
  go_wp2_with fail
  refine (l1Top1 _).mono ?_
  rintro e w' ⟨rfl, rfl⟩
  go_wp2_with fail
  refine (l1FlagH1 _ _).mono ?_
  rintro e w' ⟨rfl, rfl⟩
  go_wp2_with fail
  refine (l3LeftT 2 rfl _).mono ?_
  rintro e w' ⟨rfl, rfl⟩
  go_wp2_with fail
  refine (l3LeftT 2 rfl _).mono ?_
  rintro e w' ⟨rfl, rfl⟩
  go_wp2_with fail
  refine (l1Zn1 _ _).mono ?_
  rintro e w' ⟨rfl, rfl⟩
  go_wp2_with fail
  refine (l1Flag _ _ _).mono ?_
  rintro e w' ⟨rfl, rfl⟩
  go_wp2_with fail
  go_ret2
  exact ⟨rII hW.out.symm (by rw [Pl.or_flags (by omega) (Pl.fl_two _) (by omega)]; exact hO.out.symm), rfl⟩

theorem l3Once31 (f v : Int) (w : World) (f0 : 0 ≤ f) (f1 : f ≤ 31) (v0 : 0 ≤ v) (v1 : v < 256) :
    Calls Tryz.prog 120 #[.int .i64 3, .int .i64 1, .int .i64 f, .int .i64 v] w fun e w' => e = .returned (.tuple #[.int .i64 (Pl.nv 3 1 (f / 16) v), .int .i64 (Pl.onF 3 1 (f / 16) v)]) ∧ w' = w := by
  have hA := Pl.and1 v
  have hB := Pl.and16 f0 f1
  obtain ⟨q0, q1⟩ := Pl.hi_bd 1 v
  have hD := Pl.or_high1 (a := v / 2) (q := 0) (by omega) (by omega) (by omega) (by omega)
  rw [Int.zero_mul, Int.add_zero] at hD
  have hW : Hid (Pl.nv 3 1 (f / 16) v = (v / 2)) := hide (by simp only [Pl.nv, Pl.inn, Pl.fell, Pl.top, Int.reduceMod, Int.reduceEq, Int.reduceLE, if_true, if_false, or_self] <;> omega)
  have hO : Hid (Pl.onF 3 1 (f / 16) v = v % 2 + Pl.fl false 2 + (Pl.fl ((v / 2) == 0) 4 + Pl.fl (decide (128 ≤ (v / 2))) 8) + v % 2 * 16) := hide (by simp only [Pl.onF, Pl.vfl, hW.out, Pl.zn, Pl.nx, Pl.fell, Pl.top, Int.reduceMod, Int.reduceEq, Int.reduceDiv, if_true, if_false, decide_false, Bool.false_and, or_self] <;> omega)
  go_enter Tryz.func120, Tryz.ntmps120
  go_wp2_with fail
  refine (l1Top1 _).mono ?_
  rintro e w' ⟨rfl, rfl⟩
  go_wp2_with fail
  refine (l1FlagH1 _ _).mono ?_
  rintro e w' ⟨rfl, rfl⟩
  go_wp2_with fail
  refine (l3LeftF 3 rfl _).mono ?_
  rintro e w' ⟨rfl, rfl⟩
  go_wp2_with fail
  refine (l3LeftF 3 rfl _).mono ?_
  rintro e w' ⟨rfl, rfl⟩
  go_wp2_with fail
  refine (l1Zn1 _ _).mono ?_
  rintro e w' ⟨rfl, rfl⟩
  go_wp2_with fail
  refine (l1Flag _ _ _).mono ?_
  rintro e w' ⟨rfl, rfl⟩
  go_wp2_with fail
  go_ret2
  exact ⟨rII hW.out.symm (by rw [Pl.or_flags (by omega) (Pl.fl_two _) (by omega)]; exact hO.out.symm), rfl⟩

theorem l3Once41 (f v : Int) (w : World) (f0 : 0 ≤ f) (f1 : f ≤ 31) (v0 : 0 ≤ v) (v1 : v < 256) :
    Calls Tryz.prog 120 #[.int .i64 4, .int .i64 1, .int .i64 f, .int .i64 v] w fun e w' => e = .returned (.tuple #[.int .i64 (Pl.nv 4 1 (f / 16) v), .int .i64 (Pl.onF 4 1 (f / 16) v)]) ∧ w' = w := by
  have hA := Pl.and1 v
  have hB := Pl.and16 f0 f1
  obtain ⟨q0, q1⟩ := Pl.hi_bd 1 v
  have hC := Pl.and255 (v * 2)
  have hD := Pl.or_low (a := v * 2 % 256) (q := Pl.hi 1 v) (by omega) (by omega) (by omega) (by omega) (by omega)
  have hW : Hid (Pl.nv 4 1 (f / 16) v = (v * 2 % 256 + Pl.hi 1 v)) := hide (by simp only [Pl.nv, Pl.inn, Pl.fell, Pl.top, Int.reduceMod, Int.reduceEq, Int.reduceLE, if_true, if_false, or_false] <;> omega)
  have hO : Hid (Pl.onF 4 1 (f / 16) v = Pl.hi 1 v + Pl.fl false 2 + (Pl.fl ((v * 2 % 256 + Pl.hi 1 v) == 0) 4 + Pl.fl (decide (128 ≤ (v * 2 % 256 + Pl.hi 1 v))) 8) + f / 16 * 16) := hide (by simp only [Pl.onF, Pl.vfl, hW.out, Pl.zn, Pl.nx, Pl.fell, Pl.top, Int.reduceMod, Int.reduceEq, Int.reduceDiv, if_true, if_false, decide_false, Bool.false_and, or_false] <;> omega)
  go_enter Tryz.func120, Tryz.ntmps120
  go_wp2_with fail
  refine (l1Top1 _).mono ?_
  rintro e w' ⟨rfl, rfl⟩
  go_wp2_with fail
  refine (l1FlagH1 _ _).mono ?_
  rintro e w' ⟨rfl, rfl⟩
  go_wp2_with fail
  refine (l3LeftT 4 rfl _).mono ?_
  rintro e w' ⟨rfl, rfl⟩
  go_wp2_with fail
  refine (l3LeftT 4 rfl _).mono ?_
  rintro e w' ⟨rfl, rfl⟩
  go_wp2_with fail
  refine (l1Zn1 _ _).mono ?_
  rintro e w' ⟨rfl, rfl⟩
  go_wp2_with fail
  refine (l1Flag _ _ _).mono ?_
  rintro e w' ⟨rfl, rfl⟩
  go_wp2_with fail
  go_ret2
  exact ⟨rII hW.out.symm (by rw [Pl.or_flags (by omega) (Pl.fl_two _) (by omega)]; exact hO.out.symm), rfl⟩

theorem l3Once51 (f v : Int) (w : World) (f0 : 0 ≤ f) (f1 : f ≤ 31) (v0 : 0 ≤ v) (v1 : v < 256) :
    Calls Tryz.prog 120 #[.int .i64 5, .int .i64 1, .int .i64 f, .int .i64 v] w fun e w' => e = .returned (.tuple #[.int .i64 (Pl.nv 5 1 (f / 16) v), .int .i64 (Pl.onF 5 1 (f / 16) v)]) ∧ w' = w := by
  have hA := Pl.and1 v
  have hB := Pl.and16 f0 f1
  obtain ⟨q0, q1⟩ := Pl.hi_bd 1 v
  have hD := Pl.or_high1 (a := v / 2) (q := (v % 2)) (by omega) (by omega) (by omega) (by omega)
  have hW : Hid (Pl.nv 5 1 (f / 16) v = (v / 2 + (v % 2) * 128)) := hide (by simp only [Pl.nv, Pl.inn, Pl.fell, Pl.top, Int.reduceMod, Int.reduceEq, Int.reduceLE, if_true, if_false, or_true] <;> omega)
  have hO : Hid (Pl.onF 5 1 (f / 16) v = v % 2 + Pl.fl false 2 + (Pl.fl ((v / 2 + (v % 2) * 128) == 0) 4 + Pl.fl (decide (128 ≤ (v / 2 + (v % 2) * 128))) 8) + f / 16 * 16) := hide (by simp only [Pl.onF, Pl.vfl, hW.out, Pl.zn, Pl.nx, Pl.fell, Pl.top, Int.reduceMod, Int.reduceEq, Int.reduceDiv, if_true, if_false, decide_false, Bool.false_and, or_true] <;> omega)
  go_enter Tryz.func120, Tryz.ntmps120
  go_wp2_with fail
  refine (l1Top1 _).mono ?_
  rintro e w' ⟨rfl, rfl⟩
  go_wp2_with fail
  refine (l1FlagH1 _ _).mono ?_
  rintro e w' ⟨rfl, rfl⟩
  go_wp2_with fail
  refine (l3LeftF 5 rfl _).mono ?_
  rintro e w' ⟨rfl, rfl⟩
  go_wp2_with fail
  refine (l3LeftF 5 rfl _).mono ?_
  rintro e w' ⟨rfl, rfl⟩
  go_wp2_with fail
  refine (l1Zn1 _ _).mono ?_
  rintro e w' ⟨rfl, rfl⟩
  go_wp2_with fail
  refine (l1Flag _ _ _).mono ?_
  rintro e w' ⟨rfl, rfl⟩
  go_wp2_with fail
  go_ret2
  exact ⟨rII hW.out.symm (by rw [Pl.or_flags (by omega) (Pl.fl_two _) (by omega)]; exact hO.out.symm), rfl⟩

theorem l3Once61 (f v : Int) (w : World) (f0 : 0 ≤ f) (f1 : f ≤ 31) (v0 : 0 ≤ v) (v1 : v < 256) :
    Calls Tryz.prog 120 #[.int .i64 6, .int .i64 1, .int .i64 f, .int .i64 v] w fun e w' => e = .returned (.tuple #[.int .i64 (Pl.nv 6 1 (f / 16) v), .int .i64 (Pl.onF 6 1 (f / 16) v)]) ∧ w' = w := by
  have hA := Pl.and1 v
  have hB := Pl.and16 f0 f1
  obtain ⟨q0, q1⟩ := Pl.hi_bd 1 v
  have hC := Pl.and255 (v * 2)
  have hD := Pl.or_low (a := v * 2 % 256) (q := (f / 16)) (by omega) (by omega) (by omega) (by omega) (by omega)
  have hW : Hid (Pl.nv 6 1 (f / 16) v = (v * 2 % 256 + (f / 16))) := hide (by simp only [Pl.nv, Pl.inn, Pl.fell, Pl.top, Int.reduceMod, Int.reduceEq, Int.reduceLE, if_true, if_false, or_self] <;> omega)
  have hO : Hid (Pl.onF 6 1 (f / 16) v = Pl.hi 1 v + Pl.fl false 2 + (Pl.fl ((v * 2 % 256 + (f / 16)) == 0) 4 + Pl.fl (decide (128 ≤ (v * 2 % 256 + (f / 16)))) 8) + Pl.hi 1 v * 16) := hide (by simp only [Pl.onF, Pl.vfl, hW.out, Pl.zn, Pl.nx, Pl.fell, Pl.top, Int.reduceMod, Int.reduceEq, Int.reduceDiv, if_true, if_false, decide_false, Bool.false_and, or_self] <;> omega)
  go_enter Tryz.func120, Tryz.ntmps120
  go_wp2_with fail
  refine (l1Top1 _).mono ?_
  rintro e w' ⟨rfl, rfl⟩
  go_wp2_with fail
  refine (l1FlagH1 _ _).mono ?_
  rintro e w' ⟨rfl, rfl⟩
  go_wp2_with fail
  refine (l3LeftT 6 rfl _).mono ?_
  rintro e w' ⟨rfl, rfl⟩
  go_wp2_with fail
  refine (l1FlagX f f0 f1 _).mono ?_
  rintro e w' ⟨rfl, rfl⟩
  go_wp2_with fail
  refine (l3LeftT 6 rfl _).mono ?_
  rintro e w' ⟨rfl, rfl⟩
  go_wp2_with fail
  refine (l1Zn1 _ _).mono ?_
  rintro e w' ⟨rfl, rfl⟩
  go_wp2_with fail
  refine (l1Flag _ _ _).mono ?_
  rintro e w' ⟨rfl, rfl⟩
  go_wp2_with fail
  go_ret2
  exact ⟨rII hW.out.symm (by rw [Pl.or_flags (by omega) (Pl.fl_two _) (by omega)]; exact hO.out.symm), rfl⟩

theorem l3Once71 (f v : Int) (w : World) (f0 : 0 ≤ f) (f1 : f ≤ 31) (v0 : 0 ≤ v) (v1 : v < 256) :
    Calls Tryz.prog 120 #[.int .i64 7, .int .i64 1, .int .i64 f, .int .i64 v] w fun e w' => e = .returned (.tuple #[.int .i64 (Pl.nv 7 1 (f / 16) v), .int .i64 (Pl.onF 7 1 (f / 16) v)]) ∧ w' = w := by
  have hA := Pl.and1 v
  have hB := Pl.and16 f0 f1
  obtain ⟨q0, q1⟩ := Pl.hi_bd 1 v
  have hD := Pl.or_high1 (a := v / 2) (q := (f / 16)) (by omega) (by omega) (by omega) (by omega)
  have hW : Hid (Pl.nv 7 1 (f / 16) v = (v / 2 + (f / 16) * 128)) := hide (by simp only [Pl.nv, Pl.inn, Pl.fell, Pl.top, Int.reduceMod, Int.reduceEq, Int.reduceLE, if_true, if_false, or_self] <;> omega)
  have hO : Hid (Pl.onF 7 1 (f / 16) v = v % 2 + Pl.fl false 2 + (Pl.fl ((v / 2 + (f / 16) * 128) == 0) 4 + Pl.fl (decide (128 ≤ (v / 2 + (f / 16) * 128))) 8) + v % 2 * 16) := hide (by simp only [Pl.onF, Pl.vfl, hW.out, Pl.zn, Pl.nx, Pl.fell, Pl.top, Int.reduceMod, Int.reduceEq, Int.reduceDiv, if_true, if_false, decide_false, Bool.false_and, or_self] <;> omega)
  go_enter Tryz.func120, Tryz.ntmps120
  go_wp2_with fail
  refine (l1Top1 _).mono ?_
  rintro e w' ⟨rfl, rfl⟩
  go_wp2_with fail
  refine (l1FlagH1 _ _).mono ?_
  rintro e w' ⟨rfl, rfl⟩
  go_wp2_with fail
  refine (l3LeftF 7 rfl _).mono ?_
  rintro e w' ⟨rfl, rfl⟩
  go_wp2_with fail
  refine (l1FlagX f f0 f1 _).mono ?_
  rintro e w' ⟨rfl, rfl⟩
  go_wp2_with fail
  refine (l3LeftF 7 rfl _).mono ?_
  rintro e w' ⟨rfl, rfl⟩
  go_wp2_with fail
  refine (l1Zn1 _ _).mono ?_
  rintro e w' ⟨rfl, rfl⟩
  go_wp2_with fail
  refine (l1Flag _ _ _).mono ?_
  rintro e w' ⟨rfl, rfl⟩
  go_wp2_with fail
  go_ret2
  exact ⟨rII hW.out.symm (by rw [Pl.or_flags (by omega) (Pl.fl_two _) (by omega)]; exact hO.out.symm), rfl⟩

theorem l3Once02 (f v : Int) (w : World) (f0 : 0 ≤ f) (f1 : f ≤ 31) (v0 : 0 ≤ v) (v1 : v < 65536) :
    Calls Tryz.prog 120 #[.int .i64 0, .int .i64 2, .int .i64 f, .int .i64 v] w fun e w' => e = .returned (.tuple #[.int .i64 (Pl.nv 0 2 (f / 16) v), .int .i64 (Pl.onF 0 2 (f / 16) v)]) ∧ w' = w := by
  have hA := Pl.and1 v
  have hB := Pl.and16 f0 f1
  obtain ⟨q0, q1⟩ := Pl.hi_bd 2 v
  have hC := Pl.and65535 (v * 2)
  have hD := Pl.or_low (a := v * 2 % 65536) (q := 0) (by omega) (by omega) (by omega) (by omega) (by omega)
  rw [Int.add_zero] at hD
  have hW : Hid (Pl.nv 0 2 (f / 16) v = (v * 2 % 65536)) := hide (by simp only [Pl.nv, Pl.inn, Pl.fell, Pl.top, Int.reduceMod, Int.reduceEq, Int.reduceLE, if_true, if_false, or_self] <;> omega)
  have hO : Hid (Pl.onF 0 2 (f / 16) v = Pl.hi 2 v + Pl.fl (Pl.hi 2 v != Pl.hi 2 (v * 2 % 65536)) 2 + (Pl.fl ((v * 2 % 65536) == 0) 4 + Pl.fl (decide (32768 ≤ (v * 2 % 65536))) 8) + Pl.hi 2 v * 16) := hide (by simp only [Pl.onF, Pl.vfl, hW.out, Pl.zn, Pl.nx, Pl.fell, Pl.top, Int.reduceMod, Int.reduceEq, Int.reduceDiv, if_true, if_false, decide_true, Bool.true_and, or_self] <;> omega)
  go_enter Tryz.func120, Tryz.ntmps120
  go_wp2_with fail
  refine (l1Top2 _).mono ?_
  rintro e w' ⟨rfl, rfl⟩
  go_wp2_with fail
  refine (l1FlagH2 _ _).mono ?_
  rintro e w' ⟨rfl, rfl⟩
  go_wp2_with fail
  refine (l3LeftT 0 rfl _).mono ?_
  rintro e w' ⟨rfl, rfl⟩
  go_wp2_with fail
  refine (l3LeftT 0 rfl _).mono ?_
  rintro e w' ⟨rfl, rfl⟩
  go_wp2_with fail
  refine (l1Zn2 _ _).mono ?_
  rintro e w' ⟨rfl, rfl⟩
  go_wp2_with fail
  refine (l1FlagH2 _ _).mono ?_
  rintro e w' ⟨rfl, rfl⟩
  go_wp2_with fail
  refine (l1Flag _ _ _).mono ?_
  rintro e w' ⟨rfl, rfl⟩
  go_wp2_with fail
  go_ret2
  exact ⟨rII hW.out.symm (by rw [Pl.or_flags (by omega) (Pl.fl_two _) (by omega)]; exact hO.out.symm), rfl⟩

theorem l3Once12 (f v : Int) (w : World) (f0 : 0 ≤ f) (f1 : f ≤ 31) (v0 : 0 ≤ v) (v1 : v < 65536) :
    Calls Tryz.prog 120 #[.int .i64 1, .int .i64 2, .int .i64 f, .int .i64 v] w fun e w' => e = .returned (.tuple #[.int .i64 (Pl.nv 1 2 (f / 16) v), .int .i64 (Pl.onF 1 2 (f / 16) v)]) ∧ w' = w := by
  have hA := Pl.and1 v
  have hB := Pl.and16 f0 f1
  obtain ⟨q0, q1⟩ := Pl.hi_bd 2 v
  have hD := Pl.or_high2 (a := v / 2) (q := Pl.hi 2 v) (by omega) (by omega) (by omega) (by omega)
  have hW : Hid (Pl.nv 1 2 (f / 16) v = (v / 2 + Pl.hi 2 v * 32768)) := hide (by simp only [Pl.nv, Pl.inn, Pl.fell, Pl.top, Int.reduceMod, Int.reduceEq, Int.reduceLE, if_true, if_false] <;> omega)
  have hO : Hid (Pl.onF 1 2 (f / 16) v = v % 2 + Pl.fl false 2 + (Pl.fl ((v / 2 + Pl.hi 2 v * 32768) == 0) 4 + Pl.fl (decide (32768 ≤ (v / 2 + Pl.hi 2 v * 32768))) 8) + v % 2 * 16) := hide (by simp only [Pl.onF, Pl.vfl, hW.out, Pl.zn, Pl.nx, Pl.fell, Pl.top, Int.reduceMod, Int.reduceEq, Int.reduceDiv, if_true, if_false, decide_false, Bool.false_and, or_self] <;> omega)
  go_enter Tryz.func120, Tryz.ntmps120
  go_wp2_with fail
  refine (l1Top2 _).mono ?_
  rintro e w' ⟨rfl, rfl⟩
  go_wp2_with fail
  refine (l1FlagH2 _ _).mono ?_
  rintro e w' ⟨rfl, rfl⟩
  go_wp2_with fail
  refine (l3LeftF 1 rfl _).mono ?_
  rintro e w' ⟨rfl, rfl⟩
  go_wp2_with fail
  refine (l3LeftF 1 rfl _).mono ?_
  rintro e w' ⟨rfl, rfl⟩
  go_wp2_with fail
  refine (l1Zn2 _ _).mono ?_
  rintro e w' ⟨rfl, rfl⟩
  go_wp2_with fail
  refine (l1Flag _ _ _).mono ?_
  rintro e w' ⟨rfl, rfl⟩
  go_wp2_with fail
  go_ret2
  exact ⟨rII hW.out.symm (by rw [Pl.or_flags (by omega) (Pl.fl_two _) (by omega)]; exact hO.out.symm), rfl⟩

theorem l3Once22 (f v : Int) (w : World) (f0 : 0 ≤ f) (f1 : f ≤ 31) (v0 : 0 ≤ v) (v1 : v < 65536) :
    Calls Tryz.prog 120 #[.int .i64 2, .int .i64 2, .int .i64 f, .int .i64 v] w fun e w' => e = .returned (.tuple #[.int .i64 (Pl.nv 2 2 (f / 16) v), .int .i64 (Pl.onF 2 2 (f / 16) v)]) ∧ w' = w := by
  have hA := Pl.and1 v
  have hB := Pl.and16 f0 f1
  obtain ⟨q0, q1⟩ := Pl.hi_bd 2 v
  have hC := Pl.and65535 (v * 2)
  have hD := Pl.or_low (a := v * 2 % 65536) (q := 0) (by omega) (by omega) (by omega) (by omega) (by omega)
  rw [Int.add_zero] at hD
  have hW : Hid (Pl.nv 2 2 (f / 16) v = (v * 2 % 65536)) := hide (by simp only [Pl.nv, Pl.inn, Pl.fell, Pl.top, Int.reduceMod, Int.reduceEq, Int.reduceLE, if_true, if_false, or_self] <;> omega)
  have hO : Hid (Pl.onF 2 2 (f / 16) v = Pl.hi 2 v + Pl.fl false 2 + (Pl.fl ((v * 2 % 65536) == 0) 4 + Pl.fl (decide (32768 ≤ (v * 2 % 65536))) 8) + Pl.hi 2 v * 16) := hide (by simp only [Pl.onF, Pl.vfl, hW.out, Pl.zn, Pl.nx, Pl.fell, Pl.top, Int.reduceMod, Int.reduceEq, Int.reduceDiv, if_true, if_false, decide_false, Bool.false_and, or_self] <;> omega)
  go_enter Tryz.func120, Tryz.ntmps120
  go_wp2_with fail
  refine (l1Top2 _).mono ?_
  rintro e w' ⟨rfl, rfl⟩
  go_wp2_with fail
  refine (l1FlagH2 _ _).mono ?_
  rintro e w' ⟨rfl, rfl⟩
  go_wp2_with fail
  refine (l3LeftT 2 rfl _).mono ?_
  rintro e w' ⟨rfl, rfl⟩
  go_wp2_with fail
  refine (l3LeftT 2 rfl _).mono ?_
  rintro e w' ⟨rfl, rfl⟩
  go_wp2_with fail
  refine (l1Zn2 _ _).mono ?_
  rintro e w' ⟨rfl, rfl⟩
  go_wp2_with fail
  refine (l1Flag _ _ _).mono ?_
  rintro e w' ⟨rfl, rfl⟩
  go_wp2_with fail
  go_ret2
  exact ⟨rII hW.out.symm (by rw [Pl.or_flags (by omega) (Pl.fl_two _) (by omega)]; exact hO.out.symm), rfl⟩

theorem l3Once32 (f v : Int) (w : World) (f0 : 0 ≤ f) (f1 : f ≤ 31) (v0 : 0 ≤ v) (v1 : v < 65536) :
    Calls Tryz.prog 120 #[.int .i64 3, .int .i64 2, .int .i64 f, .int .i64 v] w fun e w' => e = .returned (.tuple #[.int .i64 (Pl.nv 3 2 (f / 16) v), .int .i64 (Pl.onF 3 2 (f / 16) v)]) ∧ w' = w := by
  have hA := Pl.and1 v
  have hB := Pl.and16 f0 f1
  obtain ⟨q0, q1⟩ := Pl.hi_bd 2 v
  have hD := Pl.or_high2 (a := v / 2) (q := 0) (by omega) (by omega) (by omega) (by omega)
  rw [Int.zero_mul, Int.add_zero] at hD
  have hW : Hid (Pl.nv 3 2 (f / 16) v = (v / 2)) := hide (by simp only [Pl.nv, Pl.inn, Pl.fell, Pl.top, Int.reduceMod, Int.reduceEq, Int.reduceLE, if_true, if_false, or_self] <;> omega)
  have hO : Hid (Pl.onF 3 2 (f / 16) v = v % 2 + Pl.fl false 2 + (Pl.fl ((v / 2) == 0) 4 + Pl.fl (decide (32768 ≤ (v / 2))) 8) + v % 2 * 16) := hide (by simp only [Pl.onF, Pl.vfl, hW.out, Pl.zn, Pl.nx, Pl.fell, Pl.top, Int.reduceMod, Int.reduceEq, Int.reduceDiv, if_true, if_false, decide_false, Bool.false_and, or_self] <;> omega)
  go_enter Tryz.func120, Tryz.ntmps120
  go_wp2_with fail
  refine (l1Top2 _).mono ?_
  rintro e w' ⟨rfl, rfl⟩
  go_wp2_with fail
  refine (l1FlagH2 _ _).mono ?_
  rintro e w' ⟨rfl, rfl⟩
  go_wp2_with fail
  refine (l3LeftF 3 rfl _).mono ?_
  rintro e w' ⟨rfl, rfl⟩
  go_wp2_with fail
  refine (l3LeftF 3 rfl _).mono ?_
  rintro e w' ⟨rfl, rfl⟩
  go_wp2_with fail
  refine (l1Zn2 _ _).mono ?_
  rintro e w' ⟨rfl, rfl⟩
  go_wp2_with fail
  refine (l1Flag _ _ _).mono ?_
  rintro e w' ⟨rfl, rfl⟩
  go_wp2_with fail
  go_ret2
  exact ⟨rII hW.out.symm (by rw [Pl.or_flags (by omega) (Pl.fl_two _) (by omega)]; exact hO.out.symm), rfl⟩

theorem l3Once42 (f v : Int) (w : World) (f0 : 0 ≤ f) (f1 : f ≤ 31) (v0 : 0 ≤ v) (v1 : v < 65536) :
    Calls Tryz.prog 120 #[.int .i64 4, .int .i64 2, .int .i64 f, .int .i64 v] w fun e w' => e = .returned (.tuple #[.int .i64 (Pl.nv 4 2 (f / 16) v), .int .i64 (Pl.onF 4 2 (f / 16) v)]) ∧ w' = w := by
  have hA := Pl.and1 v
  have hB := Pl.and16 f0 f1
  obtain ⟨q0, q1⟩ := Pl.hi_bd 2 v
  have hC := Pl.and65535 (v * 2)
  have hD := Pl.or_low (a := v * 2 % 65536) (q := Pl.hi 2 v) (by omega) (by omega) (by omega) (by omega) (by omega)
  have hW : Hid (Pl.nv 4 2 (f / 16) v = (v * 2 % 65536 + Pl.hi 2 v)) := hide (by simp only [Pl.nv, Pl.inn, Pl.fell, Pl.top, Int.reduceMod, Int.reduceEq, Int.reduceLE, if_true, if_false, or_false] <;> omega)
  have hO : Hid (Pl.onF 4 2 (f / 16) v = Pl.hi 2 v + Pl.fl false 2 + (Pl.fl ((v * 2 % 65536 + Pl.hi 2 v) == 0) 4 + Pl.fl (decide (32768 ≤ (v * 2 % 65536 + Pl.hi 2 v))) 8) + f / 16 * 16) := hide (by simp only [Pl.onF, Pl.vfl, hW.out, Pl.zn, Pl.nx, Pl.fell, Pl.top, Int.reduceMod, Int.reduceEq, Int.reduceDiv, if_true, if_false, decide_false, Bool.false_and, or_false] <;> omega)
  go_enter Tryz.func120, Tryz.ntmps120
  go_wp2_with fail
  refine (l1Top2 _).mono ?_
  rintro e w' ⟨rfl, rfl⟩
  go_wp2_with fail
  refine (l1FlagH2 _ _).mono ?_
  rintro e w' ⟨rfl, rfl⟩
  go_wp2_with fail
  refine (l3LeftT 4 rfl _).mono ?_
  rintro e w' ⟨rfl, rfl⟩
  go_wp2_with fail
  refine (l3LeftT 4 rfl _).mono ?_
  rintro e w' ⟨rfl, rfl⟩
  go_wp2_with fail
  refine (l1Zn2 _ _).mono ?_
  rintro e w' ⟨rfl, rfl⟩
  go_wp2_with fail
  refine (l1Flag _ _ _).mono ?_
  rintro e w' ⟨rfl, rfl⟩
  go_wp2_with fail
  go_ret2
  exact ⟨rII hW.out.symm (by rw [Pl.or_flags (by omega) (Pl.fl_two _) (by omega)]; exact hO.out.symm), rfl⟩

theorem l3Once52 (f v : Int) (w : World) (f0 : 0 ≤ f) (f1 : f ≤ 31) (v0 : 0 ≤ v) (v1 : v < 65536) :
    Calls Tryz.prog 120 #[.int .i64 5, .int .i64 2, .int .i64 f, .int .i64 v] w fun e w' => e = .returned (.tuple #[.int .i64 (Pl.nv 5 2 (f / 16) v), .int .i64 (Pl.onF 5 2 (f / 16) v)]) ∧ w' = w := by
  have hA := Pl.and1 v
  have hB := Pl.and16 f0 f1
  obtain ⟨q0, q1⟩ := Pl.hi_bd 2 v
  have hD := Pl.or_high2 (a := v / 2) (q := (v % 2)) (by omega) (by omega) (by omega) (by omega)
  have hW : Hid (Pl.nv 5 2 (f / 16) v = (v / 2 + (v % 2) * 32768)) := hide (by simp only [Pl.nv, Pl.inn, Pl.fell, Pl.top, Int.reduceMod, Int.reduceEq, Int.reduceLE, if_true, if_false, or_true] <;> omega)
  have hO : Hid (Pl.onF 5 2 (f / 16) v = v % 2 + Pl.fl false 2 + (Pl.fl ((v / 2 + (v % 2) * 32768) == 0) 4 + Pl.fl (decide (32768 ≤ (v / 2 + (v % 2) * 32768))) 8) + f / 16 * 16) := hide (by simp only [Pl.onF, Pl.vfl, hW.out, Pl.zn, Pl.nx, Pl.fell, Pl.top, Int.reduceMod, Int.reduceEq, Int.reduceDiv, if_true, if_false, decide_false, Bool.false_and, or_true] <;> omega)
  go_enter Tryz.func120, Tryz.ntmps120
  go_wp2_with fail
  refine (l1Top2 _).mono ?_
  rintro e w' ⟨rfl, rfl⟩
  go_wp2_with fail
  refine (l1FlagH2 _ _).mono ?_
  rintro e w' ⟨rfl, rfl⟩
  go_wp2_with fail
  refine (l3LeftF 5 rfl _).mono ?_
  rintro e w' ⟨rfl, rfl⟩
  go_wp2_with fail
  refine (l3LeftF 5 rfl _).mono ?_
  rintro e w' ⟨rfl, rfl⟩
  go_wp2_with fail
  refine (l1Zn2 _ _).mono ?_
  rintro e w' ⟨rfl, rfl⟩
  go_wp2_with fail
  refine (l1Flag _ _ _).mono ?_
  rintro e w' ⟨rfl, rfl⟩
  go_wp2_with fail
  go_ret2
  exact ⟨rII hW.out.symm (by rw [Pl.or_flags (by omega) (Pl.fl_two _) (by omega)]; exact hO.out.symm), rfl⟩

theorem l3Once62 (f v : Int) (w : World) (f0 : 0 ≤ f) (f1 : f ≤ 31) (v0 : 0 ≤ v) (v1 : v < 65536) :
    Calls Tryz.prog 120 #[.int .i64 6, .int .i64 2, .int .i64 f, .int .i64 v] w fun e w' => e = .returned (.tuple #[.int .i64 (Pl.nv 6 2 (f / 16) v), .int .i64 (Pl.onF 6 2 (f / 16) v)]) ∧ w' = w := by
  have hA := Pl.and1 v
  have hB := Pl.and16 f0 f1
  obtain ⟨q0, q1⟩ := Pl.hi_bd 2 v
  have hC := Pl.and65535 (v * 2)
  have hD := Pl.or_low (a := v * 2 % 65536) (q := (f / 16)) (by omega) (by omega) (by omega) (by omega) (by omega)
  have hW : Hid (Pl.nv 6 2 (f / 16) v = (v * 2 % 65536 + (f / 16))) := hide (by simp only [Pl.nv, Pl.inn, Pl.fell, Pl.top, Int.reduceMod, Int.reduceEq, Int.reduceLE, if_true, if_false, or_self] <;> omega)
  have hO : Hid (Pl.onF 6 2 (f / 16) v = Pl.hi 2 v + Pl.fl false 2 + (Pl.fl ((v * 2 % 65536 + (f / 16)) == 0) 4 + Pl.fl (decide (32768 ≤ (v * 2 % 65536 + (f / 16)))) 8) + Pl.hi 2 v * 16) := hide (by simp only [Pl.onF, Pl.vfl, hW.out, Pl.zn, Pl.nx, Pl.fell, Pl.top, Int.reduceMod, Int.reduceEq, Int.reduceDiv, if_true, if_false, decide_false, Bool.false_and, or_self] <;> omega)
  go_enter Tryz.func120, Tryz.ntmps120
  go_wp2_with fail
  refine (l1Top2 _).mono ?_
  rintro e w' ⟨rfl, rfl⟩
  go_wp2_with fail
  refine (l1FlagH2 _ _).mono ?_
  rintro e w' ⟨rfl, rfl⟩
  go_wp2_with fail
  refine (l3LeftT 6 rfl _).mono ?_
  rintro e w' ⟨rfl, rfl⟩
  go_wp2_with fail
  refine (l1FlagX f f0 f1 _).mono ?_
  rintro e w' ⟨rfl, rfl⟩
  go_wp2_with fail
  refine (l3LeftT 6 rfl _).mono ?_
  rintro e w' ⟨rfl, rfl⟩
  go_wp2_with fail
  refine (l1Zn2 _ _).mono ?_
  rintro e w' ⟨rfl, rfl⟩
  go_wp2_with fail
  refine (l1Flag _ _ _).mono ?_
  rintro e w' ⟨rfl, rfl⟩
  go_wp2_with fail
  go_ret2
  exact ⟨rII hW.out.symm (by rw [Pl.or_flags (by omega) (Pl.fl_two _) (by omega)]; exact hO.out.symm), rfl⟩

theorem l3Once72 (f v : Int) (w : World) (f0 : 0 ≤ f) (f1 : f ≤ 31) (v0 : 0 ≤ v) (v1 : v < 65536) :
    Calls Tryz.prog 120 #[.int .i64 7, .int .i64 2, .int .i64 f, .int .i64 v] w fun e w' => e = .returned (.tuple #[.int .i64 (Pl.nv 7 2 (f / 16) v), .int .i64 (Pl.onF 7 2 (f / 16) v)]) ∧ w' = w := by
  have hA := Pl.and1 v
  have hB := Pl.and16 f0 f1
  obtain ⟨q0, q1⟩ := Pl.hi_bd 2 v
  have hD := Pl.or_high2 (a := v / 2) (q := (f / 16)) (by omega) (by omega) (by omega) (by omega)
  have hW : Hid (Pl.nv 7 2 (f / 16) v = (v / 2 + (f / 16) * 32768)) := hide (by simp only [Pl.nv, Pl.inn, Pl.fell, Pl.top, Int.reduceMod, Int.reduceEq, Int.reduceLE, if_true, if_false, or_self] <;> omega)
  have hO : Hid (Pl.onF 7 2 (f / 16) v = v % 2 + Pl.fl false 2 + (Pl.fl ((v / 2 + (f / 16) * 32768) == 0) 4 + Pl.fl (decide (32768 ≤ (v / 2 + (f / 16) * 32768))) 8) + v % 2 * 16) := hide (by simp only [Pl.onF, Pl.vfl, hW.out, Pl.zn, Pl.nx, Pl.fell, Pl.top, Int.reduceMod, Int.reduceEq, Int.reduceDiv, if_true, if_false, decide_false, Bool.false_and, or_self] <;> omega)
  go_enter Tryz.func120, Tryz.ntmps120
  go_wp2_with fail
  refine (l1Top2 _).mono ?_
  rintro e w' ⟨rfl, rfl⟩
  go_wp2_with fail
  refine (l1FlagH2 _ _).mono ?_
  rintro e w' ⟨rfl, rfl⟩
  go_wp2_with fail
  refine (l3LeftF 7 rfl _).mono ?_
  rintro e w' ⟨rfl, rfl⟩
  go_wp2_with fail
  refine (l1FlagX f f0 f1 _).mono ?_
  rintro e w' ⟨rfl, rfl⟩
  go_wp2_with fail
  refine (l3LeftF 7 rfl _).mono ?_
  rintro e w' ⟨rfl, rfl⟩
  go_wp2_with fail
  refine (l1Zn2 _ _).mono ?_
  rintro e w' ⟨rfl, rfl⟩
  go_wp2_with fail
  refine (l1Flag _ _ _).mono ?_
  rintro e w' ⟨rfl, rfl⟩
  go_wp2_with fail
  go_ret2
  exact ⟨rII hW.out.symm (by rw [Pl.or_flags (by omega) (Pl.fl_two _) (by omega)]; exact hO.out.symm), rfl⟩

end Go.Proofs.YtblddehlkaolbaaGreatDoor

namespace Go.Proofs.YtblddehlkaolbaaGreatDoor
open Go.RowKit
set_option linter.unusedVariables false

theorem Pl.parts_and2 {c x : Int} {o z n : Bool} (hc : c = 0 ∨ c = 1) (hx : x = 0 ∨ x = 1) : bits .and .i64 (c + Pl.fl o 2 + (Pl.fl z 4 + Pl.fl n 8) + 16 * x) 2 = Pl.fl o 2 := by
  rcases hc with rfl | rfl <;> rcases hx with rfl | rfl <;> cases o <;> cases z <;> cases n <;> decide
theorem Pl.parts_or2 {c x : Int} {o z n q : Bool} (hc : c = 0 ∨ c = 1) (hx : x = 0 ∨ x = 1) (hq : o = true → q = true) : bits .or .i64 (c + Pl.fl o 2 + (Pl.fl z 4 + Pl.fl n 8) + 16 * x) (Pl.fl q 2) = c + Pl.fl q 2 + (Pl.fl z 4 + Pl.fl n 8) + 16 * x := by
  rcases hc with rfl | rfl <;> rcases hx with rfl | rfl <;> cases o <;> cases z <;> cases n <;> cases q <;> first | decide | (exact absurd (hq rfl) (by decide))
theorem Pl.onF_and2 {k s : Int} {p : Int × Int} (h : Pl.Fit s p) : bits .and .i64 (Pl.onF k s p.2 p.1) 2 = Pl.fl (Pl.vfl k s p.2 p.1) 2 := by
  have f := Pl.fell_bd k s p.1
  have x := Pl.nx_bd k s p.2 p.1 h.2.2.2.1 h.2.2.2.2
  unfold Pl.onF Pl.zn
  exact Pl.parts_and2 (by omega) (by omega)
theorem Pl.onF_or2 {k s : Int} {p : Int × Int} (h : Pl.Fit s p) {q : Bool} (hq : Pl.vfl k s p.2 p.1 = true → q = true) :
    bits .or .i64 (Pl.onF k s p.2 p.1) (Pl.fl q 2) = Pl.fell k s p.1 + Pl.fl q 2 + Pl.zn s (Pl.nv k s p.2 p.1) + 16 * Pl.nx k s p.2 p.1 := by
  have f := Pl.fell_bd k s p.1
  have x := Pl.nx_bd k s p.2 p.1 h.2.2.2.1 h.2.2.2.2
  unfold Pl.onF Pl.zn
  exact Pl.parts_or2 (by omega) (by omega) hq
theorem Pl.fl_join2 (a b : Bool) : bits .or .i64 (Pl.fl a 2) (Pl.fl b 2) = Pl.fl (a || b) 2 := by cases a <;> cases b <;> decide
/-- one place, of whatever kind and size -/
theorem l3Once (k s f v : Int) (w : World) (k0 : 0 ≤ k) (k1 : k ≤ 7) (f0 : 0 ≤ f) (f1 : f ≤ 31) (h : Pl.Fit s (v, f / 16)) :
    Calls Tryz.prog 120 #[.int .i64 k, .int .i64 s, .int .i64 f, .int .i64 v] w fun e w' => e = .returned (.tuple #[.int .i64 (Pl.nv k s (f / 16) v), .int .i64 (Pl.onF k s (f / 16) v)]) ∧ w' = w := by
  obtain ⟨hs, v0, v1, _, _⟩ := h
  simp only at v0 v1
  have hk : k = 0 ∨ k = 1 ∨ k = 2 ∨ k = 3 ∨ k = 4 ∨ k = 5 ∨ k = 6 ∨ k = 7 := by omega
  rcases Pl.top12 hs with ⟨rfl, e⟩ | ⟨rfl, e⟩
  · rw [e] at v1
    rcases hk with rfl | rfl | rfl | rfl | rfl | rfl | rfl | rfl
    · exact l3Once01 f v w f0 f1 v0 v1
    · exact l3Once11 f v w f0 f1 v0 v1
    · exact l3Once21 f v w f0 f1 v0 v1
    · exact l3Once31 f v w f0 f1 v0 v1
    · exact l3Once41 f v w f0 f1 v0 v1
    · exact l3Once51 f v w f0 f1 v0 v1
    · exact l3Once61 f v w f0 f1 v0 v1
    · exact l3Once71 f v w f0 f1 v0 v1
  · rw [e] at v1
    rcases hk with rfl | rfl | rfl | rfl | rfl | rfl | rfl | rfl
    · exact l3Once02 f v w f0 f1 v0 v1
    · exact l3Once12 f v w f0 f1 v0 v1
    · exact l3Once22 f v w f0 f1 v0 v1
    · exact l3Once32 f v w f0 f1 v0 v1
    · exact l3Once42 f v w f0 f1 v0 v1
    · exact l3Once52 f v w f0 f1 v0 v1
    · exact l3Once62 f v w f0 f1 v0 v1
    · exact l3Once72 f v w f0 f1 v0 v1

theorem l1ZnS (s v : Int) (w : World) (hs : s = 1 ∨ s = 2) :
    Calls Tryz.prog 117 #[.int .i64 s, .int .i64 v] w fun e w' => e = .returned (.int .i64 (bits .or .i64 (Pl.fl (v == 0) 4) (Pl.fl (decide (Pl.top s / 2 ≤ v)) 8))) ∧ w' = w := by
  rcases hs with rfl | rfl
  · exact l1Zn1 v w
  · exact l1Zn2 v w

theorem l3By0 (k s f v : Int) (w : World) (k0 : 0 ≤ k) (k1 : k ≤ 7) (f0 : 0 ≤ f) (f1 : f ≤ 31) (h : Pl.Fit s (v, f / 16)) :
    Calls Tryz.prog 78 #[.int .i64 k, .int .i64 s, .int .i64 f, .int .i64 v, .int .i64 0] w fun e w' => e = .returned (.tuple #[.int .i64 v, .int .i64 (Pl.byF k s (v, f / 16) 0)]) ∧ w' = w := by
  have hB := Pl.and16 f0 f1
  obtain hx | hx : f / 16 = 0 ∨ f / 16 = 1 := by omega
  all_goals
    have E : Hid (Pl.byF k s (v, f / 16) 0 = Pl.fl (decide (f / 16 ≠ 0) && decide (6 ≤ k)) 1 + (Pl.fl (v == 0) 4 + Pl.fl (decide (Pl.top s / 2 ≤ v)) 8) + 16 * (f / 16)) := hide rfl
    have HX := hide hx
    rw [hx] at hB
    have hs := h.1
    clear hx
    go_enter Tryz.func78, Tryz.ntmps78
    go_wp2_with fail
    refine (l1ZnS s v _ hs).mono ?_
    rintro e w' ⟨rfl, rfl⟩
    go_wp2_with fail
    refine (l1Flag _ _ _).mono ?_
    rintro e w' ⟨rfl, rfl⟩
    go_wp2_with fail
    go_ret2
    refine ⟨rII rfl ?_, rfl⟩
    rw [E.out, HX.out]
    generalize (v == 0) = z
    generalize decide (Pl.top s / 2 ≤ v) = n
    generalize decide (6 ≤ k) = q
    cases z <;> cases n <;> cases q <;> decide

/-- the flags behind m places -/
def Pl.run (k s f v : Int) : Nat → Int
  | 0 => f
  | m + 1 => Pl.onF k s (Pl.st k s (v, f / 16) m).2 (Pl.st k s (v, f / 16) m).1
theorem Pl.run_ok {k s f v : Int} (f0 : 0 ≤ f) (f1 : f ≤ 31) (h : Pl.Fit s (v, f / 16)) (m : Nat) : 0 ≤ Pl.run k s f v m ∧ Pl.run k s f v m ≤ 31 ∧ Pl.run k s f v m / 16 = (Pl.st k s (v, f / 16) m).2 := by
  cases m with
  | zero => exact ⟨f0, f1, rfl⟩
  | succ m => exact Pl.onF_bd (Pl.st_fit h m)

theorem Pl.run_or {k s f v : Int} (h : Pl.Fit s (v, f / 16)) {n : Nat} (n0 : 0 < n) : bits .or .i64 (Pl.run k s f v n) (Pl.fl (Pl.ov k s (v, f / 16) n) 2) = Pl.byF k s (v, f / 16) n := by
  cases n with
  | zero => omega
  | succ m => exact Pl.onF_or2 (Pl.st_fit h m) (fun hv => by simp [Pl.ov, hv])

theorem l3ByN (k s f v : Int) (n : Nat) (w : World) (k0 : 0 ≤ k) (k1 : k ≤ 7) (f0 : 0 ≤ f) (f1 : f ≤ 31) (h : Pl.Fit s (v, f / 16)) (n0 : 0 < n) (n1 : n ≤ 63) :
    Calls Tryz.prog 78 #[.int .i64 k, .int .i64 s, .int .i64 f, .int .i64 v, .int .i64 n] w fun e w' => e = .returned (.tuple #[.int .i64 (Pl.st k s (v, f / 16) n).1, .int .i64 (Pl.byF k s (v, f / 16) n)]) ∧ w' = w := by
  have kn : (((n : Nat) : Int) == 0) = false := by simp; omega
  go_enter Tryz.func78, Tryz.ntmps78
  go_wp2_with fail
  go_loop [2, 3, 4, 13] (fun F V C O => ∃ m : Nat, m ≤ n ∧ F = .int .i64 (Pl.run k s f v m) ∧ V = .int .i64 (Pl.st k s (v, f / 16) m).1 ∧ C = .int .i64 ((n : Int) - (m : Int)) ∧ O = .int .i64 (Pl.fl (Pl.ov k s (v, f / 16) m) 2)) (fun _ _ c _ => (intOf c).toNat)
  case atStart => exact ⟨0, Nat.zero_le _, rfl, rfl, by go_num, rfl⟩
  case round =>
    obtain ⟨m, hm, rfl, rfl, rfl, rfl⟩ := hrel
    by_cases hlt : m < n
    · obtain ⟨r0, r1, r2⟩ := Pl.run_ok (k := k) f0 f1 h m
      have hf := Pl.st_fit (k := k) h m
      have hq := Pl.onF_and2 (k := k) hf
      have hj := Pl.fl_join2 (Pl.ov k s (v, f / 16) m) (Pl.vfl k s (Pl.st k s (v, f / 16) m).2 (Pl.st k s (v, f / 16) m).1)
      have hF : Pl.Fit s ((Pl.st k s (v, f / 16) m).1, Pl.run k s f v m / 16) := by rw [r2]; exact hf
      have hc : 0 < (n : Int) - (m : Int) := by omega
      go_wp2_with fail
      refine (l3Once k s _ _ _ k0 k1 r0 r1 hF).mono ?_
      rintro e w' ⟨rfl, rfl⟩
      rw [r2]
      go_wp2_with fail
      go_round
      case rel => exact ⟨m + 1, by omega, rfl, rfl, by go_num, rfl⟩
      case measure => simp [intOf]; omega
    · obtain rfl : m = n := by omega
      have hO := hide (Pl.run_or (k := k) h n0)
      go_wp2_with fail
      go_ret2
      exact ⟨rII rfl hO.out, rfl⟩

theorem l3By (k s f v n : Int) (w : World) (k0 : 0 ≤ k) (k1 : k ≤ 7) (f0 : 0 ≤ f) (f1 : f ≤ 31) (h : Pl.Fit s (v, f / 16)) (n0 : 0 ≤ n) (n1 : n ≤ 63) :
    Calls Tryz.prog 78 #[.int .i64 k, .int .i64 s, .int .i64 f, .int .i64 v, .int .i64 n] w fun e w' => e = .returned (.tuple #[.int .i64 (Pl.st k s (v, f / 16) n.toNat).1, .int .i64 (Pl.byF k s (v, f / 16) n.toNat)]) ∧ w' = w := by
  obtain ⟨m, rfl⟩ := Int.eq_ofNat_of_zero_le n0
  cases m with
  | zero => exact l3By0 k s f v w k0 k1 f0 f1 h
  | succ m => exact l3ByN k s f v (m + 1) w k0 k1 f0 f1 h (by omega) (by omega)

end Go.Proofs.YtblddehlkaolbaaGreatDoor

namespace Go.Proofs.YtblddehlkaolbaaGreatDoor
open Go.RowKit
set_option linter.unusedVariables false
theorem cellsS4 {W : World} {p gd cd ga ca g1 c1 g2 c2 b : Nat} {c : Pl.Mc} {x : Pl.In} {ty : TypeId} (hB : MB W p gd cd ga ca g1 c1 g2 c2 c) (hX : Blk W b (insC x) ty) : W.cell? ⟨p, 0, none⟩ = some (.slice (some ⟨gd, 0, none⟩) 4 cd) ∧ W.cell? ⟨p, 1, none⟩ = some (.slice (some ⟨ga, 0, none⟩) 4 ca) ∧ W.cell? ⟨p, 2, none⟩ = some (.int .i64 c.r.o) ∧ W.cell? ⟨p, 3, none⟩ = some (.int .i64 c.r.p) ∧ W.cell? ⟨p, 4, none⟩ = some (.int .i64 c.r.f) ∧ W.cell? ⟨p, 5, none⟩ = some (.int .i64 c.r.m) ∧ W.cell? ⟨p, 6, none⟩ = some (.bool c.r.s) ∧ W.cell? ⟨p, 7, none⟩ = some (.bool c.r.t) ∧ W.cell? ⟨b, 1, none⟩ = some (.int .i64 x.z) ∧ W.cell? ⟨b, 2, none⟩ = some (.int .i64 x.r) ∧ W.cell? ⟨b, 4, none⟩ = some (.int .i64 x.k) ∧ W.cell? ⟨b, 6, none⟩ = some (.int .i64 x.s) := by
  obtain ⟨t0, t1, t2, t3, t4, t5, t6, t7, _⟩ := hB.cells
  obtain ⟨b0, b1, b2, b3, b4, b5, b6⟩ := insAt hX
  exact ⟨t0, t1, t2, t3, t4, t5, t6, t7, b1, b2, b4, b6⟩
theorem Pl.fit_of {z v f : Int} (hv : Pl.okv z v = true) (f0 : 0 ≤ f) (f1 : f ≤ 31) (k : Int) (k0 : 0 ≤ k) (k1 : k ≤ 7) : Pl.goodK k z f v = true := by
  unfold Pl.goodK; rw [hv]; simp [Pl.flags]; omega
set_option maxRecDepth 100000 in
set_option maxHeartbeats 8000000 in
theorem mDo_shift (w : World) (lo mid hi p g2 : Nat) (c : Pl.Mc) (x : Pl.In) (t : Int) (h : MAt w lo mid hi p g2 c) (G : Pl.GM c) (B : Pl.InB x) (ho : x.op = 12) :
    Calls Tryz.prog 43 #[.pointer (some ⟨p, 0, none⟩), .agg #[.int .i64 x.op, .int .i64 x.z, .int .i64 x.r, .int .i64 x.m, .int .i64 x.k, .int .i64 x.e, .int .i64 x.s], .int .i64 t] w fun e w' => e = .returned (.tuple #[]) ∧ ∃ g3, MAt w' lo mid hi p g3 (c.doI x t) ∧ Since w lo hi g2 w' g3 := by
  have HG := hide G
  have HI := hide B
  have HOP := hide ho
  clear ho
  have hl := h.lo
  have KA := hide (kept_alloc w (.cells #[.int .i64 x.op, .int .i64 x.z, .int .i64 x.r, .int .i64 x.m, .int .i64 x.k, .int .i64 x.e, .int .i64 x.s] 79))
  have BA : Blk (w.alloc (.cells #[.int .i64 x.op, .int .i64 x.z, .int .i64 x.r, .int .i64 x.m, .int .i64 x.k, .int .i64 x.e, .int .i64 x.s] 79)) w.heap.size (insC x) 79 := Blk.new w #[.int .i64 x.op, .int .i64 x.z, .int .i64 x.r, .int .i64 x.m, .int .i64 x.k, .int .i64 x.e, .int .i64 x.s] 79
  obtain ⟨X, hX⟩ : ∃ X : World, w.alloc (.cells #[.int .i64 x.op, .int .i64 x.z, .int .i64 x.r, .int .i64 x.m, .int .i64 x.k, .int .i64 x.e, .int .i64 x.s] 79) = X := ⟨_, rfl⟩
  rw [hX] at KA BA
  have HX := hide BA
  have hbw := BA.lt
  obtain ⟨b0, b1, b2, b3, b4, b5, b6⟩ := insAt HX.out
  rw [HOP.out] at b0
  have HHB : Hid (hi ≤ w.heap.size) := hide hl.2.2.2.2.2.2
  have HGB : Hid (w.heap.size ≠ g2) := hide (by have := hl.2.2.2.2.2.1; omega)
  have HPH : Hid ((lo ≤ p ∧ p < hi) ∨ w.heap.size ≤ p) := hide (by omega)
  have HPB : Hid (p < w.heap.size) := hide hl.2.2.2.2.1
  have HMH : Hid (mid ≤ hi) := hide (by omega)
  have HS := hide ((Since.refl w lo hi g2).any KA.out)
  have h2 := h.any KA.out
  clear h BA
  have HM := hide h2
  obtain ⟨gd, cd, ga, ca, g1, c1, c2, hB9, hO9⟩ := h2
  have HB := hide hB9
  have HO := hide hO9
  obtain ⟨t0, t1, t2, t3, t4, t5, t6, t7, t8, t9, t10, t11, t12, t13, t14, t15⟩ := hB9.cells
  clear t0 t1 t2 t3 t4 t5 t6 t7 t8 t9 t10 t11 t12 t13 t14 t15
  clear hB9 hO9
  clear G B
  have r0 := HI.out.r0
  have r1 := HI.out.r1
  have r4 : x.r < 4 := by omega
  have HR4 : Hid (x.r.toNat < 4) := hide (by omega)
  have E : Hid (c.doI x t = (c.setF (Pl.byFl x.s x.z c.r.f (c.low x.z x.r) (x.k + 1))).put x.z x.r (Pl.byVal x.s x.z c.r.f (c.low x.z x.r) (x.k + 1))) := hide (by unfold Pl.Mc.doI; rw [HOP.out]; rfl)
  have HQ : Hid (el c.r.xs x.r.toNat % Pl.top x.z = c.low x.z x.r) := hide rfl
  have HVQ := hide (Pl.low_in HG.out HI.out.z HI.out.r0 HI.out.r1)
  obtain ⟨q, hq⟩ : ∃ q, c.low x.z x.r = q := ⟨_, rfl⟩
  rw [hq] at HQ HVQ E
  clear hq
  have KD := hide (kept_drew (Kept.refl 0 0 X))
  have HD := hide (HO.out.any KD.out).d
  have k0 := HI.out.k0
  have k1 := HI.out.k1
  have HGK := Pl.fit_of HVQ.out HG.out.g.f0 HG.out.g.f1 x.s HI.out.s0 HI.out.s1
  have HFT := (Pl.goodK_ok HGK).2.2.2.2.2
  have HOKB : Pl.byOk x.s x.z c.r.f q (x.k + 1) = true := by unfold Pl.byOk Pl.cnt; rw [HGK]; simp; omega
  have eV : Pl.byVal x.s x.z c.r.f q (x.k + 1) = (Pl.st x.s x.z (q, c.r.f / 16) (x.k + 1).toNat).1 := by unfold Pl.byVal; rw [if_pos HOKB]
  have eF : Pl.byFl x.s x.z c.r.f q (x.k + 1) = Pl.byF x.s x.z (q, c.r.f / 16) (x.k + 1).toNat := by unfold Pl.byFl; rw [if_pos HOKB]
  have HBV := fun w9 => l3By x.s x.z c.r.f q (x.k + 1) w9 HI.out.s0 HI.out.s1 HG.out.g.f0 HG.out.g.f1 HFT (by omega) (by omega)
  have hFb := Pl.byF_bd (k := x.s) HFT (x.k + 1).toNat
  have hVb := Pl.st_fit (k := x.s) HFT (x.k + 1).toNat
  rw [← eF] at hFb
  rw [← eV, ← eF] at HBV
  have hVo : Pl.okv x.z (Pl.byVal x.s x.z c.r.f q (x.k + 1)) = true := by
    rw [eV]; obtain ⟨h1, h2, h3, _⟩ := hVb; unfold Pl.okv; simp only [Bool.and_eq_true, Bool.or_eq_true, decide_eq_true_eq]; exact ⟨h1, h2, h3⟩
  obtain ⟨V, hV⟩ : ∃ V, Pl.byVal x.s x.z c.r.f q (x.k + 1) = V := ⟨_, rfl⟩
  obtain ⟨F, hF⟩ : ∃ F, Pl.byFl x.s x.z c.r.f q (x.k + 1) = F := ⟨_, rfl⟩
  rw [hV] at hVo
  rw [hF] at hFb
  rw [hV, hF] at E HBV
  have hw1 : IntKind.i64.wrap (x.k + 1) = x.k + 1 := by rw [IntKind.wrap_i64]; omega
  have HB3 : Hid (∀ w9 : World, Calls Tryz.prog 78 #[.int .i64 x.s, .int .i64 x.z, .int .i64 c.r.f, .int .i64 q, .int .i64 (IntKind.i64.wrap (x.k + 1))] w9 fun e w' => e = .returned (.tuple #[.int .i64 V, .int .i64 F]) ∧ w' = w9) := hide (by intro w9; rw [hw1]; exact HBV w9)
  have HVV := hide hVo
  have HGF := hide (HG.out.setF hFb.1 hFb.2.1).g
  clear HGK HFT HOKB eV eF HBV hFb hVb hVo hV hF hw1
  have S1D := cellsS4 (HB.out.any KD.out) (HX.out.kept0 KD.out)
  go_enter Tryz.func43, Tryz.ntmps43
  go_wp2_with fail
  go_region_held3 (fun w' => w'.cell? ⟨p, 0, none⟩ = some (.slice (some ⟨gd, 0, none⟩) 4 cd) ∧ w'.cell? ⟨p, 1, none⟩ = some (.slice (some ⟨ga, 0, none⟩) 4 ca) ∧ w'.cell? ⟨p, 2, none⟩ = some (.int .i64 c.r.o) ∧ w'.cell? ⟨p, 3, none⟩ = some (.int .i64 c.r.p) ∧ w'.cell? ⟨p, 4, none⟩ = some (.int .i64 c.r.f) ∧ w'.cell? ⟨p, 5, none⟩ = some (.int .i64 c.r.m) ∧ w'.cell? ⟨p, 6, none⟩ = some (.bool c.r.s) ∧ w'.cell? ⟨p, 7, none⟩ = some (.bool c.r.t) ∧ w'.cell? ⟨w.heap.size, 1, none⟩ = some (.int .i64 x.z) ∧ w'.cell? ⟨w.heap.size, 2, none⟩ = some (.int .i64 x.r) ∧ w'.cell? ⟨w.heap.size, 4, none⟩ = some (.int .i64 x.k) ∧ w'.cell? ⟨w.heap.size, 6, none⟩ = some (.int .i64 x.s)) (first | with_reducible exact S1D | with_reducible exact cellsS4 HB_2.out HX_2.out | go_keep) (first | (go_at_call 74; refine (mLow _ gd cd ga ca c.r x.z x.r HD.out HG.out.g HI.out.z HI.out.r0 HI.out.r1).mono ?_; rw [HQ.out]; rintro e9 W_2 ⟨rfl, hk9⟩; have K2 := hide ((kept_drew (Kept.refl 0 0 X)).trans hk9); clear hk9; have HM_2 := hide (HM.out.any K2.out); have HB_2 := hide (HB.out.any K2.out); have HO_2 := hide (HO.out.any K2.out); have HX_2 := hide (HX.out.kept0 K2.out); have HS_2 := hide (HS.out.any K2.out); obtain ⟨t0_2, t1_2, t2_2, t3_2, t4_2, t5_2, t6_2, t7_2, _⟩ := HB_2.out.cells; have f0_2 := HB_2.out.frozen 0; have f1_2 := HB_2.out.frozen 1; have f2_2 := HB_2.out.frozen 2; have f3_2 := HB_2.out.frozen 3; have f4_2 := HB_2.out.frozen 4; have f5_2 := HB_2.out.frozen 5; have f6_2 := HB_2.out.frozen 6; have f7_2 := HB_2.out.frozen 7; clear b0 b1 b2 b3 b4 b5 b6; obtain ⟨b0, b1, b2, b3, b4, b5, b6⟩ := insAt HX_2.out; rw [HOP.out] at b0) | (go_at_call 78; refine (HB3.out _).mono ?_; rintro e9 w9 ⟨rfl, hw⟩; have hw2 := hw.symm; clear hw; subst hw2))
  go_wp2_with fail
  have HBY := hide ((HB_2.out.cF (F)).any (kept_drew (Kept.refl 0 0 (W_2.setCell ⟨p, 4, none⟩ (.int .i64 (F))))))
  have HOY := hide ((HO_2.out.own (kept_one _ p 4 (.int .i64 (F)))).any (kept_drew (Kept.refl 0 0 (W_2.setCell ⟨p, 4, none⟩ (.int .i64 (F))))))
  have HSY := hide ((HS_2.out.set p 4 (.int .i64 (F)) HPH.out).drew)
  have HXY := hide ((HX_2.out.other p 4 (.int .i64 (F)) (by have := HPB.out; omega)).kept0 (kept_drew (Kept.refl 0 0 (W_2.setCell ⟨p, 4, none⟩ (.int .i64 (F))))))
  have HRY := hide (MO.reg (r := (c.setF (F)).r) HOY.out)
  have HMY : Hid (mid ≤ (W_2.setCell ⟨p, 4, none⟩ (.int .i64 (F))).drew.heap.size) := hide (Nat.le_trans HMH.out HOY.out.hh)
  have HPM := HOY.out.p0
  have HNM : Hid (¬ (lo ≤ w.heap.size ∧ w.heap.size < mid)) := hide (by have := HHB.out; have := HMH.out; omega)
  have HNP : Hid (¬ (p ≤ w.heap.size ∧ w.heap.size < p + 1)) := hide (by have := HPB.out; omega)
  have SYD := cellsS HBY.out HXY.out
  go_region_held3 (fun w' => w'.cell? ⟨p, 0, none⟩ = some (.slice (some ⟨gd, 0, none⟩) 4 cd) ∧ w'.cell? ⟨p, 1, none⟩ = some (.slice (some ⟨ga, 0, none⟩) 4 ca) ∧ w'.cell? ⟨p, 2, none⟩ = some (.int .i64 (c.setF (F)).r.o) ∧ w'.cell? ⟨p, 3, none⟩ = some (.int .i64 (c.setF (F)).r.p) ∧ w'.cell? ⟨p, 4, none⟩ = some (.int .i64 (c.setF (F)).r.f) ∧ w'.cell? ⟨p, 5, none⟩ = some (.int .i64 (c.setF (F)).r.m) ∧ w'.cell? ⟨p, 6, none⟩ = some (.bool (c.setF (F)).r.s) ∧ w'.cell? ⟨p, 7, none⟩ = some (.bool (c.setF (F)).r.t) ∧ w'.cell? ⟨w.heap.size, 1, none⟩ = some (.int .i64 x.z) ∧ w'.cell? ⟨w.heap.size, 2, none⟩ = some (.int .i64 x.r)) (first | with_reducible exact SYD | with_reducible exact cellsS HB_9.out HX_9.out | exact cellsS (HB_9.out.laid (Pl.putR (c.setF (F)).r x.z x.r V)) (Blk.kept HX_9.out (MB.kept8 _ _ _ _ _ _ _ _) HNP.out) | go_keep) (first | (go_at_call 79; refine (put4 _ lo mid gd cd ga ca (c.setF (F)).r x.z x.r V HRY.out HMY.out HGF.out HI.out.r0 HI.out.r1 HVV.out).mono ?_; unfold regV; rintro e9 W_9 ⟨rfl, hr9, hk9⟩; have HO_9 := hide (HOY.out.regs hr9 hk9); have HB_9 := hide (HBY.out.regs hk9 HPM); have HX_9 := hide (Blk.kept HXY.out hk9 HNM.out); have HS_9 := hide (HSY.out.keptS hk9 (Nat.le_refl _) HMH.out); clear hr9 hk9; obtain ⟨u0, u1, u2, u3, u4, u5, u6, u7, _⟩ := HB_9.out.cells; have f0 := HB_9.out.frozen 0; have f1 := HB_9.out.frozen 1; have f2 := HB_9.out.frozen 2; have f3 := HB_9.out.frozen 3; have f4 := HB_9.out.frozen 4; have f5 := HB_9.out.frozen 5; have f6 := HB_9.out.frozen 6; have f7 := HB_9.out.frozen 7))
  go_wp2_with fail
  first | go_end0 | refine bodyPost_ret (results_none rfl _ _ _) rfl ?_
  exact ⟨rfl, g2, by rw [E.out]; exact MAt.laid HB_9.out HO_9.out, since8 HS_9.out HPH.out _ _ _ _ _ _ _ _⟩
end Go.Proofs.YtblddehlkaolbaaGreatDoor

namespace Go.Proofs.YtblddehlkaolbaaGreatDoor
open Go.RowKit
set_option linter.unusedVariables false
theorem Pl.GM.write {c : Pl.Mc} (h : Pl.GM c) {z m k a v : Int} (k0 : 0 ≤ k) (k1 : k ≤ 3) (a0 : 0 ≤ a) (a1 : a ≤ 65535) (hv : Pl.okv z v = true) : Pl.GM (c.write z m k a v) := by
  unfold Pl.Mc.write
  cases m == 0
  · refine h.acc ?_
    simp [Pl.askOk, Pl.accKind, Pl.addr, hv]; omega
  · exact h.put k0 k1 hv
theorem Pl.write_f (c : Pl.Mc) (z m k a v : Int) : (c.write z m k a v).r.f = c.r.f := by
  unfold Pl.Mc.write; cases m == 0 <;> rfl
set_option maxRecDepth 100000 in
set_option maxHeartbeats 8000000 in
theorem mDo_from (w : World) (lo mid hi p g2 : Nat) (c : Pl.Mc) (x : Pl.In) (t : Int) (h : MAt w lo mid hi p g2 c) (G : Pl.GM c) (B : Pl.InB x) (ho : x.op = 2) (hm : x.m = 0 ∨ x.m = 2 ∨ x.m = 3 ∨ x.m = 4 ∨ x.m = 5 ∨ x.m = 6) :
    Calls Tryz.prog 43 #[.pointer (some ⟨p, 0, none⟩), .agg #[.int .i64 x.op, .int .i64 x.z, .int .i64 x.r, .int .i64 x.m, .int .i64 x.k, .int .i64 x.e, .int .i64 x.s], .int .i64 t] w fun e w' => e = .returned (.tuple #[]) ∧ ∃ g3, MAt w' lo mid hi p g3 (c.doI x t) ∧ Since w lo hi g2 w' g3 := by
  have HG := hide G
  have HI := hide B
  have HOP := hide ho
  clear ho
  have hl := h.lo
  have KA := hide (kept_alloc w (.cells #[.int .i64 x.op, .int .i64 x.z, .int .i64 x.r, .int .i64 x.m, .int .i64 x.k, .int .i64 x.e, .int .i64 x.s] 79))
  have BA : Blk (w.alloc (.cells #[.int .i64 x.op, .int .i64 x.z, .int .i64 x.r, .int .i64 x.m, .int .i64 x.k, .int .i64 x.e, .int .i64 x.s] 79)) w.heap.size (insC x) 79 := Blk.new w #[.int .i64 x.op, .int .i64 x.z, .int .i64 x.r, .int .i64 x.m, .int .i64 x.k, .int .i64 x.e, .int .i64 x.s] 79
  obtain ⟨X, hX⟩ : ∃ X : World, w.alloc (.cells #[.int .i64 x.op, .int .i64 x.z, .int .i64 x.r, .int .i64 x.m, .int .i64 x.k, .int .i64 x.e, .int .i64 x.s] 79) = X := ⟨_, rfl⟩
  rw [hX] at KA BA
  have HX := hide BA
  have hbw := BA.lt
  obtain ⟨b0, b1, b2, b3, b4, b5, b6⟩ := insAt HX.out
  rw [HOP.out] at b0
  have HHB : Hid (hi ≤ w.heap.size) := hide hl.2.2.2.2.2.2
  have HGB : Hid (w.heap.size ≠ g2) := hide (by have := hl.2.2.2.2.2.1; omega)
  have HPH : Hid ((lo ≤ p ∧ p < hi) ∨ w.heap.size ≤ p) := hide (by omega)
  have HPB : Hid (p < w.heap.size) := hide hl.2.2.2.2.1
  have HMH : Hid (mid ≤ hi) := hide (by omega)
  have HS := hide ((Since.refl w lo hi g2).any KA.out)
  have h2 := h.any KA.out
  clear h BA
  have HM := hide h2
  obtain ⟨gd, cd, ga, ca, g1, c1, c2, hB9, hO9⟩ := h2
  have HB := hide hB9
  have HO := hide hO9
  obtain ⟨t0, t1, t2, t3, t4, t5, t6, t7, t8, t9, t10, t11, t12, t13, t14, t15⟩ := hB9.cells
  clear t0 t1 t2 t3 t4 t5 t6 t7 t8 t9 t10 t11 t12 t13 t14 t15
  clear hB9 hO9
  clear G B
  have r0 := HI.out.r0
  have r1 := HI.out.r1
  have r4 : x.r < 4 := by omega
  have HR4 : Hid (x.r.toNat < 4) := hide (by omega)
  have E : Hid (c.doI x t = ((c.place x.z x.m x.k x.e).write x.z x.m x.k (c.plcA x.z x.m x.k x.e) (c.low x.z x.r)).setF (Pl.logF x.z c.r.f (c.low x.z x.r))) := hide (by unfold Pl.Mc.doI Pl.Mc.from'; rw [HOP.out]; rfl)
  have HQ : Hid (el c.r.xs x.r.toNat % Pl.top x.z = c.low x.z x.r) := hide rfl
  have HVQ := hide (Pl.low_in HG.out HI.out.z HI.out.r0 HI.out.r1)
  obtain ⟨q, hq⟩ : ∃ q, c.low x.z x.r = q := ⟨_, rfl⟩
  rw [hq] at HQ HVQ E
  clear hq
  have KD := hide (kept_drew (Kept.refl 0 0 X))
  have HD := hide (HO.out.any KD.out).d
  have HAA := Pl.plcA_in (z := x.z) (m := x.m) HG.out HI.out.k0 HI.out.k1 HI.out.e0 HI.out.e1
  have HG1 := hide (HG.out.place (z := x.z) (m := x.m) (e := x.e) HI.out.k0 HI.out.k1)
  have HFR := Pl.place_f c x.z x.m x.k x.e
  have HRD := fun w9 h9 => mPlace w9 lo mid hi p g2 c x.z x.m x.k x.e h9 HG.out HI.out.k0 HI.out.k1 HI.out.e0 HI.out.e1 hm
  obtain ⟨d, hd⟩ : ∃ d, c.place x.z x.m x.k x.e = d := ⟨_, rfl⟩
  obtain ⟨a, hA⟩ : ∃ a, c.plcA x.z x.m x.k x.e = a := ⟨_, rfl⟩
  rw [hd] at HG1 HFR
  rw [hA] at HAA
  rw [hd, hA] at E
  simp only [hd, hA] at HRD
  clear hd hA hm
  have HWF := Pl.write_f d x.z x.m x.k a q
  have HG2 := hide (HG1.out.write (m := x.m) HI.out.k0 HI.out.k1 HAA.1 HAA.2 HVQ.out)
  have HWR := fun w9 g9 h9 => mWrite w9 lo mid hi p g9 d x.z x.m x.k x.e a q h9 HG1.out HI.out.k0 HI.out.k1 HAA.1 HAA.2 HVQ.out
  obtain ⟨y, hy⟩ : ∃ y, d.write x.z x.m x.k a q = y := ⟨_, rfl⟩
  rw [hy] at HG2 HWF E
  simp only [hy] at HWR
  clear hy
  have EF : y.r.f = c.r.f := HWF.trans HFR
  rw [← EF] at E
  have HF := hide (Pl.flags_of HG2.out)
  clear HFR HWF EF HAA
  have S1D := cellsS (HB.out.any KD.out) (HX.out.kept0 KD.out)
  go_enter Tryz.func43, Tryz.ntmps43
  go_wp2_with fail
  go_region_held3 (fun w' => w'.cell? ⟨p, 0, none⟩ = some (.slice (some ⟨gd, 0, none⟩) 4 cd) ∧ w'.cell? ⟨p, 1, none⟩ = some (.slice (some ⟨ga, 0, none⟩) 4 ca) ∧ w'.cell? ⟨p, 2, none⟩ = some (.int .i64 c.r.o) ∧ w'.cell? ⟨p, 3, none⟩ = some (.int .i64 c.r.p) ∧ w'.cell? ⟨p, 4, none⟩ = some (.int .i64 c.r.f) ∧ w'.cell? ⟨p, 5, none⟩ = some (.int .i64 c.r.m) ∧ w'.cell? ⟨p, 6, none⟩ = some (.bool c.r.s) ∧ w'.cell? ⟨p, 7, none⟩ = some (.bool c.r.t) ∧ w'.cell? ⟨w.heap.size, 1, none⟩ = some (.int .i64 x.z) ∧ w'.cell? ⟨w.heap.size, 2, none⟩ = some (.int .i64 x.r)) (first | with_reducible exact S1D | with_reducible exact cellsS HB_2.out HX_2.out | go_keep) (first | (go_at_call 74; refine (mLow _ gd cd ga ca c.r x.z x.r HD.out HG.out.g HI.out.z HI.out.r0 HI.out.r1).mono ?_; rw [HQ.out]; rintro e9 W_2 ⟨rfl, hk9⟩; have K2 := hide ((kept_drew (Kept.refl 0 0 X)).trans hk9); clear hk9; have HM_2 := hide (HM.out.any K2.out); have HB_2 := hide (HB.out.any K2.out); have HO_2 := hide (HO.out.any K2.out); have HX_2 := hide (HX.out.kept0 K2.out); have HS_2 := hide (HS.out.any K2.out); have HGB_2 := HGB; clear b0 b1 b2 b3 b4 b5 b6; obtain ⟨b0, b1, b2, b3, b4, b5, b6⟩ := insAt HX_2.out; rw [HOP.out] at b0))
  go_wp2_with (first | (go_at_call 75; have z9 := HM_3; refine (HWR _ g2_3 HM_3.out).mono ?_; rintro e9 W_4 ⟨rfl, g2_4, hm9, hb9⟩; have HX_4 := hide (hb9.blk HX_3.out HHB.out HGB_3.out); have HGB_4 := hide (hb9.ne HX_3.out.lt HGB_3.out); have HS_4 := hide (HS_3.out.trans hb9); clear hb9; have HM_4 := hide hm9; obtain ⟨gd_4, cd_4, ga_4, ca_4, g1_4, c1_4, c2_4, hB9, hO9⟩ := hm9; have HB_4 := hide hB9; have HO_4 := hide hO9; obtain ⟨t0_4, t1_4, t2_4, t3_4, t4_4, t5_4, t6_4, t7_4, t8_4, t9_4, t10_4, t11_4, t12_4, t13_4, t14_4, t15_4⟩ := hB9.cells; clear t0_4 t1_4 t2_4 t3_4 t5_4 t6_4 t7_4 t8_4 t9_4 t10_4 t11_4 t12_4 t13_4 t14_4 t15_4; have f4_4 := hB9.frozen 4; clear hB9 hO9; clear b0 b1 b2 b3 b4 b5 b6; obtain ⟨b0, b1, b2, b3, b4, b5, b6⟩ := insAt HX_4.out; rw [HOP.out] at b0) | (go_at_call 73; refine (HRD _ HM_2.out).mono ?_; rintro e9 W_3 ⟨rfl, g2_3, hm9, hb9⟩; have HX_3 := hide (hb9.blk HX_2.out HHB.out HGB_2.out); have HGB_3 := hide (hb9.ne HX_2.out.lt HGB_2.out); have HS_3 := hide (HS_2.out.trans hb9); clear hb9; have HM_3 := hide hm9; obtain ⟨gd_3, cd_3, ga_3, ca_3, g1_3, c1_3, c2_3, hB9, hO9⟩ := hm9; have HB_3 := hide hB9; have HO_3 := hide hO9; obtain ⟨t0_3, t1_3, t2_3, t3_3, t4_3, t5_3, t6_3, t7_3, t8_3, t9_3, t10_3, t11_3, t12_3, t13_3, t14_3, t15_3⟩ := hB9.cells; clear t0_3 t1_3 t2_3 t3_3 t4_3 t5_3 t6_3 t7_3 t8_3 t9_3 t10_3 t11_3 t12_3 t13_3 t14_3 t15_3; clear hB9 hO9; clear b0 b1 b2 b3 b4 b5 b6; obtain ⟨b0, b1, b2, b3, b4, b5, b6⟩ := insAt HX_3.out; rw [HOP.out] at b0))
  go_region_with (go_at_call 76; refine (l1LogicAt _ HVQ.out HF.out).mono ?_; rintro e9 w9 ⟨rfl, hw⟩; have hw2 := hw.symm; clear hw; subst hw2)
  all_goals
    go_wp2_with fail
    first | go_end0 | refine bodyPost_ret (results_none rfl _ _ _) rfl ?_
    exact ⟨rfl, g2_4, by rw [E.out]; exact (HM_4.out.cF _).drew, (HS_4.out.set p 4 _ HPH.out).drew⟩
end Go.Proofs.YtblddehlkaolbaaGreatDoor

namespace Go.Proofs.YtblddehlkaolbaaGreatDoor
open Go.RowKit
set_option linter.unusedVariables false
set_option maxRecDepth 100000 in
set_option maxHeartbeats 8000000 in
theorem mDo_stat0 (w : World) (lo mid hi p g2 : Nat) (c : Pl.Mc) (x : Pl.In) (t : Int) (h : MAt w lo mid hi p g2 c) (G : Pl.GM c) (B : Pl.InB x) (ho : x.op = 19) (hs : x.s = 0) (e3 : x.e ≤ 1023) :
    Calls Tryz.prog 43 #[.pointer (some ⟨p, 0, none⟩), .agg #[.int .i64 x.op, .int .i64 x.z, .int .i64 x.r, .int .i64 x.m, .int .i64 x.k, .int .i64 x.e, .int .i64 x.s], .int .i64 t] w fun e w' => e = .returned (.tuple #[]) ∧ ∃ g3, MAt w' lo mid hi p g3 (c.doI x t) ∧ Since w lo hi g2 w' g3 := by
  have HG := hide G
  have HI := hide B
  have HOP := hide ho
  have HSU := hide hs
  clear hs
  clear ho
  have hl := h.lo
  have KA := hide (kept_alloc w (.cells #[.int .i64 x.op, .int .i64 x.z, .int .i64 x.r, .int .i64 x.m, .int .i64 x.k, .int .i64 x.e, .int .i64 x.s] 79))
  have BA : Blk (w.alloc (.cells #[.int .i64 x.op, .int .i64 x.z, .int .i64 x.r, .int .i64 x.m, .int .i64 x.k, .int .i64 x.e, .int .i64 x.s] 79)) w.heap.size (insC x) 79 := Blk.new w #[.int .i64 x.op, .int .i64 x.z, .int .i64 x.r, .int .i64 x.m, .int .i64 x.k, .int .i64 x.e, .int .i64 x.s] 79
  obtain ⟨X, hX⟩ : ∃ X : World, w.alloc (.cells #[.int .i64 x.op, .int .i64 x.z, .int .i64 x.r, .int .i64 x.m, .int .i64 x.k, .int .i64 x.e, .int .i64 x.s] 79) = X := ⟨_, rfl⟩
  rw [hX] at KA BA
  have HX := hide BA
  have hbw := BA.lt
  obtain ⟨b0, b1, b2, b3, b4, b5, b6⟩ := insAt HX.out
  rw [HOP.out] at b0
  rw [HSU.out] at b6
  have HHB : Hid (hi ≤ w.heap.size) := hide hl.2.2.2.2.2.2
  have HGB : Hid (w.heap.size ≠ g2) := hide (by have := hl.2.2.2.2.2.1; omega)
  have HPH : Hid ((lo ≤ p ∧ p < hi) ∨ w.heap.size ≤ p) := hide (by omega)
  have HPB : Hid (p < w.heap.size) := hide hl.2.2.2.2.1
  have HMH : Hid (mid ≤ hi) := hide (by omega)
  have HS := hide ((Since.refl w lo hi g2).any KA.out)
  have h2 := h.any KA.out
  clear h BA
  have HM := hide h2
  obtain ⟨gd, cd, ga, ca, g1, c1, c2, hB9, hO9⟩ := h2
  have HB := hide hB9
  have HO := hide hO9
  obtain ⟨t0, t1, t2, t3, t4, t5, t6, t7, t8, t9, t10, t11, t12, t13, t14, t15⟩ := hB9.cells
  clear t8 t9 t10 t11 t12 t13 t14 t15
  clear hB9 hO9
  clear G B
  have r0 := HI.out.r0
  have r1 := HI.out.r1
  have r4 : x.r < 4 := by omega
  have HR4 : Hid (x.r.toNat < 4) := hide (by omega)
  have E : Hid (c.doI x t = c.setR (Pl.withR c.r x.e)) := hide (by unfold Pl.Mc.doI Pl.Mc.stat; rw [HOP.out, HSU.out]; rfl)
  have HW := fun w9 hr hh => with4 w9 lo mid gd cd ga ca c.r x.e hr hh HG.out.g HI.out.e0 e3
  obtain ⟨R, hR⟩ : ∃ R, Pl.withR c.r x.e = R := ⟨_, rfl⟩
  rw [hR] at E
  simp only [hR, regV] at HW
  clear hR
  have HOY := hide (HO.out.any (kept_drew (Kept.refl 0 0 X)))
  have HBY := hide (HB.out.any (kept_drew (Kept.refl 0 0 X)))
  have HSY := hide HS.out.drew
  have HRY := hide (MO.reg (r := c.r) HOY.out)
  have HMY : Hid (mid ≤ X.drew.heap.size) := hide (Nat.le_trans HMH.out HOY.out.hh)
  have HPM := HOY.out.p0
  go_enter Tryz.func43, Tryz.ntmps43
  go_wp2_with fail
  go_region_with (go_at_call 84; refine (HW _ HRY.out HMY.out).mono ?_; rintro e9 W_9 ⟨rfl, hr9, hk9⟩; have HO_9 := hide (HOY.out.regs hr9 hk9); have HB_9 := hide (HBY.out.regs hk9 HPM); have HS_9 := hide (HSY.out.keptS hk9 (Nat.le_refl _) HMH.out); clear hr9 hk9 t0 t1 t2 t3 t4 t5 t6 t7; obtain ⟨u0, u1, u2, u3, u4, u5, u6, u7, _⟩ := HB_9.out.cells; have q0 := HB_9.out.frozen 0; have q1 := HB_9.out.frozen 1; have q2 := HB_9.out.frozen 2; have q3 := HB_9.out.frozen 3; have q4 := HB_9.out.frozen 4; have q5 := HB_9.out.frozen 5; have q6 := HB_9.out.frozen 6; have q7 := HB_9.out.frozen 7)
  all_goals
    go_wp2_with fail
    first | go_end0 | refine bodyPost_ret (results_none rfl _ _ _) rfl ?_
    exact ⟨rfl, g2, by rw [E.out]; exact MAt.laid HB_9.out HO_9.out, since8 HS_9.out HPH.out _ _ _ _ _ _ _ _⟩
end Go.Proofs.YtblddehlkaolbaaGreatDoor

namespace Go.Proofs.YtblddehlkaolbaaGreatDoor
open Go.RowKit
set_option linter.unusedVariables false
theorem Pl.memM_in {m : Int} (h : Pl.memM m = true) : m = 2 ∨ m = 3 ∨ m = 4 ∨ m = 5 ∨ m = 6 := by simp [Pl.memM, Pl.within] at h; omega
theorem Pl.plainM_in {m : Int} (h : Pl.plainM m = true) : m = 0 ∨ m = 2 ∨ m = 3 ∨ m = 4 ∨ m = 5 ∨ m = 6 := by simp [Pl.plainM] at h; omega
theorem Pl.zm_in {m : Int} (h : (m = 0) ∨ Pl.memM m = true) : m = 0 ∨ m = 2 ∨ m = 3 ∨ m = 4 ∨ m = 5 ∨ m = 6 := by
  rcases h with h | h
  · exact .inl h
  · exact .inr (Pl.memM_in h)
theorem mDo (w : World) (lo mid hi p g2 : Nat) (c : Pl.Mc) (x : Pl.In) (t : Int) (h : MAt w lo mid hi p g2 c) (G : Pl.GM c) (hx : Pl.inOk x = true) (t0 : 0 ≤ t) (t1 : t ≤ 65535) (hfc : c.fine = true) :
    Calls Tryz.prog 43 #[.pointer (some ⟨p, 0, none⟩), .agg #[.int .i64 x.op, .int .i64 x.z, .int .i64 x.r, .int .i64 x.m, .int .i64 x.k, .int .i64 x.e, .int .i64 x.s], .int .i64 t] w fun e w' => e = .returned (.tuple #[]) ∧ ∃ g3, MAt w' lo mid hi p g3 (c.doI x t) ∧ Since w lo hi g2 w' g3 := by
  have B := Pl.inB_of hx
  simp only [Pl.inOk, Bool.and_eq_true] at hx
  have hk := hx.2
  clear hx
  have s0 := B.s0
  unfold Pl.inKind at hk
  by_cases o1 : x.op = 1 ∨ x.op = 3 ∨ x.op = 4 ∨ x.op = 5 ∨ x.op = 6 ∨ x.op = 7 ∨ x.op = 8
  · have e : ((x.op == 1) || ((x.op == 3) || ((x.op == 4) || ((x.op == 5) || ((x.op == 6) || ((x.op == 7) || (x.op == 8))))))) = true := by simpa using o1
    rw [e] at hk
    have h1 : x.m = 1 → x.z = 2 := by
      intro q; simp [q] at hk; exact hk.2
    rcases o1 with o | o | o | o | o | o | o
    · exact mDo_two1 w lo mid hi p g2 c x t h G B o h1
    · exact mDo_two3 w lo mid hi p g2 c x t h G B o h1
    · exact mDo_two4 w lo mid hi p g2 c x t h G B o h1
    · exact mDo_two5 w lo mid hi p g2 c x t h G B o h1
    · exact mDo_two6 w lo mid hi p g2 c x t h G B o h1
    · exact mDo_two7 w lo mid hi p g2 c x t h G B o h1
    · exact mDo_two8 w lo mid hi p g2 c x t h G B o h1
  · have e : ((x.op == 1) || ((x.op == 3) || ((x.op == 4) || ((x.op == 5) || ((x.op == 6) || ((x.op == 7) || (x.op == 8))))))) = false := by
      rw [Bool.eq_false_iff]; simpa using o1
    rw [e] at hk
    simp only [cond_false] at hk
    clear e o1
    by_cases o2 : x.op = 2
    · simp [o2] at hk
      exact mDo_from w lo mid hi p g2 c x t h G B o2 (Pl.zm_in hk.2)
    by_cases o9 : x.op = 9
    · cases hf : (c.read 2 x.m x.k x.e).fine
      · exact mDo_addr_no w lo mid hi p g2 c x t h G B o9 hf
      · exact mDo_addr w lo mid hi p g2 c x t h G B o9 hf
    by_cases o10 : x.op = 10
    · simp [o10] at hk
      exact mDo_lea w lo mid hi p g2 c x t h G B o10 (Pl.plainM_in hk.2)
    by_cases o11 : x.op = 11
    · simp [o11] at hk
      exact mDo_one w lo mid hi p g2 c x t h G B o11 (Pl.zm_in hk.2) hfc (by omega)
    by_cases o12 : x.op = 12
    · exact mDo_shift w lo mid hi p g2 c x t h G B o12
    by_cases o13 : x.op = 13
    · simp [o13] at hk
      exact mDo_branch w lo mid hi p g2 c x t h G B o13 t0 t1 hfc (by omega)
    by_cases o14 : x.op = 14
    · simp [o14] at hk
      exact mDo_jump w lo mid hi p g2 c x t h G B o14 t0 t1 hfc (Pl.plainM_in hk.2)
    by_cases o16 : x.op = 16
    · exact mDo_prod16 w lo mid hi p g2 c x t h G B o16
    by_cases o17 : x.op = 17
    · exact mDo_prod17 w lo mid hi p g2 c x t h G B o17
    by_cases o18 : x.op = 18
    · exact mDo_bcd w lo mid hi p g2 c x t h G B o18
    by_cases o19 : x.op = 19
    · simp [o19, Pl.nowO] at hk
      by_cases hs : x.s = 0
      · exact mDo_stat0 w lo mid hi p g2 c x t h G B o19 hs (by omega)
      · exact mDo_stat1 w lo mid hi p g2 c x t h G B o19 (by omega)
    by_cases o15 : x.op = 15
    · simp [o15, Pl.nowO] at hk
      by_cases hs : x.s = 3
      · simp [hs] at hk
        exact mDo_flow w lo mid hi p g2 c x t h G B o15 (by omega) (fun _ => by omega)
      · simp [hs] at hk
        exact mDo_flow w lo mid hi p g2 c x t h G B o15 (by omega) (fun q => absurd q hs)
    · simp [o2, o9, o10, o11, o12, o13, o14, o15, o16, o17, o18, o19] at hk
end Go.Proofs.YtblddehlkaolbaaGreatDoor

