/- What the models of chapter 3's shifts answer for every argument: one contract a function; none changes the world. -/
import Derived.Test.YtlagdbajdehanaaSpecOnce
namespace Go.Proofs.Ytlagdbajdehanaa
open Go.RowKit
set_option linter.unusedVariables false

theorem rBB {a b c d : Bool} (h : a = b) (k : c = d) : Ending.returned (.tuple #[.bool a, .bool c]) = .returned (.tuple #[.bool b, .bool d]) := by rw [h, k]
theorem Pl.parts_and2 {c x : Int} {o z n : Bool} (hc : c = 0 ∨ c = 1) (hx : x = 0 ∨ x = 1) : bits .and .i64 (c + Pl.fl o 2 + (Pl.fl z 4 + Pl.fl n 8) + 16 * x) 2 = Pl.fl o 2 := by
  rcases hc with rfl | rfl <;> rcases hx with rfl | rfl <;> cases o <;> cases z <;> cases n <;> decide
theorem Pl.parts_or2 {c x : Int} {o z n q : Bool} (hc : c = 0 ∨ c = 1) (hx : x = 0 ∨ x = 1) (hq : o = true → q = true) : bits .or .i64 (c + Pl.fl o 2 + (Pl.fl z 4 + Pl.fl n 8) + 16 * x) (Pl.fl q 2) = c + Pl.fl q 2 + (Pl.fl z 4 + Pl.fl n 8) + 16 * x := by
  rcases hc with rfl | rfl <;> rcases hx with rfl | rfl <;> cases o <;> cases z <;> cases n <;> cases q <;> first | decide | (exact absurd (hq rfl) (by decide))
theorem Pl.onF_and2 {k s : Int} {p : Int × Int} (h : Pl.Fit s p) : bits .and .i64 (Pl.onF k s p.2 p.1) 2 = Pl.fl (Pl.vfl k s p.2 p.1) 2 := by
  have f := Pl.fell_bd k s p.1
  have x := Pl.nx_bd k s p.2 p.1 h.2.2.2.1 h.2.2.2.2
  unfold Pl.onF Pl.zn
  exact Pl.parts_and2 (by omega) (by omega)
theorem Pl.onF_or2 {k s : Int} {p : Int × Int} (h : Pl.Fit s p) {q : Bool} (hq : Pl.vfl k s p.2 p.1 = true → q = true) :
    bits .or .i64 (Pl.onF k s p.2 p.1) (Pl.fl q 2) = Pl.fell k s p.1 + Pl.fl q 2 + Pl.zn s (Pl.nv k s p.2 p.1) + 16 * Pl.nx k s p.2 p.1 := by
  have f := Pl.fell_bd k s p.1
  have x := Pl.nx_bd k s p.2 p.1 h.2.2.2.1 h.2.2.2.2
  unfold Pl.onF Pl.zn
  exact Pl.parts_or2 (by omega) (by omega) hq
theorem Pl.fl_join2 (a b : Bool) : bits .or .i64 (Pl.fl a 2) (Pl.fl b 2) = Pl.fl (a || b) 2 := by cases a <;> cases b <;> decide
theorem Pl.none_or {x : Int} {z n q : Bool} (hx : x = 0 ∨ x = 1) : bits .or .i64 (bits .or .i64 (x * 16) (bits .or .i64 (Pl.fl z 4) (Pl.fl n 8))) (Pl.fl q 1) = Pl.fl q 1 + (Pl.fl z 4 + Pl.fl n 8) + 16 * x := by
  rcases hx with rfl | rfl <;> cases z <;> cases n <;> cases q <;> decide

/-- one place, of whatever kind and size -/
theorem l3Once (k s f v : Int) (w : World) (k0 : 0 ≤ k) (k1 : k ≤ 7) (f0 : 0 ≤ f) (f1 : f ≤ 31) (h : Pl.Fit s (v, f / 16)) :
    Calls Try.prog 42 #[.int .i64 k, .int .i64 s, .int .i64 f, .int .i64 v] w fun e w' => e = .returned (.tuple #[.int .i64 (Pl.nv k s (f / 16) v), .int .i64 (Pl.onF k s (f / 16) v)]) ∧ w' = w := by
  obtain ⟨hs, v0, v1, _, _⟩ := h
  simp only at v0 v1
  have hk : k = 0 ∨ k = 1 ∨ k = 2 ∨ k = 3 ∨ k = 4 ∨ k = 5 ∨ k = 6 ∨ k = 7 := by omega
  rcases Pl.top12 hs with ⟨rfl, e⟩ | ⟨rfl, e⟩
  · rw [e] at v1
    rcases hk with rfl | rfl | rfl | rfl | rfl | rfl | rfl | rfl
    · exact l3Once01 f v w f0 f1 v0 v1
    · exact l3Once11 f v w f0 f1 v0 v1
    · exact l3Once21 f v w f0 f1 v0 v1
    · exact l3Once31 f v w f0 f1 v0 v1
    · exact l3Once41 f v w f0 f1 v0 v1
    · exact l3Once51 f v w f0 f1 v0 v1
    · exact l3Once61 f v w f0 f1 v0 v1
    · exact l3Once71 f v w f0 f1 v0 v1
  · rw [e] at v1
    rcases hk with rfl | rfl | rfl | rfl | rfl | rfl | rfl | rfl
    · exact l3Once02 f v w f0 f1 v0 v1
    · exact l3Once12 f v w f0 f1 v0 v1
    · exact l3Once22 f v w f0 f1 v0 v1
    · exact l3Once32 f v w f0 f1 v0 v1
    · exact l3Once42 f v w f0 f1 v0 v1
    · exact l3Once52 f v w f0 f1 v0 v1
    · exact l3Once62 f v w f0 f1 v0 v1
    · exact l3Once72 f v w f0 f1 v0 v1

theorem l1ZnS (s v : Int) (w : World) (hs : s = 1 ∨ s = 2) :
    Calls Try.prog 67 #[.int .i64 s, .int .i64 v] w fun e w' => e = .returned (.int .i64 (bits .or .i64 (Pl.fl (v == 0) 4) (Pl.fl (decide (Pl.top s / 2 ≤ v)) 8))) ∧ w' = w := by
  rcases hs with rfl | rfl
  · exact l1Zn1 v w
  · exact l1Zn2 v w

theorem l3By0 (k s f v : Int) (w : World) (k0 : 0 ≤ k) (k1 : k ≤ 7) (f0 : 0 ≤ f) (f1 : f ≤ 31) (h : Pl.Fit s (v, f / 16)) :
    Calls Try.prog 39 #[.int .i64 k, .int .i64 s, .int .i64 f, .int .i64 v, .int .i64 0] w fun e w' => e = .returned (.tuple #[.int .i64 v, .int .i64 (Pl.byF k s (v, f / 16) 0)]) ∧ w' = w := by
  have hB := Pl.and16 f0 f1
  obtain hx | hx : f / 16 = 0 ∨ f / 16 = 1 := by omega
  all_goals
    have E : Hid (Pl.byF k s (v, f / 16) 0 = Pl.fl (decide (f / 16 ≠ 0) && decide (6 ≤ k)) 1 + (Pl.fl (v == 0) 4 + Pl.fl (decide (Pl.top s / 2 ≤ v)) 8) + 16 * (f / 16)) := hide rfl
    have HX := hide hx
    rw [hx] at hB
    have hs := h.1
    clear hx
    go_enter Try.func39, Try.ntmps39
    go_wp2_with fail
    refine (l1ZnS s v _ hs).mono ?_
    rintro e w' ⟨rfl, rfl⟩
    go_wp2_with fail
    refine (l1Flag _ _ _).mono ?_
    rintro e w' ⟨rfl, rfl⟩
    go_wp2_with fail
    go_ret2
    refine ⟨rII rfl ?_, rfl⟩
    rw [E.out, HX.out]
    generalize (v == 0) = z
    generalize decide (Pl.top s / 2 ≤ v) = n
    generalize decide (6 ≤ k) = q
    cases z <;> cases n <;> cases q <;> decide

/-- the flags behind m places -/
def Pl.run (k s f v : Int) : Nat → Int
  | 0 => f
  | m + 1 => Pl.onF k s (Pl.st k s (v, f / 16) m).2 (Pl.st k s (v, f / 16) m).1
theorem Pl.run_ok {k s f v : Int} (f0 : 0 ≤ f) (f1 : f ≤ 31) (h : Pl.Fit s (v, f / 16)) (m : Nat) : 0 ≤ Pl.run k s f v m ∧ Pl.run k s f v m ≤ 31 ∧ Pl.run k s f v m / 16 = (Pl.st k s (v, f / 16) m).2 := by
  cases m with
  | zero => exact ⟨f0, f1, rfl⟩
  | succ m => exact Pl.onF_bd (Pl.st_fit h m)

theorem Pl.run_or {k s f v : Int} (h : Pl.Fit s (v, f / 16)) {n : Nat} (n0 : 0 < n) : bits .or .i64 (Pl.run k s f v n) (Pl.fl (Pl.ov k s (v, f / 16) n) 2) = Pl.byF k s (v, f / 16) n := by
  cases n with
  | zero => omega
  | succ m => exact Pl.onF_or2 (Pl.st_fit h m) (fun hv => by simp [Pl.ov, hv])

theorem l3ByN (k s f v : Int) (n : Nat) (w : World) (k0 : 0 ≤ k) (k1 : k ≤ 7) (f0 : 0 ≤ f) (f1 : f ≤ 31) (h : Pl.Fit s (v, f / 16)) (n0 : 0 < n) (n1 : n ≤ 63) :
    Calls Try.prog 39 #[.int .i64 k, .int .i64 s, .int .i64 f, .int .i64 v, .int .i64 n] w fun e w' => e = .returned (.tuple #[.int .i64 (Pl.st k s (v, f / 16) n).1, .int .i64 (Pl.byF k s (v, f / 16) n)]) ∧ w' = w := by
  have kn : (((n : Nat) : Int) == 0) = false := by simp; omega
  go_enter Try.func39, Try.ntmps39
  go_wp2_with fail
  go_loop [2, 3, 4, 13] (fun F V C O => ∃ m : Nat, m ≤ n ∧ F = .int .i64 (Pl.run k s f v m) ∧ V = .int .i64 (Pl.st k s (v, f / 16) m).1 ∧ C = .int .i64 ((n : Int) - (m : Int)) ∧ O = .int .i64 (Pl.fl (Pl.ov k s (v, f / 16) m) 2)) (fun _ _ c _ => (intOf c).toNat)
  case atStart => exact ⟨0, Nat.zero_le _, rfl, rfl, by go_num, rfl⟩
  case round =>
    obtain ⟨m, hm, rfl, rfl, rfl, rfl⟩ := hrel
    by_cases hlt : m < n
    · obtain ⟨r0, r1, r2⟩ := Pl.run_ok (k := k) f0 f1 h m
      have hf := Pl.st_fit (k := k) h m
      have hq := Pl.onF_and2 (k := k) hf
      have hj := Pl.fl_join2 (Pl.ov k s (v, f / 16) m) (Pl.vfl k s (Pl.st k s (v, f / 16) m).2 (Pl.st k s (v, f / 16) m).1)
      have hF : Pl.Fit s ((Pl.st k s (v, f / 16) m).1, Pl.run k s f v m / 16) := by rw [r2]; exact hf
      have hc : 0 < (n : Int) - (m : Int) := by omega
      go_wp2_with fail
      refine (l3Once k s _ _ _ k0 k1 r0 r1 hF).mono ?_
      rintro e w' ⟨rfl, rfl⟩
      rw [r2]
      go_wp2_with fail
      go_round
      case rel => exact ⟨m + 1, by omega, rfl, rfl, by go_num, rfl⟩
      case measure => simp [intOf]; omega
    · obtain rfl : m = n := by omega
      have hO := hide (Pl.run_or (k := k) h n0)
      go_wp2_with fail
      go_ret2
      exact ⟨rII rfl hO.out, rfl⟩

theorem l3By (k s f v n : Int) (w : World) (k0 : 0 ≤ k) (k1 : k ≤ 7) (f0 : 0 ≤ f) (f1 : f ≤ 31) (h : Pl.Fit s (v, f / 16)) (n0 : 0 ≤ n) (n1 : n ≤ 63) :
    Calls Try.prog 39 #[.int .i64 k, .int .i64 s, .int .i64 f, .int .i64 v, .int .i64 n] w fun e w' => e = .returned (.tuple #[.int .i64 (Pl.st k s (v, f / 16) n.toNat).1, .int .i64 (Pl.byF k s (v, f / 16) n.toNat)]) ∧ w' = w := by
  obtain ⟨m, rfl⟩ := Int.eq_ofNat_of_zero_le n0
  cases m with
  | zero => exact l3By0 k s f v w k0 k1 f0 f1 h
  | succ m => exact l3ByN k s f v (m + 1) w k0 k1 f0 f1 h (by omega) (by omega)

theorem l3Kind (k : Int) (w : World) : Calls Try.prog 44 #[.int .i64 k] w fun e w' => e = .returned (.bool (Pl.kin k)) ∧ w' = w := by
  go_enter Try.func44, Try.ntmps44
  go_wp2_with fail
  refine (l1In _ _ _ _).mono ?_
  rintro e w' ⟨rfl, rfl⟩
  go_wp2_with fail
  go_ret
  exact ⟨rfl, rfl⟩

theorem l3Good (k s f v : Int) (w : World) : Calls Try.prog 37 #[.int .i64 k, .int .i64 s, .int .i64 f, .int .i64 v] w fun e w' => e = .returned (.bool (Pl.goodK k s f v)) ∧ w' = w := by
  cases h1 : Pl.kin k
  · have K : Hid (Pl.goodK k s f v = false) := hide (by unfold Pl.goodK; unfold Pl.kin at h1; rw [h1]; rfl)
    go_enter Try.func37, Try.ntmps37
    go_wp2_with fail
    refine (l3Kind _ _).mono ?_
    rintro e w' ⟨rfl, rfl⟩
    go_wp2_with fail
    go_ret
    exact ⟨rB K.out.symm, rfl⟩
  · cases h2 : Pl.okv s v
    · have K : Hid (Pl.goodK k s f v = false) := hide (by unfold Pl.goodK; rw [h2]; simp)
      go_enter Try.func37, Try.ntmps37
      go_wp2_with fail
      refine (l3Kind _ _).mono ?_
      rintro e w' ⟨rfl, rfl⟩
      go_wp2_with fail
      refine (l1Value _ _ _).mono ?_
      rintro e w' ⟨rfl, rfl⟩
      go_wp2_with fail
      go_ret
      exact ⟨rB K.out.symm, rfl⟩
    · have K : Hid (Pl.goodK k s f v = Pl.flags f) := hide (by unfold Pl.goodK; unfold Pl.kin at h1; rw [h1, h2]; rfl)
      go_enter Try.func37, Try.ntmps37
      go_wp2_with fail
      refine (l3Kind _ _).mono ?_
      rintro e w' ⟨rfl, rfl⟩
      go_wp2_with fail
      refine (l1Value _ _ _).mono ?_
      rintro e w' ⟨rfl, rfl⟩
      go_wp2_with fail
      refine (l1Flags _ _).mono ?_
      rintro e w' ⟨rfl, rfl⟩
      go_wp2_with fail
      go_ret
      exact ⟨rB K.out.symm, rfl⟩

theorem specIsLeft (k : Int) (w : World) : Calls Try.prog 21 #[.int .i64 k] w fun e w' => e = .returned (.tuple #[.bool (Pl.left k), .bool (Pl.kin k)]) ∧ w' = w := by
  cases h1 : Pl.kin k
  · have K : Hid (Pl.left k = false) := hide (by simp [Pl.left, h1])
    go_enter Try.func21, Try.ntmps21
    go_wp2_with fail
    refine (l3Kind _ _).mono ?_
    rintro e w' ⟨rfl, rfl⟩
    go_wp2_with fail
    go_ret2
    exact ⟨rBB K.out.symm rfl, rfl⟩
  · have K : Hid (Pl.left k = (k % 2 == 0)) := hide (by simp [Pl.left, h1]; rfl)
    go_enter Try.func21, Try.ntmps21
    go_wp2_with fail
    refine (l3Kind _ _).mono ?_
    rintro e w' ⟨rfl, rfl⟩
    go_wp2_with fail
    refine (l3Left _ _).mono ?_
    rintro e w' ⟨rfl, rfl⟩
    go_wp2_with fail
    go_ret2
    exact ⟨rBB K.out.symm rfl, rfl⟩

theorem specShiftOnce (k s f v : Int) (w : World) : Calls Try.prog 18 #[.int .i64 k, .int .i64 s, .int .i64 f, .int .i64 v] w fun e w' => e = .returned (.tuple #[.int .i64 (Pl.onceV k s f v), .int .i64 (Pl.onceF k s f v), .bool (Pl.goodK k s f v)]) ∧ w' = w := by
  cases h1 : Pl.goodK k s f v
  · have K : Hid (Pl.onceV k s f v = 0 ∧ Pl.onceF k s f v = 0) := hide (by simp [Pl.onceV, Pl.onceF, h1])
    go_enter Try.func18, Try.ntmps18
    go_wp2_with fail
    refine (l3Good _ _ _ _ _).mono ?_
    rintro e w' ⟨rfl, rfl⟩
    go_wp2_with fail
    go_ret3
    exact ⟨rIIB K.out.1.symm K.out.2.symm rfl, rfl⟩
  · have K : Hid (Pl.onceV k s f v = Pl.nv k s (f / 16) v ∧ Pl.onceF k s f v = Pl.onF k s (f / 16) v) := hide (by simp [Pl.onceV, Pl.onceF, h1])
    obtain ⟨k0, k1, _, f0, f1, hf⟩ := Pl.goodK_ok h1
    go_enter Try.func18, Try.ntmps18
    go_wp2_with fail
    refine (l3Good _ _ _ _ _).mono ?_
    rintro e w' ⟨rfl, rfl⟩
    go_wp2_with fail
    refine (l3Once k s f v _ k0 k1 f0 f1 hf).mono ?_
    rintro e w' ⟨rfl, rfl⟩
    go_wp2_with fail
    go_ret3
    exact ⟨rIIB K.out.1.symm K.out.2.symm rfl, rfl⟩

theorem specShiftBy (k s f v n : Int) (w : World) : Calls Try.prog 13 #[.int .i64 k, .int .i64 s, .int .i64 f, .int .i64 v, .int .i64 n] w fun e w' => e = .returned (.tuple #[.int .i64 (Pl.byVal k s f v n), .int .i64 (Pl.byFl k s f v n), .bool (Pl.byOk k s f v n)]) ∧ w' = w := by
  cases h1 : Pl.goodK k s f v
  · have K : Hid (Pl.byOk k s f v n = false ∧ Pl.byVal k s f v n = 0 ∧ Pl.byFl k s f v n = 0) := hide (by simp [Pl.byVal, Pl.byFl, Pl.byOk, h1])
    go_enter Try.func13, Try.ntmps13
    go_wp2_with fail
    refine (l3Good _ _ _ _ _).mono ?_
    rintro e w' ⟨rfl, rfl⟩
    go_wp2_with fail
    go_ret3
    exact ⟨rIIB K.out.2.1.symm K.out.2.2.symm K.out.1.symm, rfl⟩
  · cases h2 : Pl.cnt n
    · have K : Hid (Pl.byOk k s f v n = false ∧ Pl.byVal k s f v n = 0 ∧ Pl.byFl k s f v n = 0) := hide (by simp [Pl.byVal, Pl.byFl, Pl.byOk, h2])
      unfold Pl.cnt at h2
      go_enter Try.func13, Try.ntmps13
      go_wp2_with fail
      refine (l3Good _ _ _ _ _).mono ?_
      rintro e w' ⟨rfl, rfl⟩
      go_wp2_with fail
      refine (l1In _ _ _ _).mono ?_
      rintro e w' ⟨rfl, rfl⟩
      go_wp2_with fail
      go_ret3
      exact ⟨rIIB K.out.2.1.symm K.out.2.2.symm K.out.1.symm, rfl⟩
    · have K : Hid (Pl.byOk k s f v n = true ∧ Pl.byVal k s f v n = (Pl.st k s (v, f / 16) n.toNat).1 ∧ Pl.byFl k s f v n = Pl.byF k s (v, f / 16) n.toNat) := hide (by simp [Pl.byVal, Pl.byFl, Pl.byOk, h1, h2])
      obtain ⟨k0, k1, _, f0, f1, hf⟩ := Pl.goodK_ok h1
      obtain ⟨_, n0, n1⟩ := Pl.byOk_ok K.out.1
      unfold Pl.cnt at h2
      go_enter Try.func13, Try.ntmps13
      go_wp2_with fail
      refine (l3Good _ _ _ _ _).mono ?_
      rintro e w' ⟨rfl, rfl⟩
      go_wp2_with fail
      refine (l1In _ _ _ _).mono ?_
      rintro e w' ⟨rfl, rfl⟩
      go_wp2_with fail
      refine (l3By k s f v n _ k0 k1 f0 f1 hf n0 n1).mono ?_
      rintro e w' ⟨rfl, rfl⟩
      go_wp2_with fail
      go_ret3
      exact ⟨rIIB K.out.2.1.symm K.out.2.2.symm K.out.1.symm, rfl⟩

theorem specRotateBack (k s f v n : Int) (w : World) : Calls Try.prog 24 #[.int .i64 k, .int .i64 s, .int .i64 f, .int .i64 v, .int .i64 n] w fun e w' => e = .returned (.tuple #[.int .i64 (Pl.rbV k s f v n), .bool (Pl.rbOk k s f v n)]) ∧ w' = w := by
  cases h1 : Pl.goodK k s f v
  · have K : Hid (Pl.rbOk k s f v n = false ∧ Pl.rbV k s f v n = 0) := hide (by simp [Pl.rbV, Pl.rbOk, Pl.byOk, h1])
    go_enter Try.func24, Try.ntmps24
    go_wp2_with fail
    refine (l3Good _ _ _ _ _).mono ?_
    rintro e w' ⟨rfl, rfl⟩
    go_wp2_with fail
    go_ret2
    exact ⟨rIB K.out.2.symm K.out.1.symm, rfl⟩
  · cases h2 : Pl.cnt n
    · have K : Hid (Pl.rbOk k s f v n = false ∧ Pl.rbV k s f v n = 0) := hide (by simp [Pl.rbV, Pl.rbOk, Pl.byOk, h2])
      unfold Pl.cnt at h2
      go_enter Try.func24, Try.ntmps24
      go_wp2_with fail
      refine (l3Good _ _ _ _ _).mono ?_
      rintro e w' ⟨rfl, rfl⟩
      go_wp2_with fail
      refine (l1In _ _ _ _).mono ?_
      rintro e w' ⟨rfl, rfl⟩
      go_wp2_with fail
      go_ret2
      exact ⟨rIB K.out.2.symm K.out.1.symm, rfl⟩
    · obtain ⟨k0, k1, _, f0, f1, hf⟩ := Pl.goodK_ok h1
      have hby : Pl.byOk k s f v n = true := by simp [Pl.byOk, h1, h2]
      obtain ⟨_, n0, n1⟩ := Pl.byOk_ok hby
      by_cases h4 : k < 4
      · have K : Hid (Pl.rbOk k s f v n = false ∧ Pl.rbV k s f v n = 0) := hide (by
          have : ¬ 4 ≤ k := by omega
          simp [Pl.rbV, Pl.rbOk, this])
        unfold Pl.cnt at h2
        clear hby
        go_enter Try.func24, Try.ntmps24
        go_wp2_with fail
        refine (l3Good _ _ _ _ _).mono ?_
        rintro e w' ⟨rfl, rfl⟩
        go_wp2_with fail
        refine (l1In _ _ _ _).mono ?_
        rintro e w' ⟨rfl, rfl⟩
        go_wp2_with fail
        go_ret2
        exact ⟨rIB K.out.2.symm K.out.1.symm, rfl⟩
      · have kr : Pl.rbOk k s f v n = true := by simp [Pl.rbOk, hby]; omega
        have K : Hid (Pl.rbOk k s f v n = true ∧ Pl.rbV k s f v n = v) := hide (by simp [Pl.rbV, kr])
        have hF := Pl.byF_bd (k := k) hf n.toNat
        obtain ⟨F0, F1, F2⟩ := hF
        have hf2 : Pl.Fit s ((Pl.st k s (v, f / 16) n.toNat).1, Pl.byF k s (v, f / 16) n.toNat / 16) := by rw [F2]; exact Pl.st_fit hf n.toNat
        have hxor := Pl.flip_xor k0 k1
        have hfl : 0 ≤ Pl.flip k ∧ Pl.flip k ≤ 7 := by unfold Pl.flip; split <;> omega
        have hB : Hid ((Pl.st (Pl.flip k) s ((Pl.st k s (v, f / 16) n.toNat).1, (Pl.st k s (v, f / 16) n.toNat).2) n.toNat).1 = v) := hide (by
          show (Pl.st (Pl.flip k) s (Pl.st k s (v, f / 16) n.toNat) n.toNat).1 = v
          rw [Pl.st_back (by omega) k1 n.toNat hf])
        unfold Pl.cnt at h2
        clear hby kr
        go_enter Try.func24, Try.ntmps24
        go_wp2_with fail
        refine (l3Good _ _ _ _ _).mono ?_
        rintro e w' ⟨rfl, rfl⟩
        go_wp2_with fail
        refine (l1In _ _ _ _).mono ?_
        rintro e w' ⟨rfl, rfl⟩
        go_wp2_with fail
        refine (l3By k s f v n _ k0 k1 f0 f1 hf n0 n1).mono ?_
        rintro e w' ⟨rfl, rfl⟩
        go_wp2_with fail
        refine (l3By (Pl.flip k) s _ _ n _ hfl.1 hfl.2 F0 F1 hf2 n0 n1).mono ?_
        rintro e w' ⟨rfl, rfl⟩
        go_wp2_with fail
        go_ret2
        exact ⟨rIB (hB.out.trans K.out.2.symm) K.out.1.symm, rfl⟩

end Go.Proofs.Ytlagdbajdehanaa
