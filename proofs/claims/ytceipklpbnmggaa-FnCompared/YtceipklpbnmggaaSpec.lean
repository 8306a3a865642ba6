/- What the models of AddFlags, SubFlags and NegFlags answer for every argument: one contract a function; none changes the world. -/
import Derived.Test.YtceipklpbnmggaaFlags
namespace Go.Proofs.Ytceipklpbnmggaa
open Go.RowKit
set_option linter.unusedVariables false

theorem l1Zn1 (v : Int) (w : World) :
    Calls Try.prog 66 #[.int .i64 1, .int .i64 v] w fun e w' => e = .returned (.int .i64 (bits .or .i64 (Pl.fl (v == 0) 4) (Pl.fl (decide (128 ≤ v)) 8))) ∧ w' = w := by
  go_enter Try.func66, Try.ntmps66
  go_wp2_with fail
  refine (l1Flag _ _ _).mono ?_
  rintro e w' ⟨rfl, rfl⟩
  go_wp2_with fail
  refine (l1Top1 _).mono ?_
  rintro e w' ⟨rfl, rfl⟩
  go_wp2_with fail
  refine (l1Flag _ _ _).mono ?_
  rintro e w' ⟨rfl, rfl⟩
  go_wp2_with fail
  go_ret
  exact ⟨rfl, rfl⟩

theorem l1Zn2 (v : Int) (w : World) :
    Calls Try.prog 66 #[.int .i64 2, .int .i64 v] w fun e w' => e = .returned (.int .i64 (bits .or .i64 (Pl.fl (v == 0) 4) (Pl.fl (decide (32768 ≤ v)) 8))) ∧ w' = w := by
  go_enter Try.func66, Try.ntmps66
  go_wp2_with fail
  refine (l1Flag _ _ _).mono ?_
  rintro e w' ⟨rfl, rfl⟩
  go_wp2_with fail
  refine (l1Top2 _).mono ?_
  rintro e w' ⟨rfl, rfl⟩
  go_wp2_with fail
  refine (l1Flag _ _ _).mono ?_
  rintro e w' ⟨rfl, rfl⟩
  go_wp2_with fail
  go_ret
  exact ⟨rfl, rfl⟩

theorem l1Sub1 (x a b : Int) (w : World) (a0 : 0 ≤ a) (a1 : a < 256) (b0 : 0 ≤ b) (b1 : b < 256) (x0 : 0 ≤ x) (x1 : x ≤ 1) :
    Calls Try.prog 59 #[.int .i64 1, .int .i64 x, .int .i64 a, .int .i64 b] w fun e w' => e = .returned (.tuple #[.int .i64 ((a - b - x) % 256), .int .i64 (Pl.keptF 1 (a - b - x) (Pl.sg 1 a - Pl.sg 1 b - x))]) ∧ w' = w := by
  have em := Pl.and255 (a - b - x)
  obtain ⟨sa0, sa1⟩ := Pl.sg_bd1 a0 a1
  obtain ⟨sb0, sb1⟩ := Pl.sg_bd1 b0 b1
  go_enter Try.func59, Try.ntmps59
  go_wp2_with fail
  refine (l1Top1 _).mono ?_
  rintro e w' ⟨rfl, rfl⟩
  go_wp2_with fail
  refine (l1Signed1 a _ a0 a1).mono ?_
  rintro e w' ⟨rfl, rfl⟩
  go_wp2_with fail
  refine (l1Signed1 b _ b0 b1).mono ?_
  rintro e w' ⟨rfl, rfl⟩
  go_wp2_with fail
  refine (l1Flag _ _ _).mono ?_
  rintro e w' ⟨rfl, rfl⟩
  go_wp2_with fail
  refine (l1Signed1 ((a - b - x) % 256) _ (by omega) (by omega)).mono ?_
  rintro e w' ⟨rfl, rfl⟩
  go_wp2_with fail
  refine (l1Flag _ _ _).mono ?_
  rintro e w' ⟨rfl, rfl⟩
  go_wp2_with fail
  refine (l1Zn1 _ _).mono ?_
  rintro e w' ⟨rfl, rfl⟩
  go_wp2_with fail
  go_ret2
  exact ⟨rII rfl (Pl.sbelow1 _ _ (by omega)), rfl⟩

theorem l1Sub2 (x a b : Int) (w : World) (a0 : 0 ≤ a) (a1 : a < 65536) (b0 : 0 ≤ b) (b1 : b < 65536) (x0 : 0 ≤ x) (x1 : x ≤ 1) :
    Calls Try.prog 59 #[.int .i64 2, .int .i64 x, .int .i64 a, .int .i64 b] w fun e w' => e = .returned (.tuple #[.int .i64 ((a - b - x) % 65536), .int .i64 (Pl.keptF 2 (a - b - x) (Pl.sg 2 a - Pl.sg 2 b - x))]) ∧ w' = w := by
  have em := Pl.and65535 (a - b - x)
  obtain ⟨sa0, sa1⟩ := Pl.sg_bd2 a0 a1
  obtain ⟨sb0, sb1⟩ := Pl.sg_bd2 b0 b1
  go_enter Try.func59, Try.ntmps59
  go_wp2_with fail
  refine (l1Top2 _).mono ?_
  rintro e w' ⟨rfl, rfl⟩
  go_wp2_with fail
  refine (l1Signed2 a _ a0 a1).mono ?_
  rintro e w' ⟨rfl, rfl⟩
  go_wp2_with fail
  refine (l1Signed2 b _ b0 b1).mono ?_
  rintro e w' ⟨rfl, rfl⟩
  go_wp2_with fail
  refine (l1Flag _ _ _).mono ?_
  rintro e w' ⟨rfl, rfl⟩
  go_wp2_with fail
  refine (l1Signed2 ((a - b - x) % 65536) _ (by omega) (by omega)).mono ?_
  rintro e w' ⟨rfl, rfl⟩
  go_wp2_with fail
  refine (l1Flag _ _ _).mono ?_
  rintro e w' ⟨rfl, rfl⟩
  go_wp2_with fail
  refine (l1Zn2 _ _).mono ?_
  rintro e w' ⟨rfl, rfl⟩
  go_wp2_with fail
  go_ret2
  exact ⟨rII rfl (Pl.sbelow2 _ _ (by omega)), rfl⟩

theorem l1Two (s x a b : Int) (w : World) :
    Calls Try.prog 45 #[.int .i64 s, .int .i64 x, .int .i64 a, .int .i64 b] w fun e w' => e = .returned (.bool (Pl.two s x a b)) ∧ w' = w := by
  unfold Pl.two
  cases ka : Pl.okv s a
  · go_enter Try.func45, Try.ntmps45
    go_wp2_with fail
    refine (l1Value s a _).mono ?_
    rintro e w' ⟨rfl, rfl⟩
    go_wp2_with fail
    go_ret
    exact ⟨rfl, rfl⟩
  · cases kb : Pl.okv s b
    · go_enter Try.func45, Try.ntmps45
      go_wp2_with fail
      refine (l1Value s a _).mono ?_
      rintro e w' ⟨rfl, rfl⟩
      go_wp2_with fail
      refine (l1Value s b _).mono ?_
      rintro e w' ⟨rfl, rfl⟩
      go_wp2_with fail
      go_ret
      exact ⟨rfl, rfl⟩
    · go_enter Try.func45, Try.ntmps45
      go_wp2_with fail
      refine (l1Value s a _).mono ?_
      rintro e w' ⟨rfl, rfl⟩
      go_wp2_with fail
      refine (l1Value s b _).mono ?_
      rintro e w' ⟨rfl, rfl⟩
      go_wp2_with fail
      refine (l1In x 0 1 _).mono ?_
      rintro e w' ⟨rfl, rfl⟩
      go_wp2_with fail
      go_ret
      exact ⟨rfl, rfl⟩

end Go.Proofs.Ytceipklpbnmggaa
