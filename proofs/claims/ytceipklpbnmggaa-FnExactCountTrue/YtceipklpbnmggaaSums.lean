/- What the sums and differences of chapter 1, and of its model, answer for every argument: one contract a function; none changes the world. -/
import Derived.Test.YtceipklpbnmggaaLeaf
namespace Go.Proofs.Ytceipklpbnmggaa
set_option linter.unusedVariables false

theorem signedPair (s a b : Int) (w : World) (la : -9223372036854775808 ≤ a) (ha : a ≤ 9223372036854775807) (lb : -9223372036854775808 ≤ b) (hb : b ≤ 9223372036854775807) :
    Calls Try.prog 60 #[.int .i64 s, .int .i64 a, .int .i64 b] w fun e w' => e = .returned (.tuple #[.int .i64 (Pl.sgnV s a), .int .i64 (Pl.sgnV s b), .bool (Pl.okv s a && Pl.okv s b)]) ∧ w' = w := by
  cases ka : Pl.okv s a
  all_goals
    cases kb : Pl.okv s b
    all_goals
      go_enter Try.func60, Try.ntmps60
      go_wp2_with fail
      refine (signedOf s a _ la ha).mono ?_
      rintro e w' ⟨rfl, rfl⟩
      go_wp2_with fail
      refine (signedOf s b _ lb hb).mono ?_
      rintro e w' ⟨rfl, rfl⟩
      go_wp2_with fail
      go_ret3
      exact ⟨rIIB rfl rfl rfl, rfl⟩

theorem wrapSum8 (p q : Int) (w : World) :
    Calls Try.prog 67 #[.int .i64 p, .int .i64 q] w fun e w' => e = .returned (.tuple #[.int .i64 (p % 256), .int .i64 (Pl.keptF 1 p q)]) ∧ w' = w := by
  go_enter Try.func67, Try.ntmps67
  go_wp2_with fail
  refine (signedAs8 _ _ (by omega) (by omega)).mono ?_
  rintro e w' ⟨rfl, rfl⟩
  go_wp2_with fail
  refine (flagsIf _ _ _).mono ?_
  rintro e w' ⟨rfl, rfl⟩
  go_wp2_with fail
  refine (flagsIf _ _ _).mono ?_
  rintro e w' ⟨rfl, rfl⟩
  go_wp2_with fail
  refine (flagsIf _ _ _).mono ?_
  rintro e w' ⟨rfl, rfl⟩
  go_wp2_with fail
  refine (flagsIf _ _ _).mono ?_
  rintro e w' ⟨rfl, rfl⟩
  go_wp2_with fail
  go_ret2
  exact ⟨rII rfl (Pl.kept1 p q), rfl⟩

theorem wrapSum16 (p q : Int) (w : World) :
    Calls Try.prog 68 #[.int .i64 p, .int .i64 q] w fun e w' => e = .returned (.tuple #[.int .i64 (p % 65536), .int .i64 (Pl.keptF 2 p q)]) ∧ w' = w := by
  have hw : IntKind.u16.wrap p = p % 65536 := IntKind.wrap_u16 p
  go_enter Try.func68, Try.ntmps68
  go_wp2_with fail
  refine (signedAs16 _ _ (by omega) (by omega)).mono ?_
  rintro e w' ⟨rfl, rfl⟩
  go_wp2_with fail
  refine (flagsIf _ _ _).mono ?_
  rintro e w' ⟨rfl, rfl⟩
  go_wp2_with fail
  refine (flagsIf _ _ _).mono ?_
  rintro e w' ⟨rfl, rfl⟩
  go_wp2_with fail
  refine (flagsIf _ _ _).mono ?_
  rintro e w' ⟨rfl, rfl⟩
  go_wp2_with fail
  refine (flagsIf _ _ _).mono ?_
  rintro e w' ⟨rfl, rfl⟩
  go_wp2_with fail
  go_ret2
  exact ⟨rII rfl (Pl.kept2 p q), rfl⟩

theorem wrapSumOf (s p q : Int) (w : World) (hs : s = 1 ∨ s = 2) :
    Calls Try.prog 62 #[.int .i64 s, .int .i64 p, .int .i64 q] w fun e w' => e = .returned (.tuple #[.int .i64 (p % Pl.top s), .int .i64 (Pl.keptF s p q)]) ∧ w' = w := by
  rcases hs with rfl | rfl
  · go_enter Try.func62, Try.ntmps62
    go_wp2_with fail
    refine (wrapSum8 _ _ _).mono ?_
    rintro e w' ⟨rfl, rfl⟩
    go_wp2_with fail
    go_ret2
    exact ⟨rII rfl rfl, rfl⟩
  · go_enter Try.func62, Try.ntmps62
    go_wp2_with fail
    refine (wrapSum16 _ _ _).mono ?_
    rintro e w' ⟨rfl, rfl⟩
    go_wp2_with fail
    go_ret2
    exact ⟨rII rfl rfl, rfl⟩

end Go.Proofs.Ytceipklpbnmggaa
