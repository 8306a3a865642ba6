/- What the models of chapter 7 answer for words: how long, of what parts, privileged. -/
import Derived.Test.YtblddehlkaolbaaGreatJF4
import Derived.Test.YtblddehlkaolbaaGreatJF8
namespace Go.Proofs.YtblddehlkaolbaaGreat
open Go.RowKit
set_option linter.unusedVariables false
set_option linter.unusedSimpArgs false
theorem specLong (n : Int) (w : World) (h0 : 0 ≤ n) (h1 : n ≤ 65535) : Calls Tryz.prog 31 #[.int .i64 n] w fun e' w' => e' = .returned (.int .i64 (Pl.longW n)) ∧ w' = w := by
  have hA := Pl.and7 (n / 32)
  cases hE : Pl.extM (n / 32 % 8)
  all_goals
    go_enter Tryz.func31, Tryz.ntmps31
    go_wp2_with (first | (go_at_call 56; refine (specExtM _ _).mono ?_; rintro e9 w' ⟨rfl, hw⟩; have hw2 := hw.symm; clear hw; subst hw2; rw [hE]))
    go_ret
    exact ⟨rI (by simp [Pl.longW, hE]), rfl⟩
set_option maxHeartbeats 1000000 in
theorem specDecode (w : World) (n v : Int) (h0 : 0 ≤ n) (h1 : n ≤ 65535) : Calls Tryz.prog 32 #[.int .i64 n, .int .i64 v] w fun e' w' => e' = .returned (.agg #[.int .i64 (Pl.decode n v).op, .int .i64 (Pl.decode n v).z, .int .i64 (Pl.decode n v).r, .int .i64 (Pl.decode n v).m, .int .i64 (Pl.decode n v).k, .int .i64 (Pl.decode n v).e, .int .i64 (Pl.decode n v).s]) ∧ Kept 0 0 w w' := by
  have A1 := Pl.and1 (n / 1024)
  have A2 := Pl.and3 (n / 256)
  have A3 := Pl.and7 (n / 32)
  have A4 := Pl.and3 (n / 8)
  have A5 := Pl.and7 n
  by_cases hL : Pl.longW n = 2
  · have E : Hid (Pl.decode n v = ⟨n / 2048, n / 1024 % 2 + 1, n / 256 % 4, n / 32 % 8, n / 8 % 4, v, n % 8⟩) := hide (by simp [Pl.decode, hL])
    go_enter Tryz.func32, Tryz.ntmps32
    go_wp2_with (first | (go_at_call 31; refine (specLong _ _ h0 h1).mono ?_; rintro e9 w' ⟨rfl, hw⟩; have hw2 := hw.symm; clear hw; subst hw2; rw [hL]))
    refine bodyPost_ret (v := .agg #[.int .i64 (n / 2048), .int .i64 (n / 1024 % 2 + 1), .int .i64 (n / 256 % 4), .int .i64 (n / 32 % 8), .int .i64 (n / 8 % 4), .int .i64 v, .int .i64 (n % 8)]) ?_ rfl ⟨by rw [E.out], ?_⟩
    · rw [results_one rfl]; go_simp
    · repeat' (first | exact Kept.refl _ _ _ | refine kept_new ?_ _ | refine kept_set ?_ _ _ _ (.inr (by omega)))
  · have E : Hid (Pl.decode n v = ⟨n / 2048, n / 1024 % 2 + 1, n / 256 % 4, n / 32 % 8, n / 8 % 4, 0, n % 8⟩) := hide (by simp [Pl.decode, hL])
    have hL2 : Pl.longW n = 1 := by unfold Pl.longW at hL ⊢; split at hL <;> simp_all
    go_enter Tryz.func32, Tryz.ntmps32
    go_wp2_with (first | (go_at_call 31; refine (specLong _ _ h0 h1).mono ?_; rintro e9 w' ⟨rfl, hw⟩; have hw2 := hw.symm; clear hw; subst hw2; rw [hL2]))
    refine bodyPost_ret (v := .agg #[.int .i64 (n / 2048), .int .i64 (n / 1024 % 2 + 1), .int .i64 (n / 256 % 4), .int .i64 (n / 32 % 8), .int .i64 (n / 8 % 4), .int .i64 0, .int .i64 (n % 8)]) ?_ rfl ⟨by rw [E.out], ?_⟩
    · rw [results_one rfl]; go_simp
    · repeat' (first | exact Kept.refl _ _ _ | refine kept_new ?_ _ | refine kept_set ?_ _ _ _ (.inr (by omega)))
end Go.Proofs.YtblddehlkaolbaaGreat

