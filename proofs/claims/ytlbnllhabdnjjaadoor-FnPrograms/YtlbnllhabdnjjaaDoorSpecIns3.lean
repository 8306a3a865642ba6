/- What the models of chapter 7 answer for words: how long, of what parts, privileged. -/
import Derived.Test.YtlbnllhabdnjjaaDoorInsBits
import Derived.Test.YtlbnllhabdnjjaaDoorSpecIns2
namespace Go.Proofs.YtlbnllhabdnjjaaDoor
open Go.RowKit
set_option linter.unusedVariables false
set_option linter.unusedSimpArgs false
theorem specLong (n : Int) (w : World) (h0 : 0 ≤ n) (h1 : n ≤ 65535) : Calls Tryd.prog 29 #[.int .i64 n] w fun e' w' => e' = .returned (.int .i64 (Pl.longW n)) ∧ w' = w := by
  have hA := Pl.and7 (n / 32)
  cases hE : Pl.extM (n / 32 % 8)
  all_goals
    go_enter Tryd.func29, Tryd.ntmps29
    go_wp2_with (first | (go_at_call 52; refine (specExtM _ _).mono ?_; rintro e9 w' ⟨rfl, hw⟩; have hw2 := hw.symm; clear hw; subst hw2; rw [hE]))
    go_ret
    exact ⟨rI (by simp [Pl.longW, hE]), rfl⟩
theorem wordIn {n : Int} (h : Pl.wordOk n = true) : 0 ≤ n ∧ n ≤ 65535 := by simpa [Pl.wordOk, Pl.within] using h
theorem specPriv (w : World) (op z r m k e s : Int) : Calls Tryd.prog 35 #[.agg #[.int .i64 op, .int .i64 z, .int .i64 r, .int .i64 m, .int .i64 k, .int .i64 e, .int .i64 s]] w fun e' w' => e' = .returned (.bool (Pl.priv ⟨op, z, r, m, k, e, s⟩)) ∧ Kept 0 0 w w' := by
  have K0 := hide (kept_alloc w (.cells #[.int .i64 op, .int .i64 z, .int .i64 r, .int .i64 m, .int .i64 k, .int .i64 e, .int .i64 s] 36))
  cases q1 : (op == 15) <;> cases q2 : (s == 1) <;> cases q3 : (s == 3) <;> cases q4 : (op == 19) <;> cases q5 : (s == 0)
  all_goals
    go_enter Tryd.func35, Tryd.ntmps35
    go_wp2_with fail
    go_ret
    exact ⟨rB (by simp only [Pl.priv, q1, q2, q3, q4, q5]; rfl), K0.out⟩
theorem specIsPriv (w : World) (op z r m k e s : Int) : Calls Tryd.prog 17 #[.agg #[.int .i64 op, .int .i64 z, .int .i64 r, .int .i64 m, .int .i64 k, .int .i64 e, .int .i64 s]] w fun e' w' => e' = .returned (.tuple #[.bool (Pl.inOk ⟨op, z, r, m, k, e, s⟩ && Pl.priv ⟨op, z, r, m, k, e, s⟩), .bool (Pl.inOk ⟨op, z, r, m, k, e, s⟩)]) ∧ Kept 0 0 w w' := by
  have K0 := hide (kept_alloc w (.cells #[.int .i64 op, .int .i64 z, .int .i64 r, .int .i64 m, .int .i64 k, .int .i64 e, .int .i64 s] 36))
  have B0 := hide (Blk.new w #[.int .i64 op, .int .i64 z, .int .i64 r, .int .i64 m, .int .i64 k, .int .i64 e, .int .i64 s] 36)
  cases h : Pl.inOk ⟨op, z, r, m, k, e, s⟩
  all_goals
    go_enter Tryd.func17, Tryd.ntmps17
    go_wp2_with (first | (go_at_call 22; refine (specGoodIns _ op z r m k e s).mono ?_; rintro e9 w2 ⟨rfl, k2⟩; rw [h]; have B2 := hide (B0.out.kept0 k2); have K2 := hide (K0.out.trans k2); have c0 := B2.out.cell (i := 0) rfl; have c1 := B2.out.cell (i := 1) rfl; have c2 := B2.out.cell (i := 2) rfl; have c3 := B2.out.cell (i := 3) rfl; have c4 := B2.out.cell (i := 4) rfl; have c5 := B2.out.cell (i := 5) rfl; have c6 := B2.out.cell (i := 6) rfl; clear k2) | (go_at_call 35; refine (specPriv _ op z r m k e s).mono ?_; rintro e9 w3 ⟨rfl, k3⟩; have K3 := hide (K2.out.trans k3); clear k3))
    go_ret2
    exact ⟨by simp, by first | exact K3.out | exact K2.out⟩
set_option maxHeartbeats 1000000 in
theorem specDecode (w : World) (n v : Int) (h0 : 0 ≤ n) (h1 : n ≤ 65535) : Calls Tryd.prog 56 #[.int .i64 n, .int .i64 v] w fun e' w' => e' = .returned (.agg #[.int .i64 (Pl.decode n v).op, .int .i64 (Pl.decode n v).z, .int .i64 (Pl.decode n v).r, .int .i64 (Pl.decode n v).m, .int .i64 (Pl.decode n v).k, .int .i64 (Pl.decode n v).e, .int .i64 (Pl.decode n v).s]) ∧ Kept 0 0 w w' := by
  have A1 := Pl.and1 (n / 1024)
  have A2 := Pl.and3 (n / 256)
  have A3 := Pl.and7 (n / 32)
  have A4 := Pl.and3 (n / 8)
  have A5 := Pl.and7 n
  by_cases hL : Pl.longW n = 2
  · have E : Hid (Pl.decode n v = ⟨n / 2048, n / 1024 % 2 + 1, n / 256 % 4, n / 32 % 8, n / 8 % 4, v, n % 8⟩) := hide (by simp [Pl.decode, hL])
    go_enter Tryd.func56, Tryd.ntmps56
    go_wp2_with (first | (go_at_call 29; refine (specLong _ _ h0 h1).mono ?_; rintro e9 w' ⟨rfl, hw⟩; have hw2 := hw.symm; clear hw; subst hw2; rw [hL]))
    refine bodyPost_ret (v := .agg #[.int .i64 (n / 2048), .int .i64 (n / 1024 % 2 + 1), .int .i64 (n / 256 % 4), .int .i64 (n / 32 % 8), .int .i64 (n / 8 % 4), .int .i64 v, .int .i64 (n % 8)]) ?_ rfl ⟨by rw [E.out], ?_⟩
    · rw [results_one rfl]; go_simp
    · repeat' (first | exact Kept.refl _ _ _ | refine kept_new ?_ _ | refine kept_set ?_ _ _ _ (.inr (by omega)))
  · have E : Hid (Pl.decode n v = ⟨n / 2048, n / 1024 % 2 + 1, n / 256 % 4, n / 32 % 8, n / 8 % 4, 0, n % 8⟩) := hide (by simp [Pl.decode, hL])
    have hL2 : Pl.longW n = 1 := by unfold Pl.longW at hL ⊢; split at hL <;> simp_all
    go_enter Tryd.func56, Tryd.ntmps56
    go_wp2_with (first | (go_at_call 29; refine (specLong _ _ h0 h1).mono ?_; rintro e9 w' ⟨rfl, hw⟩; have hw2 := hw.symm; clear hw; subst hw2; rw [hL2]))
    refine bodyPost_ret (v := .agg #[.int .i64 (n / 2048), .int .i64 (n / 1024 % 2 + 1), .int .i64 (n / 256 % 4), .int .i64 (n / 32 % 8), .int .i64 (n / 8 % 4), .int .i64 0, .int .i64 (n % 8)]) ?_ rfl ⟨by rw [E.out], ?_⟩
    · rw [results_one rfl]; go_simp
    · repeat' (first | exact Kept.refl _ _ _ | refine kept_new ?_ _ | refine kept_set ?_ _ _ _ (.inr (by omega)))
end Go.Proofs.YtlbnllhabdnjjaaDoor
