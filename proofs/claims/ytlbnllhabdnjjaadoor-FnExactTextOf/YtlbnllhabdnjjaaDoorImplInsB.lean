/- The first word of an instruction and the instruction of two words, as the program makes them. -/
import Derived.Test.YtlbnllhabdnjjaaDoorImplInsA
import Derived.Test.YtlbnllhabdnjjaaDoorInsBits
namespace Go.Proofs.YtlbnllhabdnjjaaDoor
open Go.RowKit
set_option linter.unusedVariables false
theorem wrapQ (a : Int) : ∃ q : Int, wrap64 a = a + 18446744073709551616 * q := by
  refine ⟨-((a + 9223372036854775808) / 18446744073709551616), ?_⟩
  unfold wrap64
  omega
theorem firstWord (w : World) (op z r m k e s : Int) : Calls Tryd.prog 44 #[.agg #[.int .i64 op, .int .i64 z, .int .i64 r, .int .i64 m, .int .i64 k, .int .i64 e, .int .i64 s]] w fun r' w' => r' = .returned (.int .i64 (Pl.word1 ⟨op, z, r, m, k, e, s⟩ % 65536)) ∧ Kept 0 0 w w' := by
  have K0 := hide (kept_alloc w (.cells #[.int .i64 op, .int .i64 z, .int .i64 r, .int .i64 m, .int .i64 k, .int .i64 e, .int .i64 s] 36))
  go_enter Tryd.func44, Tryd.ntmps44
  go_wp2_with (go_at_call 70; refine (wrapWord _ _).mono ?_; rintro e' w2 ⟨rfl, hw⟩; have hw2 := hw.symm; clear hw; subst hw2)
  go_ret
  refine ⟨rI ?_, K0.out⟩
  unfold Pl.word1
  simp only
  obtain ⟨q1, e1⟩ := wrapQ (op * 2048)
  obtain ⟨q2, e2⟩ := wrapQ (z - 1)
  obtain ⟨q3, e3⟩ := wrapQ (wrap64 (z - 1) * 1024)
  obtain ⟨q4, e4⟩ := wrapQ (wrap64 (op * 2048) + wrap64 (wrap64 (z - 1) * 1024))
  obtain ⟨q5, e5⟩ := wrapQ (r * 256)
  obtain ⟨q6, e6⟩ := wrapQ (wrap64 (wrap64 (op * 2048) + wrap64 (wrap64 (z - 1) * 1024)) + wrap64 (r * 256))
  obtain ⟨q7, e7⟩ := wrapQ (m * 32)
  obtain ⟨q8, e8⟩ := wrapQ (wrap64 (wrap64 (wrap64 (op * 2048) + wrap64 (wrap64 (z - 1) * 1024)) + wrap64 (r * 256)) + wrap64 (m * 32))
  obtain ⟨q9, e9⟩ := wrapQ (k * 8)
  obtain ⟨qa, ea⟩ := wrapQ (wrap64 (wrap64 (wrap64 (wrap64 (op * 2048) + wrap64 (wrap64 (z - 1) * 1024)) + wrap64 (r * 256)) + wrap64 (m * 32)) + wrap64 (k * 8))
  obtain ⟨qb, eb⟩ := wrapQ (wrap64 (wrap64 (wrap64 (wrap64 (wrap64 (op * 2048) + wrap64 (wrap64 (z - 1) * 1024)) + wrap64 (r * 256)) + wrap64 (m * 32)) + wrap64 (k * 8)) + s)
  omega
theorem wfSm {n : Int} (h0 : -1 ≤ n) (h1 : n ≤ 65536) : (Lit.int .i64 n).wf = true := by
  have e1 : IntKind.i64.min = -9223372036854775808 := rfl
  have e2 : IntKind.i64.max = 9223372036854775807 := rfl
  simp [Lit.wf]
  omega
theorem Blk.c7 {w : World} {b : Nat} {v0 v1 v2 v3 v4 v5 v6 : Value} {t : TypeId} (h : Blk w b #[v0, v1, v2, v3, v4, v5, v6] t) : w.cell? ⟨b, 0, none⟩ = some v0 ∧ w.cell? ⟨b, 1, none⟩ = some v1 ∧ w.cell? ⟨b, 2, none⟩ = some v2 ∧ w.cell? ⟨b, 3, none⟩ = some v3 ∧ w.cell? ⟨b, 4, none⟩ = some v4 ∧ w.cell? ⟨b, 5, none⟩ = some v5 ∧ w.cell? ⟨b, 6, none⟩ = some v6 :=
  ⟨h.cell (i := 0) rfl, h.cell (i := 1) rfl, h.cell (i := 2) rfl, h.cell (i := 3) rfl, h.cell (i := 4) rfl, h.cell (i := 5) rfl, h.cell (i := 6) rfl⟩
theorem insOf (w : World) (n v : Int) (h0 : 0 ≤ n) (h1 : n ≤ 65535) : Calls Tryd.prog 60 #[.int .i64 n, .int .i64 v] w fun r' w' => r' = .returned (.agg #[.int .i64 (Pl.decode n v).op, .int .i64 (Pl.decode n v).z, .int .i64 (Pl.decode n v).r, .int .i64 (Pl.decode n v).m, .int .i64 (Pl.decode n v).k, .int .i64 (Pl.decode n v).e, .int .i64 (Pl.decode n v).s]) ∧ Kept 0 0 w w' := by
  rw [Pl.decode_e]
  simp only [Pl.decode]
  have t1 : n.tdiv 2048 = n / 2048 := Int.tdiv_eq_ediv_of_nonneg h0
  have t2 : n.tdiv 1024 = n / 1024 := Int.tdiv_eq_ediv_of_nonneg h0
  have t3 : n.tdiv 256 = n / 256 := Int.tdiv_eq_ediv_of_nonneg h0
  have t4 : n.tdiv 32 = n / 32 := Int.tdiv_eq_ediv_of_nonneg h0
  have t5 : n.tdiv 8 = n / 8 := Int.tdiv_eq_ediv_of_nonneg h0
  have t6 : n.tmod 8 = n % 8 := Int.tmod_eq_emod_of_nonneg h0
  have wfm : (Lit.int .i64 (n / 32 % 8)).wf = true := wfSm (by omega) (by omega)
  have hM : Pl.lng (n / 32 % 8) = Pl.extM (n / 32 % 8) := by
    unfold Pl.lng
    rw [show Pl.modeOk (n / 32 % 8) = true from by simp [Pl.modeOk, Pl.within]; omega]
    rfl
  have HM := hide hM
  have KA := hide (kept_new (kept_alloc w (.cells #[.int .i64 0, .int .i64 0, .int .i64 0, .int .i64 0, .int .i64 0, .int .i64 0, .int .i64 0] 36)) (.cells #[.int .i64 (n / 2048), .int .i64 (n / 1024 % 2 + 1), .int .i64 (n / 256 % 4), .int .i64 (n / 32 % 8), .int .i64 (n / 8 % 4), .int .i64 0, .int .i64 (n % 8)] 36))
  have B1 := hide ((Blk.new w #[.int .i64 0, .int .i64 0, .int .i64 0, .int .i64 0, .int .i64 0, .int .i64 0, .int .i64 0] 36).alloc (.cells #[.int .i64 (n / 2048), .int .i64 (n / 1024 % 2 + 1), .int .i64 (n / 256 % 4), .int .i64 (n / 32 % 8), .int .i64 (n / 8 % 4), .int .i64 0, .int .i64 (n % 8)] 36))
  have b2 := Blk.new (w.alloc (.cells #[.int .i64 0, .int .i64 0, .int .i64 0, .int .i64 0, .int .i64 0, .int .i64 0, .int .i64 0] 36)) #[.int .i64 (n / 2048), .int .i64 (n / 1024 % 2 + 1), .int .i64 (n / 256 % 4), .int .i64 (n / 32 % 8), .int .i64 (n / 8 % 4), .int .i64 0, .int .i64 (n % 8)] 36
  simp only [World.size_alloc] at b2
  have B2 := hide b2
  clear b2 hM
  cases hx : Pl.extM (n / 32 % 8)
  · go_enter Tryd.func60, Tryd.ntmps60
    go_wp2_with fail
    refine (isLong _ _ _ _ _ _ _ _ wfm).mono ?_
    rintro r2 w2 ⟨rfl, k2⟩
    rw [HM.out, hx]
    have K2 := hide (KA.out.trans k2)
    have C2 := hide (B2.out.kept0 k2)
    have C1 := hide (B1.out.kept0 k2)
    obtain ⟨p0, p1, p2, p3, p4, p5, p6⟩ := C2.out.c7
    obtain ⟨q0, q1, q2, q3, q4, q5, q6⟩ := C1.out.c7
    have fq0 := C1.out.frozen 0; have fq1 := C1.out.frozen 1; have fq2 := C1.out.frozen 2; have fq3 := C1.out.frozen 3; have fq4 := C1.out.frozen 4; have fq5 := C1.out.frozen 5; have fq6 := C1.out.frozen 6
    have fp5 := C2.out.frozen 5
    clear k2 t1 t2 t3 t4 t5 t6
    go_wp2_with fail
    refine bodyPost_ret (v := .agg #[.int .i64 (n / 2048), .int .i64 (n / 1024 % 2 + 1), .int .i64 (n / 256 % 4), .int .i64 (n / 32 % 8), .int .i64 (n / 8 % 4), .int .i64 0, .int .i64 (n % 8)]) ?_ rfl ⟨rfl, ?_⟩
    · rw [results_one rfl]; go_simp
    · exact (kept_set (kept_set (kept_set (kept_set (kept_set (kept_set (kept_set K2.out _ _ _ (.inr (by omega))) _ _ _ (.inr (by omega))) _ _ _ (.inr (by omega))) _ _ _ (.inr (by omega))) _ _ _ (.inr (by omega))) _ _ _ (.inr (by omega))) _ _ _ (.inr (by omega)))
  · go_enter Tryd.func60, Tryd.ntmps60
    go_wp2_with fail
    refine (isLong _ _ _ _ _ _ _ _ wfm).mono ?_
    rintro r2 w2 ⟨rfl, k2⟩
    rw [HM.out, hx]
    have K2 := hide (KA.out.trans k2)
    have C2 := hide (B2.out.kept0 k2)
    have C1 := hide (B1.out.kept0 k2)
    obtain ⟨p0, p1, p2, p3, p4, p5, p6⟩ := C2.out.c7
    obtain ⟨q0, q1, q2, q3, q4, q5, q6⟩ := C1.out.c7
    have fq0 := C1.out.frozen 0; have fq1 := C1.out.frozen 1; have fq2 := C1.out.frozen 2; have fq3 := C1.out.frozen 3; have fq4 := C1.out.frozen 4; have fq5 := C1.out.frozen 5; have fq6 := C1.out.frozen 6
    have fp5 := C2.out.frozen 5
    clear k2 t1 t2 t3 t4 t5 t6
    go_wp2_with fail
    refine bodyPost_ret (v := .agg #[.int .i64 (n / 2048), .int .i64 (n / 1024 % 2 + 1), .int .i64 (n / 256 % 4), .int .i64 (n / 32 % 8), .int .i64 (n / 8 % 4), .int .i64 v, .int .i64 (n % 8)]) ?_ rfl ⟨rfl, ?_⟩
    · rw [results_one rfl]; go_simp
    · exact (kept_set (kept_set (kept_set (kept_set (kept_set (kept_set (kept_set (kept_set K2.out _ _ _ (.inr (by omega))) _ _ _ (.inr (by omega))) _ _ _ (.inr (by omega))) _ _ _ (.inr (by omega))) _ _ _ (.inr (by omega))) _ _ _ (.inr (by omega))) _ _ _ (.inr (by omega))) _ _ _ (.inr (by omega)))
end Go.Proofs.YtlbnllhabdnjjaaDoor
