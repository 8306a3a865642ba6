/- What the model's draw of an operand answers: numbers within their bounds; it changes the reader's own block and no other that was there. -/
import Derived.Test.YtlbnllhabdnjjaaDoorDrawW
import Derived.Test.YtlbnllhabdnjjaaDoorSpecOp
namespace Go.Proofs.YtlbnllhabdnjjaaDoor
open Go.RowKit
set_option linter.unusedVariables false
/-- an operand that was drawn: each number small -/
structure SmallO (m k e : Int) : Prop where
  m0 : 0 ≤ m
  m1 : m ≤ 8
  k0 : 0 ≤ k
  k1 : k ≤ 4
  e0 : 0 ≤ e
  e1 : e ≤ 65535
set_option maxRecDepth 20000 in
set_option maxHeartbeats 8000000 in
theorem operand (w : World) (b : Nat) (a : Option Addr) (len cap : Nat) (p : Int) (h : Cur w b a len cap p) (p0 : 0 ≤ p) (p1 : p ≤ 700000) :
    Calls Tryd.prog 58 #[.pointer (some ⟨b, 0, none⟩)] w fun e' w' => ∃ m k e : Int, e' = .returned (.agg #[.int .i64 m, .int .i64 k, .int .i64 e]) ∧ SmallO m k e ∧ Went w w' b a len cap p 20 := by
  have hlt := h.lt
  have R0 := hide (Blk.new w #[.int .i64 0, .int .i64 0, .int .i64 0] 34)
  have T0 := hide ((Went.refl h).allocW (.cells #[.int .i64 0, .int .i64 0, .int .i64 0] 34))
  go_enter Tryd.func58, Tryd.ntmps58
  go_wp2_with fail
  refine (pickW T0.out p0 (by omega) 8 (by omega) (by omega)).mono ?_
  rintro e9 w1 ⟨x, rfl, x0, x1, t9, g9⟩
  have sw := g9.size
  simp only [World.size_alloc] at sw
  have T1 := hide (t9.allocW (.cells #[.int .i64 x, .int .i64 0, .int .i64 0] 34))
  have R1 := hide ((R0.out.by2 g9 (by simp; omega)).alloc (.cells #[.int .i64 x, .int .i64 0, .int .i64 0] 34))
  have B1 := hide (Blk.new w1 #[.int .i64 x, .int .i64 0, .int .i64 0] 34)
  clear t9 g9 R0 T0
  cases hE : Pl.extM x
  · have x5 : x < 6 := by simp [Pl.extM] at hE; omega
    have d6 : decide (x < 6) = true := by simpa using x5
    go_wp2_with fail
    refine (pickW T1.out p0 (by omega) 4 (by omega) (by omega)).mono ?_
    rintro e9 w2 ⟨y, rfl, yy0, yy1, t9, g9⟩
    have B9 := B1.out.by2 g9 (by simp; omega)
    have R9 := R1.out.by2 g9 (by simp; omega)
    have y0 := B9.cell (i := 0) rfl
    have f0 := B9.frozen 0
    have y1 := B9.cell (i := 1) rfl
    have f1 := B9.frozen 1
    have y2 := B9.cell (i := 2) rfl
    have f2 := B9.frozen 2
    go_wp2_with fail
    refine (specExtM _ _).mono ?_
    rintro e9 w' ⟨rfl, hw⟩
    have hw2 := hw.symm
    clear hw
    subst hw2
    rw [hE]
    have T := hide (t9.setNew h w1.heap.size 1 (.int .i64 y) (by omega))
    have B := hide (B9.set 1 (.int .i64 y))
    have R := hide (R9.other w1.heap.size 1 (.int .i64 y) (by omega))
    obtain ⟨V1, hV1⟩ : ∃ X : World, X = w2.setCell ⟨w1.heap.size, 1, none⟩ (.int .i64 y) := ⟨_, rfl⟩
    rw [← hV1] at T B R ⊢
    have sz1 := g9.size
    clear hV1 y0 y1 y2 f0 f1 f2 B9 R9 t9 g9 T1 R1 B1
    go_wp2_with fail
    refine (oneW T.out p0 (by omega) 60 (by omega) (by omega)).mono ?_
    rintro e9 v1 ⟨on, rfl, t9, g9⟩
    have T1 := hide t9
    have R1 := hide (R.out.by2 g9 (by simp; omega))
    have B1 := hide (B.out.by2 g9 (by simp; omega))
    have s9 := g9.size
    clear t9 g9
    have l1 := B1.out.lt
    have l2 := R1.out.lt
    have y0 := B1.out.cell (i := 0) rfl
    have f0 := B1.out.frozen 0
    have z0 := R1.out.cell (i := 0) rfl
    have u0 := R1.out.frozen 0
    have y1 := B1.out.cell (i := 1) rfl
    have f1 := B1.out.frozen 1
    have z1 := R1.out.cell (i := 1) rfl
    have u1 := R1.out.frozen 1
    have y2 := B1.out.cell (i := 2) rfl
    have f2 := B1.out.frozen 2
    have z2 := R1.out.cell (i := 2) rfl
    have u2 := R1.out.frozen 2
    cases on
    · go_wp2_with fail
      refine bodyPost_ret (v := .agg #[.int .i64 x, .int .i64 y, .int .i64 0]) ?_ rfl ⟨_, _, _, rfl, ⟨by omega, by omega, by omega, by omega, by omega, by omega⟩, ?_⟩
      · rw [results_one rfl]; go_simp
      · exact ((((T1.out.setNew h _ _ _ (Nat.le_refl _)).setNew h _ _ _ (Nat.le_refl _)).setNew h _ _ _ (Nat.le_refl _))).more (by omega)
    · clear y0 f0 z0 u0 y1 f1 z1 u1 y2 f2 z2 u2
      go_wp2_with fail
      refine (pickW T1.out p0 (by omega) 9 (by omega) (by omega)).mono ?_
      rintro e9 v2 ⟨q1, rfl, q10, q11, t9, g9⟩
      have T2 := hide t9
      have R2 := hide (R1.out.by2 g9 (by simp; omega))
      have B2 := hide (B1.out.by2 g9 (by simp; omega))
      clear t9 g9
      go_wp2_with fail
      refine (pickW T2.out p0 (by omega) 5 (by omega) (by omega)).mono ?_
      rintro e9 v3 ⟨q2, rfl, q20, q21, t9, g9⟩
      have T3 := hide t9
      have R3 := hide (R2.out.by2 g9 (by simp; omega))
      have B3 := hide (B2.out.by2 g9 (by simp; omega))
      clear t9 g9
      go_wp2_with fail
      refine (pickW T3.out p0 (by omega) 2 (by omega) (by omega)).mono ?_
      rintro e9 v4 ⟨q3, rfl, q30, q31, t9, g9⟩
      have T4 := hide t9
      have R4 := hide (R3.out.by2 g9 (by simp; omega))
      have B4 := hide (B3.out.by2 g9 (by simp; omega))
      clear t9 g9
      have l3 := B4.out.lt
      have l4 := R4.out.lt
      have y0 := B4.out.cell (i := 0) rfl
      have f0 := B4.out.frozen 0
      have z0 := R4.out.cell (i := 0) rfl
      have u0 := R4.out.frozen 0
      have y1 := B4.out.cell (i := 1) rfl
      have f1 := B4.out.frozen 1
      have z1 := R4.out.cell (i := 1) rfl
      have u1 := R4.out.frozen 1
      have y2 := B4.out.cell (i := 2) rfl
      have f2 := B4.out.frozen 2
      have z2 := R4.out.cell (i := 2) rfl
      have u2 := R4.out.frozen 2
      go_wp2_with fail
      refine bodyPost_ret (v := .agg #[.int .i64 q1, .int .i64 q2, .int .i64 q3]) ?_ rfl ⟨_, _, _, rfl, ⟨by omega, by omega, by omega, by omega, by omega, by omega⟩, ?_⟩
      · rw [results_one rfl]; go_simp
      · exact ((((((T4.out.setNew h _ _ _ (by omega)).setNew h _ _ _ (by omega)).setNew h _ _ _ (by omega)).setNew h _ _ _ (Nat.le_refl _)).setNew h _ _ _ (Nat.le_refl _)).setNew h _ _ _ (Nat.le_refl _)).more (by omega)
  · by_cases x5 : x < 6
    · have d6 : decide (x < 6) = true := by simpa using x5
      go_wp2_with fail
      refine (pickW T1.out p0 (by omega) 4 (by omega) (by omega)).mono ?_
      rintro e9 w2 ⟨y, rfl, yy0, yy1, t9, g9⟩
      have B9 := B1.out.by2 g9 (by simp; omega)
      have R9 := R1.out.by2 g9 (by simp; omega)
      have y0 := B9.cell (i := 0) rfl
      have f0 := B9.frozen 0
      have y1 := B9.cell (i := 1) rfl
      have f1 := B9.frozen 1
      have y2 := B9.cell (i := 2) rfl
      have f2 := B9.frozen 2
      go_wp2_with fail
      refine (specExtM _ _).mono ?_
      rintro e9 w' ⟨rfl, hw⟩
      have hw2 := hw.symm
      clear hw
      subst hw2
      rw [hE]
      have T := hide (t9.setNew h w1.heap.size 1 (.int .i64 y) (by omega))
      have B := hide (B9.set 1 (.int .i64 y))
      have R := hide (R9.other w1.heap.size 1 (.int .i64 y) (by omega))
      obtain ⟨V1, hV1⟩ : ∃ X : World, X = w2.setCell ⟨w1.heap.size, 1, none⟩ (.int .i64 y) := ⟨_, rfl⟩
      rw [← hV1] at T B R ⊢
      have sz1 := g9.size
      clear hV1 y0 y1 y2 f0 f1 f2 B9 R9 t9 g9 T1 R1 B1
      go_wp2_with fail
      refine (amongW T.out p0 (by omega) [0, 1, 2, 20, 100, 200, 384, 448, 65535, 65534] 0 65535 (by intro x hx; simp at hx; omega) 10 10 rfl (by omega) (by omega)).mono ?_
      rintro e9 a1 ⟨ex, rfl, ex0, ex1, t9, g9⟩
      have B9 := B.out.by2 g9 (by simp; omega)
      have R9 := R.out.by2 g9 (by simp; omega)
      have y0 := B9.cell (i := 0) rfl
      have f0 := B9.frozen 0
      have y1 := B9.cell (i := 1) rfl
      have f1 := B9.frozen 1
      have y2 := B9.cell (i := 2) rfl
      have f2 := B9.frozen 2
      go_wp2_with fail
      have T2 := hide (t9.setNew h w1.heap.size 2 (.int .i64 ex) (by omega))
      have B2 := hide (B9.set 2 (.int .i64 ex))
      have R2 := hide (R9.other w1.heap.size 2 (.int .i64 ex) (by omega))
      obtain ⟨V2, hV2⟩ : ∃ X : World, X = a1.setCell ⟨w1.heap.size, 2, none⟩ (.int .i64 ex) := ⟨_, rfl⟩
      rw [← hV2] at T2 B2 R2 ⊢
      have sz := g9.size
      clear hV2 y0 y1 y2 f0 f1 f2 B9 R9 t9 g9 T R B
      have T := T2
      have R := R2
      have B := B2
      clear T2 R2 B2
      go_wp2_with fail
      refine (oneW T.out p0 (by omega) 60 (by omega) (by omega)).mono ?_
      rintro e9 v1 ⟨on, rfl, t9, g9⟩
      have T1 := hide t9
      have R1 := hide (R.out.by2 g9 (by simp; omega))
      have B1 := hide (B.out.by2 g9 (by simp; omega))
      have s9 := g9.size
      clear t9 g9
      have l1 := B1.out.lt
      have l2 := R1.out.lt
      have y0 := B1.out.cell (i := 0) rfl
      have f0 := B1.out.frozen 0
      have z0 := R1.out.cell (i := 0) rfl
      have u0 := R1.out.frozen 0
      have y1 := B1.out.cell (i := 1) rfl
      have f1 := B1.out.frozen 1
      have z1 := R1.out.cell (i := 1) rfl
      have u1 := R1.out.frozen 1
      have y2 := B1.out.cell (i := 2) rfl
      have f2 := B1.out.frozen 2
      have z2 := R1.out.cell (i := 2) rfl
      have u2 := R1.out.frozen 2
      cases on
      · go_wp2_with fail
        refine bodyPost_ret (v := .agg #[.int .i64 x, .int .i64 y, .int .i64 ex]) ?_ rfl ⟨_, _, _, rfl, ⟨by omega, by omega, by omega, by omega, by omega, by omega⟩, ?_⟩
        · rw [results_one rfl]; go_simp
        · exact ((((T1.out.setNew h _ _ _ (Nat.le_refl _)).setNew h _ _ _ (Nat.le_refl _)).setNew h _ _ _ (Nat.le_refl _))).more (by omega)
      · clear y0 f0 z0 u0 y1 f1 z1 u1 y2 f2 z2 u2
        go_wp2_with fail
        refine (pickW T1.out p0 (by omega) 9 (by omega) (by omega)).mono ?_
        rintro e9 v2 ⟨q1, rfl, q10, q11, t9, g9⟩
        have T2 := hide t9
        have R2 := hide (R1.out.by2 g9 (by simp; omega))
        have B2 := hide (B1.out.by2 g9 (by simp; omega))
        clear t9 g9
        go_wp2_with fail
        refine (pickW T2.out p0 (by omega) 5 (by omega) (by omega)).mono ?_
        rintro e9 v3 ⟨q2, rfl, q20, q21, t9, g9⟩
        have T3 := hide t9
        have R3 := hide (R2.out.by2 g9 (by simp; omega))
        have B3 := hide (B2.out.by2 g9 (by simp; omega))
        clear t9 g9
        go_wp2_with fail
        refine (pickW T3.out p0 (by omega) 2 (by omega) (by omega)).mono ?_
        rintro e9 v4 ⟨q3, rfl, q30, q31, t9, g9⟩
        have T4 := hide t9
        have R4 := hide (R3.out.by2 g9 (by simp; omega))
        have B4 := hide (B3.out.by2 g9 (by simp; omega))
        clear t9 g9
        have l3 := B4.out.lt
        have l4 := R4.out.lt
        have y0 := B4.out.cell (i := 0) rfl
        have f0 := B4.out.frozen 0
        have z0 := R4.out.cell (i := 0) rfl
        have u0 := R4.out.frozen 0
        have y1 := B4.out.cell (i := 1) rfl
        have f1 := B4.out.frozen 1
        have z1 := R4.out.cell (i := 1) rfl
        have u1 := R4.out.frozen 1
        have y2 := B4.out.cell (i := 2) rfl
        have f2 := B4.out.frozen 2
        have z2 := R4.out.cell (i := 2) rfl
        have u2 := R4.out.frozen 2
        go_wp2_with fail
        refine bodyPost_ret (v := .agg #[.int .i64 q1, .int .i64 q2, .int .i64 q3]) ?_ rfl ⟨_, _, _, rfl, ⟨by omega, by omega, by omega, by omega, by omega, by omega⟩, ?_⟩
        · rw [results_one rfl]; go_simp
        · exact ((((((T4.out.setNew h _ _ _ (by omega)).setNew h _ _ _ (by omega)).setNew h _ _ _ (by omega)).setNew h _ _ _ (Nat.le_refl _)).setNew h _ _ _ (Nat.le_refl _)).setNew h _ _ _ (Nat.le_refl _)).more (by omega)
    · have d6 : decide (x < 6) = false := by simpa using x5
      go_wp2_with fail
      refine (specExtM _ _).mono ?_
      rintro e9 w' ⟨rfl, hw⟩
      have hw2 := hw.symm
      clear hw
      subst hw2
      rw [hE]
      obtain ⟨V1, hV1⟩ : ∃ X : World, X = w1.alloc (.cells #[.int .i64 x, .int .i64 0, .int .i64 0] 34) := ⟨_, rfl⟩
      rw [← hV1] at T1 R1 B1 ⊢
      have sz1 : w1.heap.size < V1.heap.size := by rw [hV1]; simp
      clear hV1
      have T := T1
      have R := R1
      have B := B1
      clear T1 R1 B1
      go_wp2_with fail
      refine (amongW T.out p0 (by omega) [0, 1, 2, 20, 100, 200, 384, 448, 65535, 65534] 0 65535 (by intro x hx; simp at hx; omega) 10 10 rfl (by omega) (by omega)).mono ?_
      rintro e9 a1 ⟨ex, rfl, ex0, ex1, t9, g9⟩
      have B9 := B.out.by2 g9 (by simp; omega)
      have R9 := R.out.by2 g9 (by simp; omega)
      have y0 := B9.cell (i := 0) rfl
      have f0 := B9.frozen 0
      have y1 := B9.cell (i := 1) rfl
      have f1 := B9.frozen 1
      have y2 := B9.cell (i := 2) rfl
      have f2 := B9.frozen 2
      go_wp2_with fail
      have T2 := hide (t9.setNew h w1.heap.size 2 (.int .i64 ex) (by omega))
      have B2 := hide (B9.set 2 (.int .i64 ex))
      have R2 := hide (R9.other w1.heap.size 2 (.int .i64 ex) (by omega))
      obtain ⟨V2, hV2⟩ : ∃ X : World, X = a1.setCell ⟨w1.heap.size, 2, none⟩ (.int .i64 ex) := ⟨_, rfl⟩
      rw [← hV2] at T2 B2 R2 ⊢
      have sz := g9.size
      clear hV2 y0 y1 y2 f0 f1 f2 B9 R9 t9 g9 T R B
      have T := T2
      have R := R2
      have B := B2
      clear T2 R2 B2
      go_wp2_with fail
      refine (oneW T.out p0 (by omega) 60 (by omega) (by omega)).mono ?_
      rintro e9 v1 ⟨on, rfl, t9, g9⟩
      have T1 := hide t9
      have R1 := hide (R.out.by2 g9 (by simp; omega))
      have B1 := hide (B.out.by2 g9 (by simp; omega))
      have s9 := g9.size
      clear t9 g9
      have l1 := B1.out.lt
      have l2 := R1.out.lt
      have y0 := B1.out.cell (i := 0) rfl
      have f0 := B1.out.frozen 0
      have z0 := R1.out.cell (i := 0) rfl
      have u0 := R1.out.frozen 0
      have y1 := B1.out.cell (i := 1) rfl
      have f1 := B1.out.frozen 1
      have z1 := R1.out.cell (i := 1) rfl
      have u1 := R1.out.frozen 1
      have y2 := B1.out.cell (i := 2) rfl
      have f2 := B1.out.frozen 2
      have z2 := R1.out.cell (i := 2) rfl
      have u2 := R1.out.frozen 2
      cases on
      · go_wp2_with fail
        refine bodyPost_ret (v := .agg #[.int .i64 x, .int .i64 0, .int .i64 ex]) ?_ rfl ⟨_, _, _, rfl, ⟨by omega, by omega, by omega, by omega, by omega, by omega⟩, ?_⟩
        · rw [results_one rfl]; go_simp
        · exact ((((T1.out.setNew h _ _ _ (Nat.le_refl _)).setNew h _ _ _ (Nat.le_refl _)).setNew h _ _ _ (Nat.le_refl _))).more (by omega)
      · clear y0 f0 z0 u0 y1 f1 z1 u1 y2 f2 z2 u2
        go_wp2_with fail
        refine (pickW T1.out p0 (by omega) 9 (by omega) (by omega)).mono ?_
        rintro e9 v2 ⟨q1, rfl, q10, q11, t9, g9⟩
        have T2 := hide t9
        have R2 := hide (R1.out.by2 g9 (by simp; omega))
        have B2 := hide (B1.out.by2 g9 (by simp; omega))
        clear t9 g9
        go_wp2_with fail
        refine (pickW T2.out p0 (by omega) 5 (by omega) (by omega)).mono ?_
        rintro e9 v3 ⟨q2, rfl, q20, q21, t9, g9⟩
        have T3 := hide t9
        have R3 := hide (R2.out.by2 g9 (by simp; omega))
        have B3 := hide (B2.out.by2 g9 (by simp; omega))
        clear t9 g9
        go_wp2_with fail
        refine (pickW T3.out p0 (by omega) 2 (by omega) (by omega)).mono ?_
        rintro e9 v4 ⟨q3, rfl, q30, q31, t9, g9⟩
        have T4 := hide t9
        have R4 := hide (R3.out.by2 g9 (by simp; omega))
        have B4 := hide (B3.out.by2 g9 (by simp; omega))
        clear t9 g9
        have l3 := B4.out.lt
        have l4 := R4.out.lt
        have y0 := B4.out.cell (i := 0) rfl
        have f0 := B4.out.frozen 0
        have z0 := R4.out.cell (i := 0) rfl
        have u0 := R4.out.frozen 0
        have y1 := B4.out.cell (i := 1) rfl
        have f1 := B4.out.frozen 1
        have z1 := R4.out.cell (i := 1) rfl
        have u1 := R4.out.frozen 1
        have y2 := B4.out.cell (i := 2) rfl
        have f2 := B4.out.frozen 2
        have z2 := R4.out.cell (i := 2) rfl
        have u2 := R4.out.frozen 2
        go_wp2_with fail
        refine bodyPost_ret (v := .agg #[.int .i64 q1, .int .i64 q2, .int .i64 q3]) ?_ rfl ⟨_, _, _, rfl, ⟨by omega, by omega, by omega, by omega, by omega, by omega⟩, ?_⟩
        · rw [results_one rfl]; go_simp
        · exact ((((((T4.out.setNew h _ _ _ (by omega)).setNew h _ _ _ (by omega)).setNew h _ _ _ (by omega)).setNew h _ _ _ (Nat.le_refl _)).setNew h _ _ _ (Nat.le_refl _)).setNew h _ _ _ (Nat.le_refl _)).more (by omega)
end Go.Proofs.YtlbnllhabdnjjaaDoor
