/- What the model's Touch answers, for every bus and access: joined. -/
import Derived.Test.YtbkafdphagmgpaaSpecTchAll
namespace Go.Proofs.Ytbkafdphagmgpaa
open Go.RowKit
set_option linter.unusedVariables false

set_option maxRecDepth 100000 in
set_option maxHeartbeats 8000000 in
theorem specTouch_bad (w : World) (a b : Option Addr) (ca cb m : Nat) (xs ys : List Int) (k s q v : Int) (ha : IRow w a xs) (hb : IRow w b ys) (lx : xs.length ≤ 2000000) (ly : ys.length = 5 * m) (bm : m ≤ 2000000) (hno : Pl.tOk xs ys m k s q v = false) :
    Calls Try.prog 22 #[.agg #[.slice a xs.length ca, .slice b m cb], .int .i64 k, .int .i64 s, .int .i64 q, .int .i64 v] w fun e w' => e = .returned (.tuple #[.agg #[.slice none 0 0, .slice none 0 0], .int .i64 0, .int .i64 0, .bool false]) ∧ Kept 0 0 w w' := by
  have HA := hide ha
  have HB := hide hb
  have HY := hide ly
  have K0 := hide (kept_new (kept_alloc w (.cells #[.slice a xs.length ca, .slice b m cb] 25)) (.cells #[.slice none 0 0, .slice none 0 0] 25))
  have R0 := Blk.new (w.alloc (.cells #[.slice a xs.length ca, .slice b m cb] 25)) #[.slice none 0 0, .slice none 0 0] 25
  simp only [World.size_alloc] at R0
  have R1 := hide R0
  clear ha hb ly R0
  have H : Pl.goodBus xs ys m = false ∨ (Pl.goodBus xs ys m = true ∧ (decide (1 ≤ k) && decide (k ≤ 3)) = false) ∨ (Pl.goodBus xs ys m = true ∧ (decide (1 ≤ k) && decide (k ≤ 3)) = true ∧ Pl.okv s v = false) ∨ (Pl.goodBus xs ys m = true ∧ (decide (1 ≤ k) && decide (k ≤ 3)) = true ∧ Pl.okv s v = true ∧ Pl.addr q = false) ∨ (Pl.goodBus xs ys m = true ∧ (decide (1 ≤ k) && decide (k ≤ 3)) = true ∧ Pl.okv s v = true ∧ Pl.addr q = true ∧ (k != 2) = true ∧ (v != 0) = true) := by
    unfold Pl.tOk Pl.askOk Pl.accKind at hno
    cases h1 : Pl.goodBus xs ys m
    · exact .inl rfl
    · cases h2 : (decide (1 ≤ k) && decide (k ≤ 3))
      · exact .inr (.inl ⟨rfl, rfl⟩)
      · cases h3 : Pl.okv s v
        · exact .inr (.inr (.inl ⟨rfl, rfl, rfl⟩))
        · cases h4 : Pl.addr q
          · exact .inr (.inr (.inr (.inl ⟨rfl, rfl, rfl, rfl⟩)))
          · rw [h1, h2, h3, h4] at hno
            refine .inr (.inr (.inr (.inr ⟨rfl, rfl, rfl, rfl, ?_, ?_⟩)))
            · cases e : (k == 2)
              · simpa using e
              · rw [e] at hno; simp at hno
            · cases e : (v == 0)
              · simpa using e
              · rw [e] at hno; simp at hno
  clear hno
  rcases H with h1 | ⟨h1, e1⟩ | ⟨h1, e1, e2⟩ | ⟨h1, e1, e2, e3⟩ | ⟨h1, e1, e2, e3, e4, e5⟩
  all_goals
    go_enter Try.func22, Try.ntmps22
    go_wp2_with (first
      | (go_at_call 19; refine (specGoodBus _ a b ca cb m xs ys (HA.out.keptS K0.out) (HB.out.keptS K0.out) lx HY.out bm).mono ?_; rintro e w1 ⟨rfl, k1⟩; rw [h1]; have R2 := hide (R1.out.kept0 k1); have K1 := hide (K0.out.trans k1); have r0 := R2.out.cell (i := 0) rfl; have r1 := R2.out.cell (i := 1) rfl; have f0 := R2.out.frozen 0; have f1 := R2.out.frozen 1; clear k1)
      | (go_at_call 44; have z := e1; refine (l1In _ _ _ _).mono ?_; rintro e w9 ⟨rfl, hw⟩; have hw2 := hw.symm; clear hw; subst hw2; rw [e1])
      | (go_at_call 45; have z := e2; refine (l1Value _ _ _).mono ?_; rintro e w9 ⟨rfl, hw⟩; have hw2 := hw.symm; clear hw; subst hw2; rw [e2])
      | (go_at_call 46; have z := e3; refine (l4Addr _ _).mono ?_; rintro e w9 ⟨rfl, hw⟩; have hw2 := hw.symm; clear hw; subst hw2; rw [e3]))
    refine bodyPost_ret (v := .tuple #[.agg #[.slice none 0 0, .slice none 0 0], .int .i64 0, .int .i64 0, .bool false]) ?_ rfl ⟨rfl, ?_⟩
    · rw [results_cell_tmp3 rfl]; go_simp
    · first | exact K1.out | exact kept_set (kept_set K1.out _ _ _ (.inr (by omega))) _ _ _ (.inr (by omega))

theorem specTouch (w : World) (a b : Option Addr) (ca cb m : Nat) (xs ys : List Int) (k s q v : Int) (ha : IRow w a xs) (hb : IRow w b ys) (lx : xs.length ≤ 2000000) (ly : ys.length = 5 * m) (bm : m ≤ 2000000) :
    Calls Try.prog 22 #[.agg #[.slice a xs.length ca, .slice b m cb], .int .i64 k, .int .i64 s, .int .i64 q, .int .i64 v] w fun e w' => ∃ (b1 b2 : Option Addr) (c1 c2 : Nat), e = .returned (.tuple #[.agg #[.slice b1 (Pl.tB xs ys m k s q v).length c1, .slice b2 (Pl.tN xs ys m k s q v) c2], .int .i64 (Pl.tV xs ys m k s q v), .int .i64 (Pl.tC xs ys m k s q v), .bool (Pl.tOk xs ys m k s q v)]) ∧
      SlotIn w' w.heap.size w'.heap.size b1 (Pl.tB xs ys m k s q v) ∧ SlotIn w' w.heap.size w'.heap.size b2 (Pl.tL xs ys m k s q v) ∧ (∀ g, blk b1 = some g → blk b2 ≠ some g) ∧ Kept 0 0 w w' := by
  cases h : Pl.tOk xs ys m k s q v
  · refine (specTouch_bad w a b ca cb m xs ys k s q v ha hb lx ly bm h).mono ?_
    rintro e w' ⟨rfl, kk⟩
    refine ⟨none, none, 0, 0, ?_, .inl ⟨rfl, by simp [Pl.tB, h]⟩, .inl ⟨rfl, by simp [Pl.tL, h]⟩, by intro g hg; simp [blk] at hg, kk⟩
    simp [Pl.tB, Pl.tN, Pl.tV, Pl.tC, h]
  · have hg : Pl.goodBus xs ys m = true := by simp only [Pl.tOk, Bool.and_eq_true] at h; exact h.1
    have hk : Pl.askOk k s q v = true := by simp only [Pl.tOk, Bool.and_eq_true] at h; exact h.2
    have e1 : Pl.tB xs ys m k s q v = Pl.nb xs k s q v := by simp [Pl.tB, h]
    have e2 : Pl.tL xs ys m k s q v = Pl.nl xs ys m k s q v := by simp [Pl.tL, h]
    have e3 : Pl.tN xs ys m k s q v = Pl.nm m k s q := by simp [Pl.tN, h]
    have e4 : Pl.tC xs ys m k s q v = Pl.code k s q := by simp [Pl.tC, h]
    have e5 : Pl.tV xs ys m k s q v = if k = 2 then 0 else Pl.lv xs k s q v := by simp [Pl.tV, h]
    refine (specTouch_good w a b ca cb m xs ys k s q v ha hb lx ly bm hg hk (Pl.tV xs ys m k s q v) (hide e5)).mono ?_
    rintro e w' ⟨g1, d1, g2, c2, rfl, p1, p2, p3, p4, p5, p6, p7, kk⟩
    refine ⟨some ⟨g1, 0, none⟩, some ⟨g2, 0, none⟩, d1, c2, ?_, ?_, ?_, ?_, kk⟩
    · rw [e1, e3, e4, Pl.nb_len, (Pl.goodBus_ok hg).1]
    · rw [e1]; exact .inr ⟨g1, rfl, p3, p4, p1⟩
    · rw [e2]; exact .inr ⟨g2, rfl, p5, p6, p2⟩
    · intro g hg hh
      simp [blk] at hg hh
      omega
end Go.Proofs.Ytbkafdphagmgpaa
