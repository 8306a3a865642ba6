/- What the model's draws of instructions and words answer, from bytes that came in: numbers within their bounds; no block that was there has turned. What the models of chapter 7 answer for words: how long, of what parts, privileged. What the models of DecodeIns and EncodeIns answer, for every argument. What the laws' own functions over lists of Ins do (structs of 7 whole numbers, laid one behind the other): compare, copy, mark. A list of n is spoken of as the row of its 7 * n numbers. What the model of EncodeAll answers, for every list. Programs in words: plain arithmetic over lists; no Go text is spoken of here. What the model of DecodeAll answers, for every list. Instructions come back from their words, and words from their instructions: plain arithmetic. The contract of the library that writes a number, at this program: its table of numbers, and the contract. Numbers as texts, in bytes; no Go text is spoken of here but the conversion of one byte. An instruction whose fields fit into its words: plain arithmetic; no Go text is spoken of here. What the program's test of a value of a size answers: one contract a function; none changes the world. What the program's tests of words, sizes and register numbers answer; none changes the world. The ways to name an operand, as the program holds them: one type a way; the operand that each comes back as. A region that draws its order, by what holds whatever has come up so far: every order at once. A frame of which some slots alone are written: for a drawn region walked by what holds, the frame a variable. The region of the program's GoodOperand, drawn and guarded: every way to name an operand, every order at once. What the program's GoodOperand answers, for every argument. -/
import Derived.Test.YtndphgidmlmkoaaDoorPG4
import Derived.Test.YtndphgidmlmkoaaDoorPG3
import Derived.Deep.AppendLies
import Derived.StillTailTactics
import Derived.Test.YtndphgidmlmkoaaDoorPG1
import Derived.Test.YtndphgidmlmkoaaDoorProg
import Derived.Shelf.Strconv.Itoa0
import Derived.Shelf.Strconv.Itoa1
import Derived.Shelf.LaysM
import Derived.Shelf.Strconv.Itoa2
import Derived.Shelf.Strconv.Itoa3
import Derived.Laws.IdiomStrings
import Derived.Laws.Concat
import Derived.RegionTactic
import Derived.BigQuiet
import Derived.Deep.QuietTactic
namespace Go.Proofs.YtndphgidmlmkoaaDoor
open Go.RowKit
set_option linter.unusedVariables false
theorem insW {w W : World} {b : Nat} {a : Option Addr} {len cap : Nat} {p k : Int} (h : Went w W b a len cap p k) (p0 : 0 ≤ p) (p1 : p + k ≤ 600000) :
    Calls Tryd.prog 34 #[.pointer (some ⟨b, 0, none⟩)] W fun e' w' => ∃ X : Pl.In, e' = .returned (.agg #[.int .i64 X.op, .int .i64 X.z, .int .i64 X.r, .int .i64 X.m, .int .i64 X.k, .int .i64 X.e, .int .i64 X.s]) ∧ SmallI X ∧ Went w w' b a len cap p (k + 700) ∧ W.grownBy w' (some b) := by
  obtain ⟨h1, q, h2, h3, h4⟩ := h
  refine (insDraw W b a len cap q h4 (by omega) (by omega)).mono ?_
  rintro e' w' ⟨X, he, hs, hw⟩
  exact ⟨X, he, hs, Went.step h1 h2 h3 hw, hw.1⟩
set_option maxRecDepth 100000 in
set_option maxHeartbeats 8000000 in
theorem anyIns (w : World) (b : Nat) (a : Option Addr) (len cap : Nat) (p : Int) (h : Cur w b a len cap p) (p0 : 0 ≤ p) (p1 : p ≤ 500000) :
    Calls Tryd.prog 35 #[.pointer (some ⟨b, 0, none⟩)] w fun e' w' => ∃ X : Pl.In, e' = .returned (.agg #[.int .i64 X.op, .int .i64 X.z, .int .i64 X.r, .int .i64 X.m, .int .i64 X.k, .int .i64 X.e, .int .i64 X.s]) ∧ SmallI X ∧ Went w w' b a len cap p 800 := by
  have hlt := h.lt
  have R0 := hide (Blk.new w #[.int .i64 0, .int .i64 0, .int .i64 0, .int .i64 0, .int .i64 0, .int .i64 0, .int .i64 0] 36)
  have T0 := hide ((Went.refl h).allocW (.cells #[.int .i64 0, .int .i64 0, .int .i64 0, .int .i64 0, .int .i64 0, .int .i64 0, .int .i64 0] 36))
  go_enter Tryd.func35, Tryd.ntmps35
  go_wp2_with fail
  refine (insW T0.out p0 (by omega)).mono ?_
  rintro e9 w1 ⟨X, rfl, sx, t9, g9⟩
  have s1 := g9.size
  simp only [World.size_alloc] at s1
  have T1 := hide (t9.allocW (.cells #[.int .i64 X.op, .int .i64 X.z, .int .i64 X.r, .int .i64 X.m, .int .i64 X.k, .int .i64 X.e, .int .i64 X.s] 36))
  have R1 := hide ((R0.out.by2 g9 (by simp; omega)).alloc (.cells #[.int .i64 X.op, .int .i64 X.z, .int .i64 X.r, .int .i64 X.m, .int .i64 X.k, .int .i64 X.e, .int .i64 X.s] 36))
  have B1 := hide (Blk.new w1 #[.int .i64 X.op, .int .i64 X.z, .int .i64 X.r, .int .i64 X.m, .int .i64 X.k, .int .i64 X.e, .int .i64 X.s] 36)
  clear t9 g9 T0 R0
  go_wp2_with fail
  refine (oneW T1.out p0 (by omega) 20 (by omega) (by omega)).mono ?_
  rintro e9 v1 ⟨on, rfl, t9, g9⟩
  have T2 := hide t9
  have R2 := hide (R1.out.by2 g9 (by simp; omega))
  have B2 := hide (B1.out.by2 g9 (by simp; omega))
  clear t9 g9
  have l1 := B2.out.lt
  have l2 := R2.out.lt
  cases on
  · have y0 := B2.out.cell (i := 0) rfl
    have y1 := B2.out.cell (i := 1) rfl
    have y2 := B2.out.cell (i := 2) rfl
    have y3 := B2.out.cell (i := 3) rfl
    have y4 := B2.out.cell (i := 4) rfl
    have y5 := B2.out.cell (i := 5) rfl
    have y6 := B2.out.cell (i := 6) rfl
    have fy0 := B2.out.frozen 0
    have fy1 := B2.out.frozen 1
    have fy2 := B2.out.frozen 2
    have fy3 := B2.out.frozen 3
    have fy4 := B2.out.frozen 4
    have fy5 := B2.out.frozen 5
    have fy6 := B2.out.frozen 6
    have z0 := R2.out.cell (i := 0) rfl
    have z1 := R2.out.cell (i := 1) rfl
    have z2 := R2.out.cell (i := 2) rfl
    have z3 := R2.out.cell (i := 3) rfl
    have z4 := R2.out.cell (i := 4) rfl
    have z5 := R2.out.cell (i := 5) rfl
    have z6 := R2.out.cell (i := 6) rfl
    have fz0 := R2.out.frozen 0
    have fz1 := R2.out.frozen 1
    have fz2 := R2.out.frozen 2
    have fz3 := R2.out.frozen 3
    have fz4 := R2.out.frozen 4
    have fz5 := R2.out.frozen 5
    have fz6 := R2.out.frozen 6
    go_wp2_with fail
    refine bodyPost_ret (v := .agg #[.int .i64 X.op, .int .i64 X.z, .int .i64 X.r, .int .i64 X.m, .int .i64 X.k, .int .i64 X.e, .int .i64 X.s]) ?_ rfl ⟨X, rfl, sx, ?_⟩
    · rw [results_one rfl]; go_simp
    · exact ((((((((T2.out.setNew h w.heap.size _ _ (Nat.le_refl _)).setNew h w.heap.size _ _ (Nat.le_refl _)).setNew h w.heap.size _ _ (Nat.le_refl _)).setNew h w.heap.size _ _ (Nat.le_refl _)).setNew h w.heap.size _ _ (Nat.le_refl _)).setNew h w.heap.size _ _ (Nat.le_refl _)).setNew h w.heap.size _ _ (Nat.le_refl _))).more (by omega)
  · go_wp2_with fail
    refine (pickW T2.out p0 (by omega) 22 (by omega) (by omega)).mono ?_
    rintro e9 v2 ⟨q1, rfl, q10, q11, t9, g9⟩
    have T3 := hide t9
    have R3 := hide (R2.out.by2 g9 (by simp; omega))
    have B3 := hide (B2.out.by2 g9 (by simp; omega))
    clear t9 g9
    go_wp2_with fail
    refine (pickW T3.out p0 (by omega) 4 (by omega) (by omega)).mono ?_
    rintro e9 v3 ⟨q2, rfl, q20, q21, t9, g9⟩
    have T4 := hide t9
    have R4 := hide (R3.out.by2 g9 (by simp; omega))
    have B4 := hide (B3.out.by2 g9 (by simp; omega))
    clear t9 g9
    go_wp2_with fail
    refine (pickW T4.out p0 (by omega) 5 (by omega) (by omega)).mono ?_
    rintro e9 v4 ⟨q3, rfl, q30, q31, t9, g9⟩
    have T5 := hide t9
    have R5 := hide (R4.out.by2 g9 (by simp; omega))
    have B5 := hide (B4.out.by2 g9 (by simp; omega))
    clear t9 g9
    go_wp2_with fail
    refine (operandW T5.out p0 (by omega)).mono ?_
    rintro e9 v5 ⟨q4, q5, q6, rfl, so, t9, g9⟩
    have T6 := hide t9
    have R6 := hide (R5.out.by2 g9 (by simp; omega))
    have B6 := hide (B5.out.by2 g9 (by simp; omega))
    clear t9 g9
    go_wp2_with fail
    refine (pickW T6.out p0 (by omega) 9 (by omega) (by omega)).mono ?_
    rintro e9 v6 ⟨q7, rfl, q70, q71, t9, g9⟩
    have T7 := hide t9
    have R7 := hide (R6.out.by2 g9 (by simp; omega))
    have B7 := hide (B6.out.by2 g9 (by simp; omega))
    clear t9 g9
    obtain ⟨m0, m1, k0, k1, e0, e1⟩ := so
    have l3 := B7.out.lt
    have l4 := R7.out.lt
    have y0 := B7.out.cell (i := 0) rfl
    have y1 := B7.out.cell (i := 1) rfl
    have y2 := B7.out.cell (i := 2) rfl
    have y3 := B7.out.cell (i := 3) rfl
    have y4 := B7.out.cell (i := 4) rfl
    have y5 := B7.out.cell (i := 5) rfl
    have y6 := B7.out.cell (i := 6) rfl
    have fy0 := B7.out.frozen 0
    have fy1 := B7.out.frozen 1
    have fy2 := B7.out.frozen 2
    have fy3 := B7.out.frozen 3
    have fy4 := B7.out.frozen 4
    have fy5 := B7.out.frozen 5
    have fy6 := B7.out.frozen 6
    have z0 := R7.out.cell (i := 0) rfl
    have z1 := R7.out.cell (i := 1) rfl
    have z2 := R7.out.cell (i := 2) rfl
    have z3 := R7.out.cell (i := 3) rfl
    have z4 := R7.out.cell (i := 4) rfl
    have z5 := R7.out.cell (i := 5) rfl
    have z6 := R7.out.cell (i := 6) rfl
    have fz0 := R7.out.frozen 0
    have fz1 := R7.out.frozen 1
    have fz2 := R7.out.frozen 2
    have fz3 := R7.out.frozen 3
    have fz4 := R7.out.frozen 4
    have fz5 := R7.out.frozen 5
    have fz6 := R7.out.frozen 6
    go_wp2_with fail
    refine bodyPost_ret (v := .agg #[.int .i64 q1, .int .i64 q2, .int .i64 q3, .int .i64 q4, .int .i64 q5, .int .i64 q6, .int .i64 q7]) ?_ rfl ⟨⟨q1, q2, q3, q4, q5, q6, q7⟩, rfl, (by refine ⟨?_, ?_, ?_, ?_, ?_, ?_, ?_, ?_, ?_, ?_, ?_, ?_, ?_, ?_⟩ <;> simp only <;> omega), ?_⟩
    · rw [results_one rfl]; go_simp
    · exact (((((((((((((((T7.out.setNew h w1.heap.size _ _ (by omega)).setNew h w1.heap.size _ _ (by omega)).setNew h w1.heap.size _ _ (by omega)).setNew h w1.heap.size _ _ (by omega)).setNew h w1.heap.size _ _ (by omega)).setNew h w1.heap.size _ _ (by omega)).setNew h w1.heap.size _ _ (by omega)).setNew h w.heap.size _ _ (Nat.le_refl _)).setNew h w.heap.size _ _ (Nat.le_refl _)).setNew h w.heap.size _ _ (Nat.le_refl _)).setNew h w.heap.size _ _ (Nat.le_refl _)).setNew h w.heap.size _ _ (Nat.le_refl _)).setNew h w.heap.size _ _ (Nat.le_refl _)).setNew h w.heap.size _ _ (Nat.le_refl _))).more (by omega)
theorem drawGoodIns (w : World) (a : Option Addr) (len cap : Nat) (h : Bytes w a len) :
    Calls Tryd.prog 29 #[.slice a len cap] w fun e w' => ∃ X : Pl.In, e = .returned (.agg #[.int .i64 X.op, .int .i64 X.z, .int .i64 X.r, .int .i64 X.m, .int .i64 X.k, .int .i64 X.e, .int .i64 X.s]) ∧ SmallI X ∧ Below w.heap.size w w' := by
  have R0 := hide (Blk.new w #[.int .i64 0, .int .i64 0, .int .i64 0, .int .i64 0, .int .i64 0, .int .i64 0, .int .i64 0] 36)
  have hb := h.kept (kept_alloc w (.cells #[.int .i64 0, .int .i64 0, .int .i64 0, .int .i64 0, .int .i64 0, .int .i64 0, .int .i64 0] 36)).below
  go_enter Tryd.func29, Tryd.ntmps29
  go_wp2_with fail
  refine (anyIns _ _ a len cap 0 (by simpa using hb.cur cap) (by omega) (by omega)).mono ?_
  rintro e w2 ⟨X, rfl, sx, hg2, q2, q20, q21, hc2⟩
  have R2 := hide ((R0.out.alloc (.cells #[.slice a len cap, .int .i64 0, .int .u64 0] 46)).by2 hg2 (by simp))
  have l2 := R2.out.lt
  have z0 := R2.out.cell (i := 0) rfl
  have z1 := R2.out.cell (i := 1) rfl
  have z2 := R2.out.cell (i := 2) rfl
  have z3 := R2.out.cell (i := 3) rfl
  have z4 := R2.out.cell (i := 4) rfl
  have z5 := R2.out.cell (i := 5) rfl
  have z6 := R2.out.cell (i := 6) rfl
  have f0 := R2.out.frozen 0
  have f1 := R2.out.frozen 1
  have f2 := R2.out.frozen 2
  have f3 := R2.out.frozen 3
  have f4 := R2.out.frozen 4
  have f5 := R2.out.frozen 5
  have f6 := R2.out.frozen 6
  have K2 : Hid (Kept 0 0 w w2) := hide (by
    refine kept_over (kept_new (kept_alloc w (.cells #[.int .i64 0, .int .i64 0, .int .i64 0, .int .i64 0, .int .i64 0, .int .i64 0, .int .i64 0] 36)) (.cells #[.slice a len cap, .int .i64 0, .int .u64 0] 46)) (kept_row (lo := w.heap.size + 1) (hi := w.heap.size + 1 + 1) hg2 ?_) (by omega)
    intro g hg
    have q : w.heap.size + 1 = g := Option.some.inj hg
    omega)
  clear hg2
  go_wp2_with fail
  refine bodyPost_ret (v := .agg #[.int .i64 X.op, .int .i64 X.z, .int .i64 X.r, .int .i64 X.m, .int .i64 X.k, .int .i64 X.e, .int .i64 X.s]) ?_ rfl ⟨X, rfl, sx, ?_⟩
  · rw [results_one rfl]; go_simp
  · exact (kept_set (kept_set (kept_set (kept_set (kept_set (kept_set (kept_set K2.out _ _ _ (.inr (Nat.le_refl _))) _ _ _ (.inr (Nat.le_refl _))) _ _ _ (.inr (Nat.le_refl _))) _ _ _ (.inr (Nat.le_refl _))) _ _ _ (.inr (Nat.le_refl _))) _ _ _ (.inr (Nat.le_refl _))) _ _ _ (.inr (Nat.le_refl _))).below
theorem drawTextOf (w : World) (a : Option Addr) (len cap : Nat) (h : Bytes w a len) :
    Calls Tryd.prog 12 #[.slice a len cap] w fun e w' => ∃ X : Pl.In, e = .returned (.agg #[.int .i64 X.op, .int .i64 X.z, .int .i64 X.r, .int .i64 X.m, .int .i64 X.k, .int .i64 X.e, .int .i64 X.s]) ∧ SmallI X ∧ Below w.heap.size w w' := by
  have R0 := hide (Blk.new w #[.int .i64 0, .int .i64 0, .int .i64 0, .int .i64 0, .int .i64 0, .int .i64 0, .int .i64 0] 36)
  have K0 := hide (kept_alloc w (.cells #[.int .i64 0, .int .i64 0, .int .i64 0, .int .i64 0, .int .i64 0, .int .i64 0, .int .i64 0] 36))
  have hb := h.kept K0.out.below
  go_enter Tryd.func12, Tryd.ntmps12
  go_wp2_with fail
  refine (drawGoodIns _ a len cap hb).mono ?_
  rintro e w2 ⟨X, rfl, sx, hg2⟩
  have R2 := hide (R0.out.kept0 (kept_below hg2))
  have l2 := R2.out.lt
  have z0 := R2.out.cell (i := 0) rfl
  have f0 := R2.out.frozen 0
  have z1 := R2.out.cell (i := 1) rfl
  have f1 := R2.out.frozen 1
  have z2 := R2.out.cell (i := 2) rfl
  have f2 := R2.out.frozen 2
  have z3 := R2.out.cell (i := 3) rfl
  have f3 := R2.out.frozen 3
  have z4 := R2.out.cell (i := 4) rfl
  have f4 := R2.out.frozen 4
  have z5 := R2.out.cell (i := 5) rfl
  have f5 := R2.out.frozen 5
  have z6 := R2.out.cell (i := 6) rfl
  have f6 := R2.out.frozen 6
  have K2 := hide (K0.out.trans (kept_below hg2))
  clear hg2
  go_wp2_with fail
  refine bodyPost_ret (v := .agg #[.int .i64 X.op, .int .i64 X.z, .int .i64 X.r, .int .i64 X.m, .int .i64 X.k, .int .i64 X.e, .int .i64 X.s]) ?_ rfl ⟨X, rfl, sx, ?_⟩
  · rw [results_one rfl]; go_simp
  · exact (kept_set (kept_set (kept_set (kept_set (kept_set (kept_set (kept_set K2.out _ _ _ (.inr (Nat.le_refl _))) _ _ _ (.inr (Nat.le_refl _))) _ _ _ (.inr (Nat.le_refl _))) _ _ _ (.inr (Nat.le_refl _))) _ _ _ (.inr (Nat.le_refl _))) _ _ _ (.inr (Nat.le_refl _))) _ _ _ (.inr (Nat.le_refl _))).below
end Go.Proofs.YtndphgidmlmkoaaDoor

namespace Go.Proofs.YtndphgidmlmkoaaDoor
open Go.RowKit
set_option linter.unusedVariables false
set_option linter.unusedSimpArgs false
theorem specLong (n : Int) (w : World) (h0 : 0 ≤ n) (h1 : n ≤ 65535) : Calls Tryd.prog 27 #[iv n] w fun e' w' => e' = .returned (iv (Pl.longW n)) ∧ w' = w := by
  have hA := Pl.and7 (n / 32)
  cases hE : Pl.extM (n / 32 % 8)
  all_goals
    go_enter Tryd.func27, Tryd.ntmps27
    go_wp2_with (first | (go_at_call 49; refine (specExtM _ _).mono ?_; rintro e9 w' ⟨rfl, hw⟩; have hw2 := hw.symm; clear hw; subst hw2; rw [hE]))
    go_ret
    exact ⟨rI (by simp [Pl.longW, hE]), rfl⟩
theorem wordIn {n : Int} (h : Pl.wordOk n = true) : 0 ≤ n ∧ n ≤ 65535 := by simpa [Pl.wordOk, Pl.within] using h
theorem specPriv (w : World) (op z r m k e s : Int) : Calls Tryd.prog 33 #[.agg (inA op z r m k e s)] w fun e' w' => e' = .returned (.bool (Pl.priv ⟨op, z, r, m, k, e, s⟩)) ∧ Kept 0 0 w w' := by
  have K0 := hide (kept_alloc w (.cells (inA op z r m k e s) 36))
  cases q1 : (op == 15) <;> cases q2 : (s == 1) <;> cases q3 : (s == 3) <;> cases q4 : (op == 19) <;> cases q5 : (s == 0)
  all_goals
    go_enter Tryd.func33, Tryd.ntmps33
    go_wp2_with fail
    go_ret
    exact ⟨rB (by simp only [Pl.priv, q1, q2, q3, q4, q5]; rfl), K0.out⟩
theorem specIsPriv (w : World) (op z r m k e s : Int) : Calls Tryd.prog 16 #[.agg (inA op z r m k e s)] w fun e' w' => e' = .returned (.tuple #[.bool (Pl.inOk ⟨op, z, r, m, k, e, s⟩ && Pl.priv ⟨op, z, r, m, k, e, s⟩), .bool (Pl.inOk ⟨op, z, r, m, k, e, s⟩)]) ∧ Kept 0 0 w w' := by
  have K0 := hide (kept_alloc w (.cells (inA op z r m k e s) 36))
  have B0 := hide (Blk.new w (inA op z r m k e s) 36)
  cases h : Pl.inOk ⟨op, z, r, m, k, e, s⟩
  all_goals
    go_enter Tryd.func16, Tryd.ntmps16
    go_wp2_with (first | (go_at_call 20; refine (specGoodIns _ op z r m k e s).mono ?_; rintro e9 w2 ⟨rfl, k2⟩; rw [h]; have B2 := hide (B0.out.kept0 k2); have K2 := hide (K0.out.trans k2); have c0 := B2.out.cell (i := 0) rfl; have c1 := B2.out.cell (i := 1) rfl; have c2 := B2.out.cell (i := 2) rfl; have c3 := B2.out.cell (i := 3) rfl; have c4 := B2.out.cell (i := 4) rfl; have c5 := B2.out.cell (i := 5) rfl; have c6 := B2.out.cell (i := 6) rfl; clear k2) | (go_at_call 33; refine (specPriv _ op z r m k e s).mono ?_; rintro e9 w3 ⟨rfl, k3⟩; have K3 := hide (K2.out.trans k3); clear k3))
    go_ret2
    exact ⟨by simp, by first | exact K3.out | exact K2.out⟩
set_option maxHeartbeats 1000000 in
theorem specDecode (w : World) (n v : Int) (h0 : 0 ≤ n) (h1 : n ≤ 65535) : Calls Tryd.prog 53 #[iv n, iv v] w fun e' w' => e' = .returned (.agg #[iv (Pl.decode n v).op, iv (Pl.decode n v).z, iv (Pl.decode n v).r, iv (Pl.decode n v).m, iv (Pl.decode n v).k, iv (Pl.decode n v).e, iv (Pl.decode n v).s]) ∧ Kept 0 0 w w' := by
  have A1 := Pl.and1 (n / 1024)
  have A2 := Pl.and3 (n / 256)
  have A3 := Pl.and7 (n / 32)
  have A4 := Pl.and3 (n / 8)
  have A5 := Pl.and7 n
  by_cases hL : Pl.longW n = 2
  · have E : Hid (Pl.decode n v = ⟨n / 2048, n / 1024 % 2 + 1, n / 256 % 4, n / 32 % 8, n / 8 % 4, v, n % 8⟩) := hide (by simp [Pl.decode, hL])
    go_enter Tryd.func53, Tryd.ntmps53
    go_wp2_with (first | (go_at_call 27; refine (specLong _ _ h0 h1).mono ?_; rintro e9 w' ⟨rfl, hw⟩; have hw2 := hw.symm; clear hw; subst hw2; rw [hL]))
    refine bodyPost_ret (v := .agg (inA (n / 2048) (n / 1024 % 2 + 1) (n / 256 % 4) (n / 32 % 8) (n / 8 % 4) v (n % 8))) ?_ rfl ⟨by rw [E.out], ?_⟩
    · rw [results_one rfl]; go_simp
    · repeat' (first | exact Kept.refl _ _ _ | refine kept_new ?_ _ | refine kept_set ?_ _ _ _ (.inr (by omega)))
  · have E : Hid (Pl.decode n v = ⟨n / 2048, n / 1024 % 2 + 1, n / 256 % 4, n / 32 % 8, n / 8 % 4, 0, n % 8⟩) := hide (by simp [Pl.decode, hL])
    have hL2 : Pl.longW n = 1 := by unfold Pl.longW at hL ⊢; split at hL <;> simp_all
    go_enter Tryd.func53, Tryd.ntmps53
    go_wp2_with (first | (go_at_call 27; refine (specLong _ _ h0 h1).mono ?_; rintro e9 w' ⟨rfl, hw⟩; have hw2 := hw.symm; clear hw; subst hw2; rw [hL2]))
    refine bodyPost_ret (v := .agg (inA (n / 2048) (n / 1024 % 2 + 1) (n / 256 % 4) (n / 32 % 8) (n / 8 % 4) 0 (n % 8))) ?_ rfl ⟨by rw [E.out], ?_⟩
    · rw [results_one rfl]; go_simp
    · repeat' (first | exact Kept.refl _ _ _ | refine kept_new ?_ _ | refine kept_set ?_ _ _ _ (.inr (by omega)))
end Go.Proofs.YtndphgidmlmkoaaDoor

namespace Go.Proofs.YtndphgidmlmkoaaDoor
open Go.RowKit
set_option linter.unusedVariables false
set_option linter.unusedSimpArgs false
set_option maxRecDepth 20000 in
set_option maxHeartbeats 4000000 in
theorem specDecodeIns (w : World) (n v : Int) : Calls Tryd.prog 28 #[.int .i64 n, .int .i64 v] w fun e' w' => e' = .returned (.tuple #[.agg #[.int .i64 (Pl.dec n v).op, .int .i64 (Pl.dec n v).z, .int .i64 (Pl.dec n v).r, .int .i64 (Pl.dec n v).m, .int .i64 (Pl.dec n v).k, .int .i64 (Pl.dec n v).e, .int .i64 (Pl.dec n v).s], .int .i64 (Pl.decN n v), .bool (Pl.decOk n v)]) ∧ Kept 0 0 w w' := by
  have K0 := hide (kept_alloc w (.cells #[.int .i64 0, .int .i64 0, .int .i64 0, .int .i64 0, .int .i64 0, .int .i64 0, .int .i64 0] 36))
  have R0 := hide (Blk.new w #[.int .i64 0, .int .i64 0, .int .i64 0, .int .i64 0, .int .i64 0, .int .i64 0, .int .i64 0] 36)
  cases h1 : Pl.wordOk n
  · have G : Hid (Pl.decOk n v = false) := hide (by simp only [Pl.decOk, h1]; rfl)
    go_enter Tryd.func28, Tryd.ntmps28
    go_wp2_with (first | (go_at_call 26; refine (specWord n _).mono ?_; rintro e9 w' ⟨rfl, hw⟩; have hw2 := hw.symm; clear hw; subst hw2; rw [h1]; have Z1 : True := trivial))
    refine bodyPost_ret (v := .tuple #[.agg #[.int .i64 0, .int .i64 0, .int .i64 0, .int .i64 0, .int .i64 0, .int .i64 0, .int .i64 0], .int .i64 0, .bool false]) ?_ rfl ⟨by simp [Pl.dec, Pl.decN, G.out, Pl.inNo], ?_⟩
    · rw [results_ct2 rfl]; go_simp
    · exact K0.out
  · cases h2 : Pl.wordOk v
    · have G : Hid (Pl.decOk n v = false) := hide (by simp only [Pl.decOk, h1, h2]; rfl)
      go_enter Tryd.func28, Tryd.ntmps28
      go_wp2_with (first | (go_at_call 26; have z9 := Z1; refine (specWord v _).mono ?_; rintro e9 w' ⟨rfl, hw⟩; have hw2 := hw.symm; clear hw; subst hw2; rw [h2]) | (go_at_call 26; refine (specWord n _).mono ?_; rintro e9 w' ⟨rfl, hw⟩; have hw2 := hw.symm; clear hw; subst hw2; rw [h1]; have Z1 : True := trivial))
      refine bodyPost_ret (v := .tuple #[.agg #[.int .i64 0, .int .i64 0, .int .i64 0, .int .i64 0, .int .i64 0, .int .i64 0, .int .i64 0], .int .i64 0, .bool false]) ?_ rfl ⟨by simp [Pl.dec, Pl.decN, G.out, Pl.inNo], ?_⟩
      · rw [results_ct2 rfl]; go_simp
      · exact K0.out
    · obtain ⟨x, hx⟩ : ∃ x, x = Pl.decode n v := ⟨_, rfl⟩
      have HX := hide hx
      clear hx
      cases h3 : Pl.inOk x
      · have G : Hid (Pl.decOk n v = false) := hide (by simp only [Pl.decOk, h1, h2, ← HX.out, h3]; rfl)
        go_enter Tryd.func28, Tryd.ntmps28
        go_wp2_with (first | (go_at_call 26; have z9 := Z1; refine (specWord v _).mono ?_; rintro e9 w' ⟨rfl, hw⟩; have hw2 := hw.symm; clear hw; subst hw2; rw [h2]) | (go_at_call 26; refine (specWord n _).mono ?_; rintro e9 w' ⟨rfl, hw⟩; have hw2 := hw.symm; clear hw; subst hw2; rw [h1]; have Z1 : True := trivial) | (go_at_call 53; refine (specDecode _ n v (wordIn h1).1 (wordIn h1).2).mono ?_; rintro e9 w2 ⟨rfl, k2⟩; rw [← HX.out]; have R2 := hide (R0.out.kept0 k2); have K2 := hide (K0.out.trans k2); have s2 := R2.out.lt; have y0 := R2.out.cell (i := 0) rfl; have fy0 := R2.out.frozen 0; have y1 := R2.out.cell (i := 1) rfl; have fy1 := R2.out.frozen 1; have y2 := R2.out.cell (i := 2) rfl; have fy2 := R2.out.frozen 2; have y3 := R2.out.cell (i := 3) rfl; have fy3 := R2.out.frozen 3; have y4 := R2.out.cell (i := 4) rfl; have fy4 := R2.out.frozen 4; have y5 := R2.out.cell (i := 5) rfl; have fy5 := R2.out.frozen 5; have y6 := R2.out.cell (i := 6) rfl; have fy6 := R2.out.frozen 6; clear k2) | (go_at_call 20; refine (specGoodIns _ x.op x.z x.r x.m x.k x.e x.s).mono ?_; rintro e9 w3 ⟨rfl, k3⟩; rw [show Pl.inOk ⟨x.op, x.z, x.r, x.m, x.k, x.e, x.s⟩ = Pl.inOk x from rfl, h3]; have R3 := hide ((R2.out.alloc _).kept0 k3); have X3 := hide ((Blk.new w2 #[.int .i64 x.op, .int .i64 x.z, .int .i64 x.r, .int .i64 x.m, .int .i64 x.k, .int .i64 x.e, .int .i64 x.s] 36).kept0 k3); have K3 := hide ((kept_new K2.out _).trans k3); have s3 := R3.out.lt; have q0 := R3.out.cell (i := 0) rfl; have fq0 := R3.out.frozen 0; have q1 := R3.out.cell (i := 1) rfl; have fq1 := R3.out.frozen 1; have q2 := R3.out.cell (i := 2) rfl; have fq2 := R3.out.frozen 2; have q3 := R3.out.cell (i := 3) rfl; have fq3 := R3.out.frozen 3; have q4 := R3.out.cell (i := 4) rfl; have fq4 := R3.out.frozen 4; have q5 := R3.out.cell (i := 5) rfl; have fq5 := R3.out.frozen 5; have q6 := R3.out.cell (i := 6) rfl; have fq6 := R3.out.frozen 6; have p0 := X3.out.cell (i := 0) rfl; have p1 := X3.out.cell (i := 1) rfl; have p2 := X3.out.cell (i := 2) rfl; have p3 := X3.out.cell (i := 3) rfl; have p4 := X3.out.cell (i := 4) rfl; have p5 := X3.out.cell (i := 5) rfl; have p6 := X3.out.cell (i := 6) rfl; clear k3))
        have s0 := R0.out.lt
        refine bodyPost_ret (v := .tuple #[.agg #[.int .i64 0, .int .i64 0, .int .i64 0, .int .i64 0, .int .i64 0, .int .i64 0, .int .i64 0], .int .i64 0, .bool false]) ?_ rfl ⟨by simp [Pl.dec, Pl.decN, G.out, Pl.inNo], ?_⟩
        · rw [results_ct2 rfl]; go_simp
        · exact (kept_set (kept_set (kept_set (kept_set (kept_set (kept_set (kept_set K3.out _ _ _ (.inr (by omega))) _ _ _ (.inr (by omega))) _ _ _ (.inr (by omega))) _ _ _ (.inr (by omega))) _ _ _ (.inr (by omega))) _ _ _ (.inr (by omega))) _ _ _ (.inr (by omega)))
      · have G : Hid (Pl.decOk n v = true) := hide (by simp only [Pl.decOk, h1, h2, ← HX.out, h3]; rfl)
        have EX : Hid (Pl.dec n v = x) := hide (by simp [Pl.dec, G.out, HX.out])
        have EN : Hid (Pl.decN n v = Pl.longW n) := hide (by simp [Pl.decN, G.out])
        go_enter Tryd.func28, Tryd.ntmps28
        go_wp2_with (first | (go_at_call 26; have z9 := Z1; refine (specWord v _).mono ?_; rintro e9 w' ⟨rfl, hw⟩; have hw2 := hw.symm; clear hw; subst hw2; rw [h2]) | (go_at_call 26; refine (specWord n _).mono ?_; rintro e9 w' ⟨rfl, hw⟩; have hw2 := hw.symm; clear hw; subst hw2; rw [h1]; have Z1 : True := trivial) | (go_at_call 53; refine (specDecode _ n v (wordIn h1).1 (wordIn h1).2).mono ?_; rintro e9 w2 ⟨rfl, k2⟩; rw [← HX.out]; have R2 := hide (R0.out.kept0 k2); have K2 := hide (K0.out.trans k2); have s2 := R2.out.lt; have y0 := R2.out.cell (i := 0) rfl; have fy0 := R2.out.frozen 0; have y1 := R2.out.cell (i := 1) rfl; have fy1 := R2.out.frozen 1; have y2 := R2.out.cell (i := 2) rfl; have fy2 := R2.out.frozen 2; have y3 := R2.out.cell (i := 3) rfl; have fy3 := R2.out.frozen 3; have y4 := R2.out.cell (i := 4) rfl; have fy4 := R2.out.frozen 4; have y5 := R2.out.cell (i := 5) rfl; have fy5 := R2.out.frozen 5; have y6 := R2.out.cell (i := 6) rfl; have fy6 := R2.out.frozen 6; clear k2) | (go_at_call 20; refine (specGoodIns _ x.op x.z x.r x.m x.k x.e x.s).mono ?_; rintro e9 w3 ⟨rfl, k3⟩; rw [show Pl.inOk ⟨x.op, x.z, x.r, x.m, x.k, x.e, x.s⟩ = Pl.inOk x from rfl, h3]; have R3 := hide ((R2.out.alloc _).kept0 k3); have X3 := hide ((Blk.new w2 #[.int .i64 x.op, .int .i64 x.z, .int .i64 x.r, .int .i64 x.m, .int .i64 x.k, .int .i64 x.e, .int .i64 x.s] 36).kept0 k3); have K3 := hide ((kept_new K2.out _).trans k3); have s3 := R3.out.lt; clear k3))
        have s0 := R0.out.lt
        refine wp_region_still_tail 3 (by kernel_rfl) (by kernel_rfl) ?_
        simp only [List.take_succ_cons, List.take_zero, List.drop_succ_cons, List.drop_zero]
        obtain ⟨Y, hY⟩ : ∃ Y : World, Y = { w3 with drawn := w3.drawn + 1 } := ⟨_, rfl⟩
        rw [← hY]
        have RY : Hid (Blk Y w.heap.size #[.int .i64 0, .int .i64 0, .int .i64 0, .int .i64 0, .int .i64 0, .int .i64 0, .int .i64 0] 36) := hide (by rw [hY]; exact R3.out)
        have XY : Hid (Blk Y w2.heap.size #[.int .i64 x.op, .int .i64 x.z, .int .i64 x.r, .int .i64 x.m, .int .i64 x.k, .int .i64 x.e, .int .i64 x.s] 36) := hide (by rw [hY]; exact X3.out)
        have KY : Hid (Kept 0 0 w Y) := hide (by rw [hY]; exact kept_drew K3.out)
        clear hY
        have q0 := RY.out.cell (i := 0) rfl
        have fq0 := RY.out.frozen 0
        have q1 := RY.out.cell (i := 1) rfl
        have fq1 := RY.out.frozen 1
        have q2 := RY.out.cell (i := 2) rfl
        have fq2 := RY.out.frozen 2
        have q3 := RY.out.cell (i := 3) rfl
        have fq3 := RY.out.frozen 3
        have q4 := RY.out.cell (i := 4) rfl
        have fq4 := RY.out.frozen 4
        have q5 := RY.out.cell (i := 5) rfl
        have fq5 := RY.out.frozen 5
        have q6 := RY.out.cell (i := 6) rfl
        have fq6 := RY.out.frozen 6
        have p0 := XY.out.cell (i := 0) rfl
        have p1 := XY.out.cell (i := 1) rfl
        have p2 := XY.out.cell (i := 2) rfl
        have p3 := XY.out.cell (i := 3) rfl
        have p4 := XY.out.cell (i := 4) rfl
        have p5 := XY.out.cell (i := 5) rfl
        have p6 := XY.out.cell (i := 6) rfl
        iterate 2 still_step
        still_call (specLong n _ (wordIn h1).1 (wordIn h1).2)
        refine wpStill_nil ?_
        go_wp2_with fail
        refine bodyPost_ret (v := .tuple #[.agg #[.int .i64 x.op, .int .i64 x.z, .int .i64 x.r, .int .i64 x.m, .int .i64 x.k, .int .i64 x.e, .int .i64 x.s], .int .i64 (Pl.longW n), .bool true]) ?_ rfl ⟨by rw [EX.out, EN.out, G.out], ?_⟩
        · rw [results_ct2 rfl]; go_simp
        · exact (kept_set (kept_set (kept_set (kept_set (kept_set (kept_set (kept_set KY.out _ _ _ (.inr (by omega))) _ _ _ (.inr (by omega))) _ _ _ (.inr (by omega))) _ _ _ (.inr (by omega))) _ _ _ (.inr (by omega))) _ _ _ (.inr (by omega))) _ _ _ (.inr (by omega)))
set_option maxRecDepth 100000 in
set_option maxHeartbeats 4000000 in
theorem specEncode (w : World) (op z r m k e s : Int) (h : Pl.inOk ⟨op, z, r, m, k, e, s⟩ = true) : Calls Tryd.prog 21 #[.agg #[.int .i64 op, .int .i64 z, .int .i64 r, .int .i64 m, .int .i64 k, .int .i64 e, .int .i64 s]] w fun e' w' => ∃ (g c : Nat), e' = .returned (.slice (some ⟨g, 0, none⟩) (Pl.encode ⟨op, z, r, m, k, e, s⟩).length c) ∧ w.heap.size ≤ g ∧ g < w'.heap.size ∧ Own w' g (Pl.encode ⟨op, z, r, m, k, e, s⟩) ∧ Kept 0 0 w w' := by
  obtain ⟨a1, a2, a3, a4, a5, a6, a7, a8, a9, b1, b2, b3, b4, b5⟩ := Pl.modeR h
  simp only at a1 a2 a3 a4 a5 a6 a7 a8 a9 b1 b2 b3 b4 b5
  obtain ⟨c1, c2⟩ : 1 ≤ z ∧ z ≤ 2 := by omega
  obtain ⟨o1, o2, o3, o4, o5⟩ := orWord (op := op) (z := z) (r := r) (m := m) (k := k) (s := s) (by omega) (by omega) c1 c2 a4 a5 a6 a7 a8 a9 b3 b4
  have V : Hid (Pl.word1 ⟨op, z, r, m, k, e, s⟩ = op * 2048 + (z - 1) * 1024 + r * 256 + m * 32 + k * 8 + s) := hide rfl
  obtain ⟨W, hW⟩ : ∃ W, W = op * 2048 + (z - 1) * 1024 + r * 256 + m * 32 + k * 8 + s := ⟨_, rfl⟩
  rw [← hW] at o5 V
  clear hW b5
  have HI := hide h
  clear h
  have K0 := hide (kept_new (kept_alloc w (.cells #[.int .i64 op, .int .i64 z, .int .i64 r, .int .i64 m, .int .i64 k, .int .i64 e, .int .i64 s] 36)) (.cells #[.int .i64 W] 3))
  have P0 := hide ((Blk.new w #[.int .i64 op, .int .i64 z, .int .i64 r, .int .i64 m, .int .i64 k, .int .i64 e, .int .i64 s] 36).alloc (.cells #[.int .i64 W] 3))
  have B0 := Blk.new (w.alloc (.cells #[.int .i64 op, .int .i64 z, .int .i64 r, .int .i64 m, .int .i64 k, .int .i64 e, .int .i64 s] 36)) #[.int .i64 W] 3
  simp only [World.size_alloc] at B0
  replace B0 := hide B0
  cases hE : Pl.extM m
  · have E : Hid (Pl.encode ⟨op, z, r, m, k, e, s⟩ = [W]) := hide (by simp [Pl.encode, hE, V.out])
    go_enter Tryd.func21, Tryd.ntmps21
    go_wp2_with (first | (go_at_call 49; refine (specExtM _ _).mono ?_; rintro e9 w' ⟨rfl, hw⟩; have hw2 := hw.symm; clear hw; subst hw2; rw [hE]))
    go_ret
    have l0 := B0.out.lt
    exact ⟨_, _, by rw [E.out]; rfl, by omega, l0, by rw [E.out]; exact own_of_blk (xs := [W]) B0.out, K0.out⟩
  · have E : Hid (Pl.encode ⟨op, z, r, m, k, e, s⟩ = [W, e]) := hide (by simp [Pl.encode, hE, V.out])
    obtain ⟨i, hi0, hz0, hz1, hz2⟩ := info_parts Tryd.info3
    have OW : Hid (World.ownsRow ((w.alloc (.cells #[.int .i64 op, .int .i64 z, .int .i64 r, .int .i64 m, .int .i64 k, .int .i64 e, .int .i64 s] 36)).alloc (.cells #[.int .i64 W] 3)) (w.heap.size + 1) 3 1 (.slice (some ⟨w.heap.size + 1, 0, none⟩) 1 1) 1 [.int .i64 W]) := hide ⟨by simp, .inr ⟨w.heap.size + 1, 1, #[.int .i64 W], rfl, Nat.le_refl _, B0.out, Nat.le_refl _, by unfold maxLen; omega, by simp, by simp⟩⟩
    go_enter Tryd.func21, Tryd.ntmps21
    have BN := Blk.new ((w.alloc (.cells #[.int .i64 op, .int .i64 z, .int .i64 r, .int .i64 m, .int .i64 k, .int .i64 e, .int .i64 s] 36)).alloc (.cells #[.int .i64 W] 3)) #[.int .i64 e] 3
    simp only [World.size_alloc] at BN
    replace BN := hide BN
    have H63 : Hid (1 + 1 ≤ maxLen) := hide (by unfold maxLen; omega)
    go_wp2_with (first | (go_at_call 49; refine (specExtM _ _).mono ?_; rintro e9 w' ⟨rfl, hw⟩; have hw2 := hw.symm; clear hw; subst hw2; rw [hE]) | (at_builtin; refine wpList_append_lies _ rfl (.tmp 34) (.tmp 38) 25 rfl (w.heap.size + 1) 3 i (.int .i64 0) 1 8 Tryd.underlying25 hi0 hz0 hz1 hz2 rfl (by decide) (.slice (some ⟨w.heap.size + 1, 0, none⟩) 1 1) 1 [.int .i64 W] rfl (OW.out.alloc _) ⟨w.heap.size + 1 + 1, 0, none⟩ 1 1 [.int .i64 e] rfl rfl (World.news_of_block (cs := #[.int .i64 e]) (t := 3) (fr := (0, 0)) BN.out) (by simp [Value.oneCell']) (by decide) H63.out (by decide) (by simp) (w.heap.size + 1 + 1 + 1) (by simp) ?_))
    intro g2 c2 w2 o2 k2 hg2 l2
    have kk := kept_row k2 (lo := w.heap.size + 1) (hi := w.heap.size + 1 + 1) (by intro j hj; have h5 : w.heap.size + 1 = j := Option.some.inj hj; omega)
    obtain ⟨p3, p4⟩ := o2.lt g2 rfl
    have K2 := hide (kept_over (kept_new K0.out (.cells #[.int .i64 e] 3)) kk (by omega))
    have PN : Hid (Own w2 g2 [W, e]) := hide (own_of_row (xs := [W, e]) o2)
    clear o2 k2 kk
    go_wp2_with fail
    go_ret
    exact ⟨g2, c2, by rw [E.out]; rfl, by omega, p4, by rw [E.out]; exact PN.out, K2.out⟩
end Go.Proofs.YtndphgidmlmkoaaDoor

namespace Go.Proofs.YtndphgidmlmkoaaDoor
open Go.RowKit
set_option linter.unusedVariables false

theorem IRow.at7 {w : World} {a : Option Addr} {xs : List Int} (h : IRow w a xs) {n k : Nat} (hl : xs.length = 7 * n) (hk : k < n) :
    ∃ g off : Nat, a = some ⟨g, off, none⟩ ∧ w.cell? ⟨g, off + k * 7, none⟩ = some (.int .i64 (el xs (k * 7))) ∧ w.cell? ⟨g, off + k * 7 + 1, none⟩ = some (.int .i64 (el xs (k * 7 + 1))) ∧ w.cell? ⟨g, off + k * 7 + 2, none⟩ = some (.int .i64 (el xs (k * 7 + 2))) ∧ w.cell? ⟨g, off + k * 7 + 3, none⟩ = some (.int .i64 (el xs (k * 7 + 3))) ∧ w.cell? ⟨g, off + k * 7 + 4, none⟩ = some (.int .i64 (el xs (k * 7 + 4))) ∧ w.cell? ⟨g, off + k * 7 + 5, none⟩ = some (.int .i64 (el xs (k * 7 + 5))) ∧ w.cell? ⟨g, off + k * 7 + 6, none⟩ = some (.int .i64 (el xs (k * 7 + 6))) := by
  obtain ⟨g, off, ea, c0⟩ := h (k * 7) (by omega)
  have pick : ∀ j, j < 7 → w.cell? ⟨g, off + k * 7 + j, none⟩ = some (.int .i64 (el xs (k * 7 + j))) := by
    intro j hj
    obtain ⟨g', off', ea', c⟩ := h (k * 7 + j) (by omega)
    rw [ea] at ea'
    cases ea'
    rw [Nat.add_assoc]; exact c
  exact ⟨g, off, ea, c0, pick 1 (by decide), pick 2 (by decide), pick 3 (by decide), pick 4 (by decide), pick 5 (by decide), pick 6 (by decide)⟩

theorem Own.at7 {w : World} {g : Nat} {xs : List Int} (h : Own w g xs) {n k : Nat} (hl : xs.length = 7 * n) (hk : k < n) :
    (w.cell? ⟨g, k * 7, none⟩ = some (.int .i64 (el xs (k * 7))) ∧ w.cell? ⟨g, k * 7 + 1, none⟩ = some (.int .i64 (el xs (k * 7 + 1))) ∧ w.cell? ⟨g, k * 7 + 2, none⟩ = some (.int .i64 (el xs (k * 7 + 2))) ∧ w.cell? ⟨g, k * 7 + 3, none⟩ = some (.int .i64 (el xs (k * 7 + 3))) ∧ w.cell? ⟨g, k * 7 + 4, none⟩ = some (.int .i64 (el xs (k * 7 + 4))) ∧ w.cell? ⟨g, k * 7 + 5, none⟩ = some (.int .i64 (el xs (k * 7 + 5))) ∧ w.cell? ⟨g, k * 7 + 6, none⟩ = some (.int .i64 (el xs (k * 7 + 6)))) ∧ w.frozen? ⟨g, k * 7, none⟩ = false ∧ w.frozen? ⟨g, k * 7 + 1, none⟩ = false ∧ w.frozen? ⟨g, k * 7 + 2, none⟩ = false ∧ w.frozen? ⟨g, k * 7 + 3, none⟩ = false ∧ w.frozen? ⟨g, k * 7 + 4, none⟩ = false ∧ w.frozen? ⟨g, k * 7 + 5, none⟩ = false ∧ w.frozen? ⟨g, k * 7 + 6, none⟩ = false :=
  ⟨⟨(h (k * 7) (by omega)).1, (h (k * 7 + 1) (by omega)).1, (h (k * 7 + 2) (by omega)).1, (h (k * 7 + 3) (by omega)).1, (h (k * 7 + 4) (by omega)).1, (h (k * 7 + 5) (by omega)).1, (h (k * 7 + 6) (by omega)).1⟩, (h (k * 7) (by omega)).2, (h (k * 7 + 1) (by omega)).2, (h (k * 7 + 2) (by omega)).2, (h (k * 7 + 3) (by omega)).2, (h (k * 7 + 4) (by omega)).2, (h (k * 7 + 5) (by omega)).2, (h (k * 7 + 6) (by omega)).2⟩

/-- 7 places of a row, written -/
def set7 (xs : List Int) (k : Nat) (a b c d e f x : Int) : List Int := (((((((xs.set (k * 7) a).set (k * 7 + 1) b).set (k * 7 + 2) c).set (k * 7 + 3) d).set (k * 7 + 4) e).set (k * 7 + 5) f).set (k * 7 + 6) x)
theorem Own.set7 {w : World} {g : Nat} {xs : List Int} (h : Own w g xs) (k : Nat) (a b c d e f x : Int) :
    Own (((((((w.setCell ⟨g, k * 7, none⟩ (.int .i64 a)).setCell ⟨g, k * 7 + 1, none⟩ (.int .i64 b)).setCell ⟨g, k * 7 + 2, none⟩ (.int .i64 c)).setCell ⟨g, k * 7 + 3, none⟩ (.int .i64 d)).setCell ⟨g, k * 7 + 4, none⟩ (.int .i64 e)).setCell ⟨g, k * 7 + 5, none⟩ (.int .i64 f)).setCell ⟨g, k * 7 + 6, none⟩ (.int .i64 x)) g (set7 xs k a b c d e f x) := (((((((h.set a).set b).set c).set d).set e).set f).set x)

theorem Tryd.infoIns : (Tryd.prog.info? 36).map (fun i => (i.zero, i.size, i.bytes)) = some (some (.agg #[.int .i64 0, .int .i64 0, .int .i64 0, .int .i64 0, .int .i64 0, .int .i64 0, .int .i64 0]), 7, 56) := by kernel_rfl
theorem own_of_row7 {w : World} {base g n cap : Nat} {xs : List Int} (h : w.ownsRow base 36 7 (.slice (some ⟨g, 0, none⟩) n cap) n (xs.map (Value.int .i64))) : Own w g xs := by
  intro i hi
  rcases h with ⟨hl, ⟨e, _⟩ | ⟨g', cap', cur, e, _, hgg, hn, _, hsz, ht⟩⟩
  · cases e
  · cases e
    simp at hl
    have hc : cur[i]? = some (.int .i64 (xs[i]?.getD 0)) := by
      have : (cur.toList.take (n * 7))[i]? = (xs.map (Value.int .i64))[i]? := by rw [ht]
      rw [List.getElem?_take, if_pos (by omega)] at this
      simpa [hi] using this
    refine ⟨?_, ?_⟩
    · simp [World.cell?, hgg, hc]
    · simp [World.frozen?, hgg]

end Go.Proofs.YtndphgidmlmkoaaDoor

namespace Go.Proofs.YtndphgidmlmkoaaDoor
open Go.RowKit
set_option linter.unusedVariables false
theorem slotIn_rowC {w : World} {base n : Nat} {v : Value} {xs : List Int} (h : w.ownsRow base 3 1 v n (xs.map (Value.int .i64))) : ∃ (b : Option Addr) (cb : Nat), v = .slice b n cb ∧ SlotIn w base w.heap.size b xs ∧ n ≤ cb := by
  have h9 := h
  rcases h with ⟨hl, ⟨rfl, e⟩ | ⟨g, cap, cur, e, hb, hgg, hn, _, hsz, ht⟩⟩
  · subst e
    exact ⟨none, 0, rfl, .inl ⟨rfl, by simpa using hl⟩, Nat.le_refl _⟩
  · subst e
    exact ⟨some ⟨g, 0, none⟩, cap, rfl, .inr ⟨g, rfl, (h9.lt g rfl).1, (h9.lt g rfl).2, own_of_row h9⟩, hn⟩
theorem undo {a b c : World} (h : Kept 0 0 a b) (k : Kept 0 0 b c) : Kept 0 0 a c := h.trans k
theorem news_own {w : World} {g : Nat} {xs : List Int} (h : Own w g xs) : ∀ j u, (xs.map (Value.int .i64))[j]? = some u → w.cell? ((⟨g, 0, none⟩ : Addr).add j) = some u := news_of h.row
set_option maxRecDepth 20000 in
set_option maxHeartbeats 4000000 in
theorem specEncodeAllC (w : World) (a : Option Addr) (ca n : Nat) (ys : List Int) (ha : IRow w a ys) (ly : ys.length = 7 * n) (bx : n ≤ 2000000) :
    Calls Tryd.prog 6 #[.slice a n ca] w fun e' w' => ∃ (b : Option Addr) (c : Nat), e' = .returned (.tuple #[.slice b (Pl.eaV ys n).length c, .bool (Pl.eaOk ys n)]) ∧ SlotIn w' w.heap.size w'.heap.size b (Pl.eaV ys n) ∧ Kept 0 0 w w' ∧ (Pl.eaV ys n).length ≤ c := by
  have HA := hide ha
  have HY := hide ly
  clear ha ly
  obtain ⟨i, hi0, hz0, hz1, hz2⟩ := info_parts Tryd.info3
  go_enter Tryd.func6, Tryd.ntmps6
  go_wp2_with fail
  go_loopw [4, 6, 9] (fun v _ j wr => ∃ k : Nat, k ≤ n ∧ j = .int .i64 k ∧ Pl.allIn ys k = true ∧ wr.ownsRow w.heap.size 3 1 v (Pl.encTo ys k).length ((Pl.encTo ys k).map (Value.int .i64)) ∧ Kept 0 0 w wr) (fun _ _ j _ => n - (intOf j).toNat)
  case atStart => exact ⟨0, Nat.zero_le _, rfl, rfl, World.ownsRow_nil _ _ _ _, Kept.refl _ _ _⟩
  case round =>
    obtain ⟨k, hk, rfl, hall, hown, hkept⟩ := hrel
    have HK := hide hkept
    have HO := hide hown
    have HL := hide hall
    have hel := Pl.encTo_len ys k
    have hel2 := Pl.encode_len (Pl.inAt ys k)
    clear hkept hown hall
    by_cases hlt : k < n
    · obtain ⟨g1, o1, rfl, p0, p1, p2, p3, p4, p5, p6⟩ := (HA.out.keptS HK.out).at7 HY.out hlt
      have B0 := hide (Blk.new wr #[.int .i64 (el ys (k * 7)), .int .i64 (el ys (k * 7 + 1)), .int .i64 (el ys (k * 7 + 2)), .int .i64 (el ys (k * 7 + 3)), .int .i64 (el ys (k * 7 + 4)), .int .i64 (el ys (k * 7 + 5)), .int .i64 (el ys (k * 7 + 6))] 36)
      cases hb : Pl.inOk (Pl.inAt ys k)
      · have E : Hid (Pl.eaOk ys n = false) := hide (by unfold Pl.eaOk; rw [Pl.allIn_no hlt hb]; rfl)
        go_wp2_with (first | (go_at_call 20; refine (specGoodIns _ (el ys (k * 7)) (el ys (k * 7 + 1)) (el ys (k * 7 + 2)) (el ys (k * 7 + 3)) (el ys (k * 7 + 4)) (el ys (k * 7 + 5)) (el ys (k * 7 + 6))).mono ?_; rintro e9 w2 ⟨rfl, k2⟩; rw [show Pl.inOk ⟨el ys (k * 7), el ys (k * 7 + 1), el ys (k * 7 + 2), el ys (k * 7 + 3), el ys (k * 7 + 4), el ys (k * 7 + 5), el ys (k * 7 + 6)⟩ = Pl.inOk (Pl.inAt ys k) from rfl, hb]; have B2 := hide (B0.out.kept0 k2); have K2 := hide ((kept_new HK.out _).trans k2); have k9 := hide (undo (kept_alloc wr _) k2); have c0 := B2.out.cell (i := 0) rfl; have c1 := B2.out.cell (i := 1) rfl; have c2 := B2.out.cell (i := 2) rfl; have c3 := B2.out.cell (i := 3) rfl; have c4 := B2.out.cell (i := 4) rfl; have c5 := B2.out.cell (i := 5) rfl; have c6 := B2.out.cell (i := 6) rfl; clear k2))
        go_ret2
        exact ⟨none, 0, by simp [Pl.eaV, E.out], .inl ⟨rfl, by simp [Pl.eaV, E.out]⟩, K2.out, by simp [Pl.eaV, E.out]⟩
      · obtain ⟨ZL, hZL⟩ : ∃ ZL, ZL = Pl.encode (Pl.inAt ys k) := ⟨_, rfl⟩
        go_wp2_with (first | (go_at_call 20; refine (specGoodIns _ (el ys (k * 7)) (el ys (k * 7 + 1)) (el ys (k * 7 + 2)) (el ys (k * 7 + 3)) (el ys (k * 7 + 4)) (el ys (k * 7 + 5)) (el ys (k * 7 + 6))).mono ?_; rintro e9 w2 ⟨rfl, k2⟩; rw [show Pl.inOk ⟨el ys (k * 7), el ys (k * 7 + 1), el ys (k * 7 + 2), el ys (k * 7 + 3), el ys (k * 7 + 4), el ys (k * 7 + 5), el ys (k * 7 + 6)⟩ = Pl.inOk (Pl.inAt ys k) from rfl, hb]; have B2 := hide (B0.out.kept0 k2); have K2 := hide ((kept_new HK.out _).trans k2); have k9 := hide (undo (kept_alloc wr _) k2); have c0 := B2.out.cell (i := 0) rfl; have c1 := B2.out.cell (i := 1) rfl; have c2 := B2.out.cell (i := 2) rfl; have c3 := B2.out.cell (i := 3) rfl; have c4 := B2.out.cell (i := 4) rfl; have c5 := B2.out.cell (i := 5) rfl; have c6 := B2.out.cell (i := 6) rfl; clear k2) | (go_at_call 21; refine (specEncode _ (el ys (k * 7)) (el ys (k * 7 + 1)) (el ys (k * 7 + 2)) (el ys (k * 7 + 3)) (el ys (k * 7 + 4)) (el ys (k * 7 + 5)) (el ys (k * 7 + 6)) hb).mono ?_; rintro e9 w3 ⟨g, c, rfl, hg1, hg2, hO, k3⟩; have K3 := hide (K2.out.trans k3); have OE := hide hO; have O3 := hide (HO.out.kept (k9.out.trans k3).grown (Classical.em _)); have s3 := K3.out.size; clear hg1 hg2 hO k3) | (at_builtin; refine wpList_append_own _ rfl _ _ 25 rfl w.heap.size 3 i (.int .i64 0) 1 8 Tryd.underlying25 hi0 hz0 hz1 hz2 rfl (by decide) _ _ _ rfl O3.out ⟨g, 0, none⟩ (Pl.encode (Pl.inAt ys k)).length c ((Pl.encode (Pl.inAt ys k)).map (Value.int .i64)) rfl ?c0 ?c1 ?c2 ?c3 ?c4 ?c5 ?_))
        case c0 => simp
        case c1 => exact news_own OE.out
        case c2 => exact news_one
        case c3 => unfold maxLen; omega
        case c4 => omega
        case c5 => omega
        intro v' w4 hown' hgr _
        have HO4 := hide hown'
        have K4 := hide (kept_over K3.out (kept_row (lo := w.heap.size) (hi := w3.heap.size) hgr (fun g hg => O3.out.lt g hg)) (Nat.le_refl _))
        clear hown' hgr
        go_wp2_with fail
        go_roundw
        case rel => exact ⟨k + 1, by omega, by go_num, by unfold Pl.allIn; rw [HL.out, hb]; rfl, by unfold Pl.encTo; rw [List.length_append, List.map_append]; exact HO4.out, K4.out⟩
        case measure => simp [intOf]; omega
    · obtain rfl : k = n := by omega
      cases h40 : decide ((40 : Int) < (k : Int))
      · have E : Hid (Pl.eaOk ys k = true) := hide (by unfold Pl.eaOk; rw [HL.out]; simp at h40; simp; omega)
        have EV : Hid (Pl.eaV ys k = Pl.encTo ys k) := hide (by simp [Pl.eaV, E.out])
        obtain ⟨b, cb, rfl, hS, hC⟩ := slotIn_rowC HO.out
        go_wp2_with fail
        go_ret2
        exact ⟨b, cb, by rw [EV.out, E.out]; rfl, by rw [EV.out]; exact hS, HK.out, by rw [EV.out]; exact hC⟩
      · have E : Hid (Pl.eaOk ys k = false) := hide (by unfold Pl.eaOk; rw [HL.out]; simp at h40; simp; omega)
        go_wp2_with fail
        go_ret2
        exact ⟨none, 0, by simp [Pl.eaV, E.out], .inl ⟨rfl, by simp [Pl.eaV, E.out]⟩, HK.out, by simp [Pl.eaV, E.out]⟩
theorem specEncodeAll (w : World) (a : Option Addr) (ca n : Nat) (ys : List Int) (ha : IRow w a ys) (ly : ys.length = 7 * n) (bx : n ≤ 2000000) :
    Calls Tryd.prog 6 #[.slice a n ca] w fun e' w' => ∃ (b : Option Addr) (c : Nat), e' = .returned (.tuple #[.slice b (Pl.eaV ys n).length c, .bool (Pl.eaOk ys n)]) ∧ SlotIn w' w.heap.size w'.heap.size b (Pl.eaV ys n) ∧ Kept 0 0 w w' := by
  refine (specEncodeAllC w a ca n ys ha ly bx).mono ?_
  rintro e w' ⟨b, c, h1, h2, h3, _⟩
  exact ⟨b, c, h1, h2, h3⟩
end Go.Proofs.YtndphgidmlmkoaaDoor

namespace Go.Proofs.YtndphgidmlmkoaaDoor.Pl
set_option linter.unusedVariables false
/-- the numbers of a list of instructions, seven an instruction -/
def flat : List In → List Int
  | [] => []
  | x :: t => x.op :: x.z :: x.r :: x.m :: x.k :: x.e :: x.s :: flat t
theorem flat_len (l : List In) : (flat l).length = 7 * l.length := by
  induction l with
  | nil => rfl
  | cons x t ih => simp only [flat, List.length_cons, ih]; omega
theorem flat_snoc (l : List In) (x : In) : flat (l ++ [x]) = flat l ++ [x.op, x.z, x.r, x.m, x.k, x.e, x.s] := by
  induction l with
  | nil => rfl
  | cons y t ih => simp only [List.cons_append, flat, ih]
/-- the instructions that a list of words is, if it is some -/
def da : List Int → Option (List In)
  | [] => some []
  | [w] => if wordOk w = true ∧ longW w = 1 ∧ decOk w 0 = true then some [decode w 0] else none
  | w :: v :: t =>
    if wordOk w = true then
      if longW w = 2 then (if decOk w v = true then (da t).map (decode w v :: ·) else none)
      else (if decOk w 0 = true then (da (v :: t)).map (decode w 0 :: ·) else none)
    else none
def daOk (l : List Int) : Bool := decide ((l.length : Int) ≤ 80) && (da l).isSome
def daV (l : List Int) : List In := if daOk l = true then (da l).getD [] else []
theorem long_or (w : Int) : longW w = 1 ∨ longW w = 2 := by unfold longW; split <;> simp
theorem drop_at {l : List Int} {i : Nat} (h : i < l.length) : l.drop i = el l i :: l.drop (i + 1) := by
  rw [List.drop_eq_getElem_cons h]
  simp [el, List.getElem?_eq_getElem h]
/-- how far one has come: what the list is, is what stands already and what the rest is -/
def daFrom (l : List Int) (i : Nat) (o : List In) : Prop := da l = (da (l.drop i)).map (o ++ ·)
theorem daFrom_start (l : List Int) : daFrom l 0 [] := by
  unfold daFrom
  simp
theorem daFrom_end {l : List Int} {i : Nat} {o : List In} (h : daFrom l i o) (hi : l.length ≤ i) : da l = some o := by
  unfold daFrom at h
  rw [h, List.drop_eq_nil_of_le hi]
  simp [da]
theorem daFrom_word {l : List Int} {i : Nat} {o : List In} (h : daFrom l i o) (hi : i < l.length) (hw : wordOk (el l i) = false) : da l = none := by
  unfold daFrom at h
  rw [h, drop_at hi]
  cases hd : l.drop (i + 1) with
  | nil => simp [da, hw]
  | cons v t => simp [da, hw]
theorem daFrom_short {l : List Int} {i : Nat} {o : List In} (h : daFrom l i o) (hi : i < l.length) (hL : longW (el l i) = 2) (he : i + 1 = l.length) : da l = none := by
  unfold daFrom at h
  rw [h, drop_at hi, List.drop_eq_nil_of_le (by omega)]
  simp [da, hL]
theorem daFrom_two {l : List Int} {i : Nat} {o : List In} (h : daFrom l i o) (hi : i + 1 < l.length) (hw : wordOk (el l i) = true) (hL : longW (el l i) = 2) :
    (decOk (el l i) (el l (i + 1)) = false → da l = none) ∧ (decOk (el l i) (el l (i + 1)) = true → daFrom l (i + 2) (o ++ [decode (el l i) (el l (i + 1))])) := by
  unfold daFrom at h ⊢
  rw [drop_at (by omega), drop_at hi] at h
  refine ⟨fun hd => ?_, fun hd => ?_⟩
  · rw [h]; simp [da, hw, hL, hd]
  · rw [h]
    simp only [da, hw, hL, hd, if_true]
    cases da (l.drop (i + 1 + 1)) <;> simp
theorem daFrom_one {l : List Int} {i : Nat} {o : List In} (h : daFrom l i o) (hi : i < l.length) (hw : wordOk (el l i) = true) (hL : longW (el l i) = 1) :
    (decOk (el l i) 0 = false → da l = none) ∧ (decOk (el l i) 0 = true → daFrom l (i + 1) (o ++ [decode (el l i) 0])) := by
  unfold daFrom at h ⊢
  rw [drop_at hi] at h
  refine ⟨fun hd => ?_, fun hd => ?_⟩
  · rw [h]
    cases hq : l.drop (i + 1) with
    | nil => simp [da, hd]
    | cons v t => simp [da, hw, hL, hd]
  · rw [h]
    cases hq : l.drop (i + 1) with
    | nil => simp [da, hw, hL, hd]
    | cons v t =>
      have hne : ¬ longW (el l i) = 2 := by omega
      simp only [da, hw, hd, if_true, if_neg hne]
      cases da (v :: t) <;> simp
end Go.Proofs.YtndphgidmlmkoaaDoor.Pl

namespace Go.Proofs.YtndphgidmlmkoaaDoor
open Go.RowKit
set_option linter.unusedVariables false
set_option linter.unusedSimpArgs false
theorem slotIn_row7 {w : World} {base n : Nat} {v : Value} {xs : List Int} (h : w.ownsRow base 36 7 v n (xs.map (Value.int .i64))) : ∃ (b : Option Addr) (cb : Nat), v = .slice b n cb ∧ SlotIn w base w.heap.size b xs := by
  have h9 := h
  rcases h with ⟨hl, ⟨rfl, e⟩ | ⟨g, cap, cur, e, hb, hgg, hn, _, hsz, ht⟩⟩
  · subst e
    exact ⟨none, 0, rfl, .inl ⟨rfl, by simpa using hl⟩⟩
  · subst e
    exact ⟨some ⟨g, 0, none⟩, cap, rfl, .inr ⟨g, rfl, (h9.lt g rfl).1, (h9.lt g rfl).2, own_of_row7 h9⟩⟩
set_option maxRecDepth 20000 in
set_option maxHeartbeats 8000000 in
theorem specDecodeAll (w : World) (a : Option Addr) (ca : Nat) (xs : List Int) (ha : IRow w a xs) (bx : xs.length ≤ 2000000) :
    Calls Tryd.prog 11 #[.slice a xs.length ca] w fun e' w' => ∃ (b : Option Addr) (c : Nat), e' = .returned (.tuple #[.slice b (Pl.daV xs).length c, .bool (Pl.daOk xs)]) ∧ SlotIn w' w.heap.size w'.heap.size b (Pl.flat (Pl.daV xs)) ∧ Kept 0 0 w w' := by
  have HA := hide ha
  clear ha
  obtain ⟨i, hi, hz0, hz1, hz2⟩ := info_parts Tryd.infoIns
  cases h80 : decide ((80 : Int) < (xs.length : Int))
  · have b80 : xs.length ≤ 80 := by simp at h80; omega
    go_enter Tryd.func11, Tryd.ntmps11
    go_wp2_with fail
    go_loopw [4, 5, 6, 7, 8, 9] (fun v j _ _ _ _ wr => ∃ (k : Nat) (O : List Pl.In), k ≤ xs.length ∧ j = .int .i64 k ∧ O.length ≤ k ∧ Pl.daFrom xs k O ∧ wr.ownsRow w.heap.size 36 7 v O.length ((Pl.flat O).map (Value.int .i64)) ∧ Kept 0 0 w wr) (fun _ j _ _ _ _ _ => xs.length - (intOf j).toNat)
    case atStart => exact ⟨0, [], Nat.zero_le _, rfl, Nat.le_refl _, Pl.daFrom_start xs, World.ownsRow_nil _ _ _ _, Kept.refl _ _ _⟩
    case round =>
      obtain ⟨k, O, hk, rfl, hOl, hfrom, hown, hkept⟩ := hrel
      have HK := hide hkept
      have HO := hide hown
      have HF := hide hfrom
      clear hkept hown hfrom
      by_cases hlt : k < xs.length
      · obtain ⟨g1, o1, rfl, hc1⟩ := (HA.out.keptS HK.out) k hlt
        rw [show xs[k]?.getD 0 = el xs k from rfl] at hc1
        cases hw : Pl.wordOk (el xs k)
        · have E : Hid (Pl.daOk xs = false) := hide (by simp [Pl.daOk, Pl.daFrom_word HF.out hlt hw])
          go_wp2_with (first | (go_at_call 26; refine (specWord _ _).mono ?_; rintro e9 w' ⟨rfl, hw9⟩; have hw2 := hw9.symm; clear hw9; subst hw2; rw [hw]))
          go_ret2
          exact ⟨none, 0, by simp [Pl.daV, E.out, Pl.flat], .inl ⟨rfl, by simp [Pl.daV, E.out, Pl.flat]⟩, HK.out⟩
        · obtain ⟨b0, b1⟩ := wordIn hw
          rcases Pl.long_or (el xs k) with hL | hL
          · obtain ⟨hdn, hdy⟩ := Pl.daFrom_one HF.out hlt hw hL
            cases hd : Pl.decOk (el xs k) 0
            · have E : Hid (Pl.daOk xs = false) := hide (by simp [Pl.daOk, hdn hd])
              have EX : Hid (Pl.dec (el xs k) 0 = Pl.inNo) := hide (by simp [Pl.dec, hd])
              have EN : Hid (Pl.decN (el xs k) 0 = 0) := hide (by simp [Pl.decN, hd])
              clear hdn hdy
              go_wp2_with (first | (go_at_call 26; refine (specWord _ _).mono ?_; rintro e9 w' ⟨rfl, hw9⟩; have hw2 := hw9.symm; clear hw9; subst hw2; rw [hw]) | (go_at_call 27; refine (specLong _ _ b0 b1).mono ?_; rintro e9 w' ⟨rfl, hw9⟩; have hw2 := hw9.symm; clear hw9; subst hw2; rw [hL]) | (go_at_call 28; refine (specDecodeIns _ (el xs k) 0).mono ?_; rintro e9 w2 ⟨rfl, k2⟩; rw [EX.out, EN.out, hd]; have K2 := hide (HK.out.trans k2); clear k2))
              go_ret2
              exact ⟨none, 0, by simp [Pl.daV, E.out, Pl.flat], .inl ⟨rfl, by simp [Pl.daV, E.out, Pl.flat]⟩, kept_new K2.out _⟩
            · obtain ⟨X, hX⟩ : ∃ X, X = Pl.decode (el xs k) 0 := ⟨_, rfl⟩
              have EX : Hid (Pl.dec (el xs k) 0 = X) := hide (by rw [hX]; simp [Pl.dec, hd])
              have EN : Hid (Pl.decN (el xs k) 0 = 1) := hide (by simp [Pl.decN, hd, hL])
              have HF2 := hide (hdy hd)
              rw [← hX] at HF2
              clear hdn hdy hX
              go_wp2_with (first | (go_at_call 26; refine (specWord _ _).mono ?_; rintro e9 w' ⟨rfl, hw9⟩; have hw2 := hw9.symm; clear hw9; subst hw2; rw [hw]) | (go_at_call 27; refine (specLong _ _ b0 b1).mono ?_; rintro e9 w' ⟨rfl, hw9⟩; have hw2 := hw9.symm; clear hw9; subst hw2; rw [hL]) | (go_at_call 28; refine (specDecodeIns _ (el xs k) 0).mono ?_; rintro e9 w2 ⟨rfl, k2⟩; rw [EX.out, EN.out, hd]; have K2 := hide (HK.out.trans k2); have O2 := hide (((HO.out.kept k2.grown (Classical.em _)).alloc (.cells #[.int .i64 X.op, .int .i64 X.z, .int .i64 X.r, .int .i64 X.m, .int .i64 X.k, .int .i64 X.e, .int .i64 X.s] 36)).alloc (.cells #[.int .i64 X.op, .int .i64 X.z, .int .i64 X.r, .int .i64 X.m, .int .i64 X.k, .int .i64 X.e, .int .i64 X.s] 36)); have BN := Blk.new (w2.alloc (.cells #[.int .i64 X.op, .int .i64 X.z, .int .i64 X.r, .int .i64 X.m, .int .i64 X.k, .int .i64 X.e, .int .i64 X.s] 36)) #[.int .i64 X.op, .int .i64 X.z, .int .i64 X.r, .int .i64 X.m, .int .i64 X.k, .int .i64 X.e, .int .i64 X.s] 36; simp only [World.size_alloc] at BN; replace BN := hide BN; have s2 := K2.out.size; clear k2) | (at_builtin; refine wpList_append_own _ rfl _ _ 23 rfl w.heap.size 36 i (.agg #[.int .i64 0, .int .i64 0, .int .i64 0, .int .i64 0, .int .i64 0, .int .i64 0, .int .i64 0]) 7 56 Tryd.underlying23 hi hz0 hz1 hz2 rfl (by decide) _ _ _ rfl O2.out ⟨w2.heap.size + 1, 0, none⟩ 1 1 [.int .i64 X.op, .int .i64 X.z, .int .i64 X.r, .int .i64 X.m, .int .i64 X.k, .int .i64 X.e, .int .i64 X.s] rfl rfl ?c1 ?c2 ?c3 ?c4 ?c5 ?_))
              case c1 => exact World.news_of_block (cs := #[.int .i64 X.op, .int .i64 X.z, .int .i64 X.r, .int .i64 X.m, .int .i64 X.k, .int .i64 X.e, .int .i64 X.s]) (t := 36) (fr := (0, 0)) BN.out
              case c2 => intro u hu; simp at hu; rcases hu with rfl | rfl | rfl | rfl | rfl | rfl | rfl <;> rfl
              case c3 => unfold maxLen; omega
              case c4 => omega
              case c5 => simp; omega
              intro v' w4 hown' hgr _
              have HO4 := hide hown'
              have K4 := hide (kept_over (kept_new (kept_new K2.out (.cells #[.int .i64 X.op, .int .i64 X.z, .int .i64 X.r, .int .i64 X.m, .int .i64 X.k, .int .i64 X.e, .int .i64 X.s] 36)) (.cells #[.int .i64 X.op, .int .i64 X.z, .int .i64 X.r, .int .i64 X.m, .int .i64 X.k, .int .i64 X.e, .int .i64 X.s] 36)) (kept_row (lo := w.heap.size) (hi := w2.heap.size + 1 + 1) hgr (fun g hg => by have q := O2.out.lt g hg; simpa using q)) (Nat.le_refl _))
              clear hown' hgr
              go_wp2_with fail
              go_roundw
              case rel => exact ⟨k + 1, O ++ [X], by omega, by go_num, by simp; omega, HF2.out, by rw [Pl.flat_snoc, List.length_append, List.map_append]; exact HO4.out, K4.out⟩
              case measure => simp [intOf]; omega
          · by_cases he : k + 1 = xs.length
            · have E : Hid (Pl.daOk xs = false) := hide (by simp [Pl.daOk, Pl.daFrom_short HF.out hlt hL he])
              have hq : ((k : Int) + 1 == (xs.length : Int)) = true := by simp; omega
              go_wp2_with (first | (go_at_call 26; refine (specWord _ _).mono ?_; rintro e9 w' ⟨rfl, hw9⟩; have hw2 := hw9.symm; clear hw9; subst hw2; rw [hw]) | (go_at_call 27; refine (specLong _ _ b0 b1).mono ?_; rintro e9 w' ⟨rfl, hw9⟩; have hw2 := hw9.symm; clear hw9; subst hw2; rw [hL]))
              go_ret2
              exact ⟨none, 0, by simp [Pl.daV, E.out, Pl.flat], .inl ⟨rfl, by simp [Pl.daV, E.out, Pl.flat]⟩, HK.out⟩
            · have hq : ((k : Int) + 1 == (xs.length : Int)) = false := by simp; omega
              obtain ⟨g2, o2, ea, hc2⟩ := (HA.out.keptS HK.out) (k + 1) (by omega)
              cases ea
              rw [show xs[k + 1]?.getD 0 = el xs (k + 1) from rfl] at hc2
              have hlt2 : (k : Int) + 1 < (xs.length : Int) := by omega
              obtain ⟨hdn, hdy⟩ := Pl.daFrom_two HF.out (by omega) hw hL
              cases hd : Pl.decOk (el xs k) (el xs (k + 1))
              · have E : Hid (Pl.daOk xs = false) := hide (by simp [Pl.daOk, hdn hd])
                have EX : Hid (Pl.dec (el xs k) (el xs (k + 1)) = Pl.inNo) := hide (by simp [Pl.dec, hd])
                have EN : Hid (Pl.decN (el xs k) (el xs (k + 1)) = 0) := hide (by simp [Pl.decN, hd])
                clear hdn hdy
                go_wp2_with (first | (go_at_call 26; refine (specWord _ _).mono ?_; rintro e9 w' ⟨rfl, hw9⟩; have hw2 := hw9.symm; clear hw9; subst hw2; rw [hw]) | (go_at_call 27; refine (specLong _ _ b0 b1).mono ?_; rintro e9 w' ⟨rfl, hw9⟩; have hw2 := hw9.symm; clear hw9; subst hw2; rw [hL]) | (go_at_call 28; refine (specDecodeIns _ (el xs k) (el xs (k + 1))).mono ?_; rintro e9 w2 ⟨rfl, k2⟩; rw [EX.out, EN.out, hd]; have K2 := hide (HK.out.trans k2); clear k2))
                go_ret2
                exact ⟨none, 0, by simp [Pl.daV, E.out, Pl.flat], .inl ⟨rfl, by simp [Pl.daV, E.out, Pl.flat]⟩, kept_new K2.out _⟩
              · obtain ⟨X, hX⟩ : ∃ X, X = Pl.decode (el xs k) (el xs (k + 1)) := ⟨_, rfl⟩
                have EX : Hid (Pl.dec (el xs k) (el xs (k + 1)) = X) := hide (by rw [hX]; simp [Pl.dec, hd])
                have EN : Hid (Pl.decN (el xs k) (el xs (k + 1)) = 2) := hide (by simp [Pl.decN, hd, hL])
                have HF2 := hide (hdy hd)
                rw [← hX] at HF2
                clear hdn hdy hX
                go_wp2_with (first | (go_at_call 26; refine (specWord _ _).mono ?_; rintro e9 w' ⟨rfl, hw9⟩; have hw2 := hw9.symm; clear hw9; subst hw2; rw [hw]) | (go_at_call 27; refine (specLong _ _ b0 b1).mono ?_; rintro e9 w' ⟨rfl, hw9⟩; have hw2 := hw9.symm; clear hw9; subst hw2; rw [hL]) | (go_at_call 28; refine (specDecodeIns _ (el xs k) (el xs (k + 1))).mono ?_; rintro e9 w2 ⟨rfl, k2⟩; rw [EX.out, EN.out, hd]; have K2 := hide (HK.out.trans k2); have O2 := hide (((HO.out.kept k2.grown (Classical.em _)).alloc (.cells #[.int .i64 X.op, .int .i64 X.z, .int .i64 X.r, .int .i64 X.m, .int .i64 X.k, .int .i64 X.e, .int .i64 X.s] 36)).alloc (.cells #[.int .i64 X.op, .int .i64 X.z, .int .i64 X.r, .int .i64 X.m, .int .i64 X.k, .int .i64 X.e, .int .i64 X.s] 36)); have BN := Blk.new (w2.alloc (.cells #[.int .i64 X.op, .int .i64 X.z, .int .i64 X.r, .int .i64 X.m, .int .i64 X.k, .int .i64 X.e, .int .i64 X.s] 36)) #[.int .i64 X.op, .int .i64 X.z, .int .i64 X.r, .int .i64 X.m, .int .i64 X.k, .int .i64 X.e, .int .i64 X.s] 36; simp only [World.size_alloc] at BN; replace BN := hide BN; have s2 := K2.out.size; clear k2) | (at_builtin; refine wpList_append_own _ rfl _ _ 23 rfl w.heap.size 36 i (.agg #[.int .i64 0, .int .i64 0, .int .i64 0, .int .i64 0, .int .i64 0, .int .i64 0, .int .i64 0]) 7 56 Tryd.underlying23 hi hz0 hz1 hz2 rfl (by decide) _ _ _ rfl O2.out ⟨w2.heap.size + 1, 0, none⟩ 1 1 [.int .i64 X.op, .int .i64 X.z, .int .i64 X.r, .int .i64 X.m, .int .i64 X.k, .int .i64 X.e, .int .i64 X.s] rfl rfl ?c1 ?c2 ?c3 ?c4 ?c5 ?_))
                case c1 => exact World.news_of_block (cs := #[.int .i64 X.op, .int .i64 X.z, .int .i64 X.r, .int .i64 X.m, .int .i64 X.k, .int .i64 X.e, .int .i64 X.s]) (t := 36) (fr := (0, 0)) BN.out
                case c2 => intro u hu; simp at hu; rcases hu with rfl | rfl | rfl | rfl | rfl | rfl | rfl <;> rfl
                case c3 => unfold maxLen; omega
                case c4 => omega
                case c5 => simp; omega
                intro v' w4 hown' hgr _
                have HO4 := hide hown'
                have K4 := hide (kept_over (kept_new (kept_new K2.out (.cells #[.int .i64 X.op, .int .i64 X.z, .int .i64 X.r, .int .i64 X.m, .int .i64 X.k, .int .i64 X.e, .int .i64 X.s] 36)) (.cells #[.int .i64 X.op, .int .i64 X.z, .int .i64 X.r, .int .i64 X.m, .int .i64 X.k, .int .i64 X.e, .int .i64 X.s] 36)) (kept_row (lo := w.heap.size) (hi := w2.heap.size + 1 + 1) hgr (fun g hg => by have q := O2.out.lt g hg; simpa using q)) (Nat.le_refl _))
                clear hown' hgr
                go_wp2_with fail
                go_roundw
                case rel => exact ⟨k + 2, O ++ [X], by omega, by go_num, by simp; omega, HF2.out, by rw [Pl.flat_snoc, List.length_append, List.map_append]; exact HO4.out, K4.out⟩
                case measure => simp [intOf]; omega
      · obtain rfl : k = xs.length := by omega
        have hda := Pl.daFrom_end HF.out (Nat.le_refl _)
        have E : Hid (Pl.daOk xs = true) := hide (by simp [Pl.daOk, hda]; omega)
        have EV : Hid (Pl.daV xs = O) := hide (by simp [Pl.daV, E.out, hda])
        obtain ⟨b, cb, rfl, hS⟩ := slotIn_row7 HO.out
        clear hda
        go_wp2_with fail
        go_ret2
        exact ⟨b, cb, by rw [EV.out, E.out]; rfl, by rw [EV.out]; exact hS, HK.out⟩
  · have E : Hid (Pl.daOk xs = false) := hide (by simp at h80; simp [Pl.daOk]; omega)
    go_enter Tryd.func11, Tryd.ntmps11
    go_wp2_with fail
    go_ret2
    exact ⟨none, 0, by simp [Pl.daV, E.out, Pl.flat], .inl ⟨rfl, by simp [Pl.daV, E.out, Pl.flat]⟩, Kept.refl _ _ _⟩
end Go.Proofs.YtndphgidmlmkoaaDoor

namespace Go.Proofs.YtndphgidmlmkoaaDoor.Pl
set_option linter.unusedVariables false
theorem word1_in {x : In} (h : inOk x = true) : 0 ≤ word1 x ∧ word1 x ≤ 65535 := by
  obtain ⟨a1, a2, a3, a4, a5, a6, a7, a8, a9, b1, b2, b3, b4, _⟩ := modeR h
  unfold word1
  rcases a3 with a3 | a3 <;> rw [a3] <;> omega
theorem word1_parts {x : In} (h : inOk x = true) : word1 x / 2048 = x.op ∧ word1 x / 1024 % 2 + 1 = x.z ∧ word1 x / 256 % 4 = x.r ∧ word1 x / 32 % 8 = x.m ∧ word1 x / 8 % 4 = x.k ∧ word1 x % 8 = x.s := by
  obtain ⟨a1, a2, a3, a4, a5, a6, a7, a8, a9, b1, b2, b3, b4, _⟩ := modeR h
  unfold word1
  rcases a3 with a3 | a3 <;> rw [a3] <;> refine ⟨?_, ?_, ?_, ?_, ?_, ?_⟩ <;> omega
theorem long_enc {x : In} (h : inOk x = true) : longW (word1 x) = ((encode x).length : Int) := by
  unfold longW encode
  rw [(word1_parts h).2.2.2.1]
  split <;> simp
theorem dec_enc {x : In} (h : inOk x = true) {v : Int} (hw : wordOk v = true) (hv : extM x.m = true → v = x.e) :
    decode (word1 x) v = x ∧ decOk (word1 x) v = true := by
  obtain ⟨p1, p2, p3, p4, p5, p6⟩ := word1_parts h
  obtain ⟨w0, w1⟩ := word1_in h
  have hx := (modeR h).2.2.2.2.2.2.2.2.2.2.2.2.2
  have e : (if longW (word1 x) = 2 then v else 0) = x.e := by
    unfold longW
    rw [p4]
    cases hE : extM x.m
    · simp [hx hE]
    · simp [hv hE]
  have d : decode (word1 x) v = x := by
    unfold decode
    rw [e, p1, p2, p3, p4, p5, p6]
  refine ⟨d, ?_⟩
  unfold decOk
  rw [d, h, hw]
  simp [wordOk, within, w0, w1]
/-- the words of a list of instructions -/
def encL : List In → List Int
  | [] => []
  | x :: t => encode x ++ encL t
theorem encL_snoc (l : List In) (x : In) : encL (l ++ [x]) = encL l ++ encode x := by
  induction l with
  | nil => simp [encL]
  | cons y t ih => simp [encL, ih]
def insL (ys : List Int) (n : Nat) : List In := (List.range n).map (inAt ys)
theorem insL_succ (ys : List Int) (n : Nat) : insL ys (n + 1) = insL ys n ++ [inAt ys n] := by simp [insL, List.range_succ]
theorem encTo_eq (ys : List Int) (n : Nat) : encTo ys n = encL (insL ys n) := by
  induction n with
  | zero => rfl
  | succ n ih => rw [insL_succ, encL_snoc, ← ih]; rfl
theorem word0 : wordOk 0 = true := by decide
theorem da_cons {x : In} (h : inOk x = true) (t : List Int) : da (encode x ++ t) = (da t).map (x :: ·) := by
  have hL := long_enc h
  have hwo : wordOk (word1 x) = true := by have := word1_in h; simp [wordOk, within, this]
  have he := (modeR h).2.2.2.2.2.2.2.2.2
  have hew : wordOk x.e = true := by simp [wordOk, within, he.1, he.2.1]
  unfold encode at hL ⊢
  split
  · rename_i q
    rw [if_pos q] at hL
    simp only [List.length_cons, List.length_nil] at hL
    obtain ⟨d1, d2⟩ := dec_enc h hew (fun _ => rfl)
    have hL2 : longW (word1 x) = 2 := by simpa using hL
    show da (word1 x :: x.e :: t) = _
    simp [da, hwo, hL2, d2, d1]
  · rename_i q
    rw [if_neg q] at hL
    obtain ⟨d1, d2⟩ := dec_enc h word0 (fun e => absurd e q)
    have hL1 : longW (word1 x) = 1 := by simpa using hL
    cases t with
    | nil => simp [da, hwo, hL1, d2, d1]
    | cons v t =>
      show da (word1 x :: v :: t) = _
      simp [da, hwo, hL1, d2, d1]
theorem da_encL : ∀ (l : List In), (∀ x ∈ l, inOk x = true) → da (encL l) = some l
  | [], _ => rfl
  | x :: t, h => by
    unfold encL
    rw [da_cons (h x (by simp)), da_encL t (fun y hy => h y (by simp [hy]))]
    rfl
theorem encL_len (l : List In) : (encL l).length ≤ 2 * l.length := by
  induction l with
  | nil => simp [encL]
  | cons x t ih => simp only [encL, List.length_append, List.length_cons]; have := encode_len x; omega
theorem allIn_mem {ys : List Int} {n : Nat} (h : allIn ys n = true) : ∀ x ∈ insL ys n, inOk x = true := by
  induction n with
  | zero => intro x hx; simp [insL] at hx
  | succ n ih =>
    unfold allIn at h
    rw [Bool.and_eq_true] at h
    intro x hx
    rw [insL_succ, List.mem_append] at hx
    rcases hx with hx | hx
    · exact ih h.1 x hx
    · simp at hx; rw [hx]; exact h.2
/-- programs come back from their words -/
theorem da_ea {ys : List Int} {n : Nat} (h : eaOk ys n = true) : daOk (eaV ys n) = true ∧ daV (eaV ys n) = insL ys n := by
  have hk := h
  simp only [eaOk, Bool.and_eq_true, decide_eq_true_eq] at hk
  have e : eaV ys n = encL (insL ys n) := by simp [eaV, h, encTo_eq]
  have d := da_encL _ (allIn_mem hk.1)
  have hl := encL_len (insL ys n)
  have hn : (insL ys n).length = n := by simp [insL]
  have ok : daOk (eaV ys n) = true := by
    rw [e]
    simp only [daOk, d, Bool.and_eq_true, decide_eq_true_eq]
    exact ⟨by omega, rfl⟩
  refine ⟨ok, ?_⟩
  unfold daV
  rw [if_pos ok, e, d]
  rfl
theorem flat_insL {ys : List Int} {n : Nat} (h : ys.length = 7 * n) : flat (insL ys n) = ys := by
  have key : ∀ k, k ≤ n → flat (insL ys k) = ys.take (7 * k) := by
    intro k
    induction k with
    | zero => intro _; simp [insL, flat]
    | succ k ih =>
      intro hk
      rw [insL_succ, flat_snoc, ih (by omega)]
      have g : ∀ (j : Nat) (hj : j < 7), el ys (k * 7 + j) = ys[7 * k + j]'(by omega) := by
        intro j hj
        have : k * 7 + j < ys.length := by omega
        simp only [el, List.getElem?_eq_getElem this, Option.getD_some]
        congr 1
        omega
      rw [show 7 * (k + 1) = 7 * k + 7 from by omega, List.take_add]
      congr 1
      apply List.ext_getElem
      · simp; omega
      · intro i h1 h2
        have hi : i < 7 := by simpa using h1
        simp only [List.getElem_take, List.getElem_drop]
        obtain rfl | rfl | rfl | rfl | rfl | rfl | rfl : i = 0 ∨ i = 1 ∨ i = 2 ∨ i = 3 ∨ i = 4 ∨ i = 5 ∨ i = 6 := by omega
        · exact g 0 (by omega)
        · exact g 1 (by omega)
        · exact g 2 (by omega)
        · exact g 3 (by omega)
        · exact g 4 (by omega)
        · exact g 5 (by omega)
        · exact g 6 (by omega)
  rw [key n (Nat.le_refl _), ← h, List.take_length]
end Go.Proofs.YtndphgidmlmkoaaDoor.Pl

namespace Go.Proofs
open Go.Shelf
def Tryd.laysM171_ren : Go.Shelf.Ren := ⟨fun | 171 => 30 | 243 => 54 | 246 => 69 | 283 => 74 | 284 => 75 | 285 => 76 | 286 => 77 | 129 => 81 | 317 => 80 | 318 => 82 | 319 => 83 | 320 => 84 | 337 => 85 | 338 => 86 | n => n, fun | 3 => 3 | 9 => 9 | 2 => 2 | 4 => 4 | 171 => 91 | 0 => 0 | 53 => 44 | 37 => 22 | 5 => 5 | 173 => 94 | 212 => 98 | 51 => 99 | 20 => 20 | 213 => 100 | 46 => 61 | 232 => 103 | 233 => 104 | n => n, fun | 17 => 0 | 18 => 1 | 19 => 2 | n => n⟩
theorem Tryd.laysM171 : Go.Proofs.LaysM.n171 Tryd.prog Tryd.laysM171_ren := {
  mixed := by kernel_rfl
  f129 := Tryd.func81.trans (congrArg some (by kernel_rfl))
  f171 := Tryd.func30.trans (congrArg some (by kernel_rfl))
  f243 := Tryd.func54.trans (congrArg some (by kernel_rfl))
  f246 := Tryd.func69.trans (congrArg some (by kernel_rfl))
  f283 := Tryd.func74.trans (congrArg some (by kernel_rfl))
  f284 := Tryd.func75.trans (congrArg some (by kernel_rfl))
  f285 := Tryd.func76.trans (congrArg some (by kernel_rfl))
  f286 := Tryd.func77.trans (congrArg some (by kernel_rfl))
  f317 := Tryd.func80.trans (congrArg some (by kernel_rfl))
  f318 := Tryd.func82.trans (congrArg some (by kernel_rfl))
  f319 := Tryd.func83.trans (congrArg some (by kernel_rfl))
  f320 := Tryd.func84.trans (congrArg some (by kernel_rfl))
  f337 := Tryd.func85.trans (congrArg some (by kernel_rfl))
  f338 := Tryd.func86.trans (congrArg some (by kernel_rfl))
  t0 := Tryd.underlying0
  a0 := Tryd.isAgg0
  z0 := Tryd.sizeOf0
  v0 := Tryd.zeroValue0
  t2 := Tryd.underlying2
  a2 := Tryd.isAgg2
  z2 := Tryd.sizeOf2
  v2 := Tryd.zeroValue2
  t3 := Tryd.underlying3
  a3 := Tryd.isAgg3
  z3 := Tryd.sizeOf3
  v3 := Tryd.zeroValue3
  t4 := Tryd.underlying4
  a4 := Tryd.isAgg4
  z4 := Tryd.sizeOf4
  v4 := Tryd.zeroValue4
  t5 := Tryd.underlying5
  a5 := Tryd.isAgg5
  z5 := Tryd.sizeOf5
  v5 := Tryd.zeroValue5
  t9 := Tryd.underlying9
  a9 := Tryd.isAgg9
  z9 := Tryd.sizeOf9
  v9 := Tryd.zeroValue9
  t20 := Tryd.underlying20
  a20 := Tryd.isAgg20
  z20 := Tryd.sizeOf20
  v20 := Tryd.zeroValue20
  t37 := Tryd.underlying22
  a37 := Tryd.isAgg22
  z37 := Tryd.sizeOf22
  v37 := Tryd.zeroValue22
  t46 := Tryd.underlying61
  a46 := Tryd.isAgg61
  z46 := Tryd.sizeOf61
  v46 := Tryd.zeroValue61
  t51 := Tryd.underlying99
  a51 := Tryd.isAgg99
  z51 := Tryd.sizeOf99
  v51 := Tryd.zeroValue99
  t53 := Tryd.underlying44
  a53 := Tryd.isAgg44
  z53 := Tryd.sizeOf44
  v53 := Tryd.zeroValue44
  t171 := Tryd.underlying91
  a171 := Tryd.isAgg91
  z171 := Tryd.sizeOf91
  v171 := Tryd.zeroValue91
  t173 := Tryd.underlying94
  a173 := Tryd.isAgg94
  z173 := Tryd.sizeOf94
  v173 := Tryd.zeroValue94
  t212 := Tryd.underlying98
  a212 := Tryd.isAgg98
  z212 := Tryd.sizeOf98
  v212 := Tryd.zeroValue98
  t213 := Tryd.underlying100
  a213 := Tryd.isAgg100
  z213 := Tryd.sizeOf100
  t232 := Tryd.underlying103
  a232 := Tryd.isAgg103
  z232 := Tryd.sizeOf103
  v232 := Tryd.zeroValue103
  t233 := Tryd.underlying104
  a233 := Tryd.isAgg104
  z233 := Tryd.sizeOf104
  v233 := Tryd.zeroValue104
  g17 := by kernel_rfl
  g18 := by kernel_rfl
  g19 := by kernel_rfl
  i0 := by kernel_rfl
  i2 := by kernel_rfl
  i3 := by kernel_rfl
  i4 := by kernel_rfl
  i5 := by kernel_rfl
  i9 := by kernel_rfl
  i20 := by kernel_rfl
  i37 := by kernel_rfl
  i46 := by kernel_rfl
  i51 := by kernel_rfl
  i53 := by kernel_rfl
  i171 := by kernel_rfl
  i173 := by kernel_rfl
  i212 := by kernel_rfl
  i232 := by kernel_rfl
  i233 := by kernel_rfl
  m17 := by kernel_rfl
  m18 := by kernel_rfl
  m19 := by kernel_rfl }
open Go.RowKit Go.Sort Go.Lib in
/-- strconv.Itoa: "Itoa is equivalent to FormatInt(int64(i), 10).": i's DECIMAL NUMERAL ('Lib.itoa': a '-' where i is negative, then the digits), FOR EVERY int. The world behind the call: the world before it, new blocks behind the heap (the library's 'var a [24]byte'), draws. (LAID: no walk: one application.) -/
theorem Tryd.strconv_Itoa (n : Int) (h0 : -9223372036854775808 ≤ n) (h1 : n ≤ 9223372036854775807) (w : World) (htab : Lib.TabIs Tryd.prog w "internal/strconv.uint64pow10" .u64 Lib.pow10Tab) :
    Calls Tryd.prog 30 #[.int .i64 n] w fun e w' => e = .returned (.string ⟨(Lib.itoa n).toArray⟩) ∧ ∃ k os, w' = grow (w.drewN k) os := Any.strconv_Itoa Tryd.laysM171 n h0 h1 w htab
end Go.Proofs

namespace Go.Proofs.YtndphgidmlmkoaaDoor
open Go.RowKit
set_option linter.unusedVariables false
/-- a digit's byte -/
def dig (n : Nat) : UInt8 := UInt8.ofNat (48 + n)
/-- the digits of a number -/
def Pl.num (n : Nat) : List UInt8 := if h : n < 10 then [dig n] else Pl.num (n / 10) ++ [dig (n % 10)]
termination_by n
decreasing_by omega
theorem Pl.num_lt {n : Nat} (h : n < 10) : Pl.num n = [dig n] := by rw [Pl.num, dif_pos h]
theorem Pl.num_ge {n : Nat} (h : ¬ n < 10) : Pl.num n = Pl.num (n / 10) ++ [dig (n % 10)] := by rw [Pl.num, dif_neg h]
/-- a string of these bytes -/
def str (l : List UInt8) : Value := .string ⟨l.toArray⟩
theorem ofNat_back {n : Nat} (h : n < 10) : ((dig n).toNat : Int) = 48 + (n : Int) := by
  unfold dig
  have : (UInt8.ofNat (48 + n)).toNat = 48 + n := by simp; omega
  omega
theorem byteStr (W : World) (g : Nat) (n : Nat) (hn : n < 10) (h : Blk W g #[.int .u8 (48 + (n : Int))] 5) : (convert 22 9 (.slice (some ⟨g, 0, none⟩) 1 1)).run Tryd.prog W = .ok (str [dig n]) W := by
  refine run_convert_bytes_back (P := Tryd.prog) W 22 9 5 ⟨g, 0, none⟩ 1 [dig n] Tryd.underlying22 Tryd.underlying5 Tryd.underlying9 ?_
  intro j hj
  obtain rfl : j = 0 := by simp at hj; omega
  show W.cell? ⟨g, 0, none⟩ = some (.int .u8 ((dig n).toNat : Int))
  rw [ofNat_back hn]
  exact h.cell (i := 0) rfl
theorem addStr (W : World) (x y : List UInt8) (h : x.length + y.length ≤ 1000000) : (Op.stringOp .add ⟨x.toArray⟩ ⟨y.toArray⟩).run Tryd.prog W = .ok (str (x ++ y)) W :=
  run_string_add_lists W x y (by omega) (by omega)
theorem Pl.num_len {n : Nat} (k : Nat) (h : n < 10 ^ (k + 1)) : (Pl.num n).length ≤ k + 1 := by
  induction k generalizing n with
  | zero => rw [Pl.num_lt (by omega)]; simp
  | succ k ih =>
    by_cases h1 : n < 10
    · rw [Pl.num_lt h1]; simp
    · rw [Pl.num_ge h1, List.length_append]
      have := ih (n := n / 10) (by rw [Nat.div_lt_iff_lt_mul (by decide)]; rw [Nat.pow_succ] at h; exact h)
      simp; omega
/-- an instruction's text -/
def Pl.text (x : Pl.In) : List UInt8 := (((((((((((([111, 112] ++ Pl.num x.op.toNat) ++ [46]) ++ Pl.num x.z.toNat) ++ [32, 114]) ++ Pl.num x.r.toNat) ++ [32, 109]) ++ Pl.num x.m.toNat) ++ [58]) ++ Pl.num x.k.toNat) ++ [32, 120]) ++ Pl.num x.e.toNat) ++ [32, 115]) ++ Pl.num x.s.toNat
def Pl.txt (x : Pl.In) : List UInt8 := if Pl.inOk x = true then Pl.text x else []
theorem Pl.num5 {v : Int} (h0 : 0 ≤ v) (h1 : v ≤ 65535) : (Pl.num v.toNat).length ≤ 5 := Pl.num_len 4 (by omega)
end Go.Proofs.YtndphgidmlmkoaaDoor

namespace Go.Proofs.YtndphgidmlmkoaaDoor.Pl
set_option linter.unusedVariables false
def sameIn (a b : In) : Bool := (a.op == b.op) && ((a.z == b.z) && ((a.r == b.r) && ((a.m == b.m) && ((a.k == b.k) && ((a.e == b.e) && (a.s == b.s))))))
/-- it comes back from its words -/
def fits (x : In) : Bool := sameIn (decode (word1 x % 65536) x.e) x
def fitZ (x : In) : Bool := !(x.m == 7) || (!(x.z == 1) || within x.e 0 255)
theorem decode_e (w v : Int) : (decode w v).e = bif extM (w / 32 % 8) then v else 0 := by
  show (if longW w = 2 then v else 0) = _
  unfold longW
  cases extM (w / 32 % 8) <;> simp
theorem fits_iff (x : In) : fits x = true ↔ (0 ≤ x.op ∧ x.op ≤ 31) ∧ (1 ≤ x.z ∧ x.z ≤ 2) ∧ (0 ≤ x.r ∧ x.r ≤ 3) ∧ (0 ≤ x.m ∧ x.m ≤ 7) ∧ (0 ≤ x.k ∧ x.k ≤ 3) ∧ (0 ≤ x.s ∧ x.s ≤ 7) ∧ (extM x.m = false → x.e = 0) := by
  obtain ⟨op, z, r, m, k, e, s⟩ := x
  unfold fits
  have hW : word1 ⟨op, z, r, m, k, e, s⟩ % 65536 = (op * 2048 + (z - 1) * 1024 + r * 256 + m * 32 + k * 8 + s) % 65536 := rfl
  generalize word1 ⟨op, z, r, m, k, e, s⟩ % 65536 = W at hW
  unfold sameIn
  rw [decode_e]
  simp only [decode, Bool.and_eq_true, beq_iff_eq]
  constructor
  · rintro ⟨h1, h2, h3, h4, h5, h6, h7⟩
    refine ⟨⟨by omega, by omega⟩, ⟨by omega, by omega⟩, ⟨by omega, by omega⟩, ⟨by omega, by omega⟩, ⟨by omega, by omega⟩, ⟨by omega, by omega⟩, fun q => ?_⟩
    rw [h4, q] at h6
    simpa using h6.symm
  · rintro ⟨⟨a1, a2⟩, ⟨b1, b2⟩, ⟨c1, c2⟩, ⟨d1, d2⟩, ⟨e1, e2⟩, ⟨f1, f2⟩, g⟩
    have hm : W / 32 % 8 = m := by omega
    refine ⟨by omega, by omega, by omega, hm, by omega, ?_, by omega⟩
    rw [hm]
    cases q : extM m
    · rw [g q]; rfl
    · rfl
/-- what is asked one behind the other is what makes a good one -/
theorem ok_of_fits (x : In) : inOk x = (fits x && (opOk x.m x.k x.e && (fitZ x && inKind x))) := by
  cases hf : fits x
  · cases hq : inOk x
    · rfl
    · exfalso
      have h := modeR hq
      have : fits x = true := (fits_iff x).2 ⟨by omega, by omega, by omega, by omega, by omega, by omega, h.2.2.2.2.2.2.2.2.2.2.2.2.2⟩
      rw [hf] at this; cases this
  · obtain ⟨a, b, c, d, e, f, g⟩ := (fits_iff x).1 hf
    obtain ⟨op, z, r, m, k, e', s⟩ := x
    simp only at a b c d e f g
    unfold inOk inBase fitZ byteNow
    simp only
    have w1 : within r 0 3 = true := by simp [within]; omega
    have w2 : within s 0 7 = true := by simp [within]; omega
    have w3 : (decide (z = 1) || decide (z = 2)) = true := by simp; omega
    rw [w1, w2, w3]
    cases ho : opOk m k e'
    · simp
    · have : 0 ≤ e' := by simp [opOk, wordOk, within] at ho; omega
      have w4 : (!((m == 7) && (z == 1) && decide (255 < e'))) = (!(m == 7) || (!(z == 1) || within e' 0 255)) := by
        rw [Bool.eq_iff_iff]; simp [within]; omega
      rw [w4]
      simp
/-- where the second word is not looked at, it may be whatever it is -/
theorem decode_short {w : Int} (v v' : Int) (h : longW w = 1) : decode w v = decode w v' := by
  unfold decode
  rw [h]; rfl
end Go.Proofs.YtndphgidmlmkoaaDoor.Pl

namespace Go.Proofs.YtndphgidmlmkoaaDoor
open Go.RowKit
set_option linter.unusedVariables false

theorem signedAs8 (v : Int) (w : World) (lo : -9223372036854775808 ≤ v) (hi : v ≤ 9223372036854775807) :
    Calls Tryd.prog 78 #[iv v] w fun e w' => e = .returned (.tuple #[iv (Pl.sgnV 1 v), .bool (Pl.okv 1 v)]) ∧ w' = w := by
  by_cases h : 0 ≤ v ∧ v < 256
  · obtain ⟨h0, h1⟩ := h
    have hs : IntKind.u8.signed = false := rfl
    have hm : IntKind.u8.max = 255 := by decide
    have hb : bits .xor .u8 255 0 = 255 := by decide
    by_cases h : 127 < v
    all_goals
      go_enter Tryd.func78, Tryd.ntmps78
      go_wp2
      go_ret2
      exact ⟨rIB (by simp [Pl.sgnV, Pl.okv, Pl.sg, Pl.top, h0, h1]; omega) (by simp [Pl.okv, Pl.top, h0, h1]), rfl⟩
  · go_enter Tryd.func78, Tryd.ntmps78
    go_wp2
    go_ret2
    have k : Pl.okv 1 v = false := by
      cases c : Pl.okv 1 v
      · rfl
      · have := Pl.top_ok c; omega
    exact ⟨rIB (by simp [Pl.sgnV, k]) k.symm, rfl⟩

theorem signedAs16 (v : Int) (w : World) (lo : -9223372036854775808 ≤ v) (hi : v ≤ 9223372036854775807) :
    Calls Tryd.prog 79 #[iv v] w fun e w' => e = .returned (.tuple #[iv (Pl.sgnV 2 v), .bool (Pl.okv 2 v)]) ∧ w' = w := by
  by_cases h : 0 ≤ v ∧ v < 65536
  · obtain ⟨h0, h1⟩ := h
    have hs : IntKind.u16.signed = false := rfl
    have hm : IntKind.u16.max = 65535 := by decide
    have hb : bits .xor .u16 65535 0 = 65535 := by decide
    by_cases h : 32767 < v
    all_goals
      go_enter Tryd.func79, Tryd.ntmps79
      go_wp2
      go_ret2
      exact ⟨rIB (by simp [Pl.sgnV, Pl.okv, Pl.sg, Pl.top, h0, h1]; omega) (by simp [Pl.okv, Pl.top, h0, h1]), rfl⟩
  · have hw : IntKind.u16.wrap v = v % 65536 := IntKind.wrap_u16 v
    go_enter Tryd.func79, Tryd.ntmps79
    go_wp2
    go_ret2
    have k : Pl.okv 2 v = false := by
      cases c : Pl.okv 2 v
      · rfl
      · have := Pl.top_ok c; omega
    exact ⟨rIB (by simp [Pl.sgnV, k]) k.symm, rfl⟩

theorem signedOf (s v : Int) (w : World) (lo : -9223372036854775808 ≤ v) (hi : v ≤ 9223372036854775807) :
    Calls Tryd.prog 70 #[iv s, iv v] w fun e w' => e = .returned (.tuple #[iv (Pl.sgnV s v), .bool (Pl.okv s v)]) ∧ w' = w := by
  by_cases h1 : s = 1
  · subst h1
    go_enter Tryd.func70, Tryd.ntmps70
    go_wp2_with fail
    refine (signedAs8 v _ lo hi).mono ?_
    rintro e w' ⟨rfl, rfl⟩
    go_wp2_with fail
    go_ret2
    exact ⟨rfl, rfl⟩
  · by_cases h2 : s = 2
    · subst h2
      go_enter Tryd.func70, Tryd.ntmps70
      go_wp2_with fail
      refine (signedAs16 v _ lo hi).mono ?_
      rintro e w' ⟨rfl, rfl⟩
      go_wp2_with fail
      go_ret2
      exact ⟨rfl, rfl⟩
    · have k : Pl.okv s v = false := by simp [Pl.okv, h1, h2]
      have k1 : (s == 1) = false := by simpa using h1
      have k2 : (s == 2) = false := by simpa using h2
      go_enter Tryd.func70, Tryd.ntmps70
      go_wp2_with fail
      go_ret2
      exact ⟨rIB (by simp [Pl.sgnV, k]) k.symm, rfl⟩

end Go.Proofs.YtndphgidmlmkoaaDoor

namespace Go.Proofs.YtndphgidmlmkoaaDoor
open Go.RowKit
set_option linter.unusedVariables false
theorem wfB {v : Int} (h : (Lit.int .i64 v).wf = true) : -9223372036854775808 ≤ v ∧ v ≤ 9223372036854775807 := bounds_i64 h
theorem okv2 (v : Int) : Pl.okv 2 v = Pl.wordOk v := by
  unfold Pl.okv Pl.wordOk Pl.within Pl.top
  rw [Bool.eq_iff_iff]; simp; omega
theorem isWord (v : Int) (w : World) (lo : -9223372036854775808 ≤ v) (hi : v ≤ 9223372036854775807) :
    Calls Tryd.prog 60 #[iv v] w fun e w' => e = .returned (.bool (Pl.wordOk v)) ∧ w' = w := by
  go_enter Tryd.func60, Tryd.ntmps60
  go_wp2_with (go_at_call 70; refine (signedOf _ _ _ lo hi).mono ?_; rintro e w' ⟨rfl, hw⟩; have hw2 := hw.symm; clear hw; subst hw2; rw [okv2])
  go_ret
  exact ⟨rfl, rfl⟩
theorem isReg (k : Int) (w : World) : Calls Tryd.prog 59 #[iv k] w fun e w' => e = .returned (.bool (Pl.within k 0 3)) ∧ w' = w := by
  by_cases h0 : 0 ≤ k
  · by_cases h1 : k ≤ 3
    · go_enter Tryd.func59, Tryd.ntmps59
      go_wp2
      go_ret
      exact ⟨rB (by simp [Pl.within, h0, h1]), rfl⟩
    · go_enter Tryd.func59, Tryd.ntmps59
      go_wp2
      go_ret
      exact ⟨rB (by simp [Pl.within, h0]; omega), rfl⟩
  · go_enter Tryd.func59, Tryd.ntmps59
    go_wp2
    go_ret
    exact ⟨rB (by simp [Pl.within]; omega), rfl⟩
end Go.Proofs.YtndphgidmlmkoaaDoor

namespace Go.Proofs.YtndphgidmlmkoaaDoor
open Go.RowKit
set_option linter.unusedVariables false
theorem wayOf0 (k e : Int) (w : World) : Calls Tryd.prog 58 #[.agg #[iv 0, iv k, iv e]] w fun r w' => r = .returned (.iface 77 (.agg #[iv k])) ∧ Kept 0 0 w w' := by
  go_enter Tryd.func58, Tryd.ntmps58
  go_wp2
  go_ret
  exact ⟨rfl, kept_alloc w _⟩
theorem wayOf1 (k e : Int) (w : World) : Calls Tryd.prog 58 #[.agg #[iv 1, iv k, iv e]] w fun r w' => r = .returned (.iface 78 (.agg #[iv k])) ∧ Kept 0 0 w w' := by
  go_enter Tryd.func58, Tryd.ntmps58
  go_wp2
  go_ret
  exact ⟨rfl, kept_alloc w _⟩
theorem wayOf2 (k e : Int) (w : World) : Calls Tryd.prog 58 #[.agg #[iv 2, iv k, iv e]] w fun r w' => r = .returned (.iface 79 (.agg #[iv k])) ∧ Kept 0 0 w w' := by
  go_enter Tryd.func58, Tryd.ntmps58
  go_wp2
  go_ret
  exact ⟨rfl, kept_alloc w _⟩
theorem wayOf3 (k e : Int) (w : World) : Calls Tryd.prog 58 #[.agg #[iv 3, iv k, iv e]] w fun r w' => r = .returned (.iface 80 (.agg #[iv k])) ∧ Kept 0 0 w w' := by
  go_enter Tryd.func58, Tryd.ntmps58
  go_wp2
  go_ret
  exact ⟨rfl, kept_alloc w _⟩
theorem wayOf4 (k e : Int) (w : World) : Calls Tryd.prog 58 #[.agg #[iv 4, iv k, iv e]] w fun r w' => r = .returned (.iface 81 (.agg #[iv k])) ∧ Kept 0 0 w w' := by
  go_enter Tryd.func58, Tryd.ntmps58
  go_wp2
  go_ret
  exact ⟨rfl, kept_alloc w _⟩
theorem wayOf5 (k e : Int) (w : World) : Calls Tryd.prog 58 #[.agg #[iv 5, iv k, iv e]] w fun r w' => r = .returned (.iface 83 (.agg #[iv k, iv e])) ∧ Kept 0 0 w w' := by
  go_enter Tryd.func58, Tryd.ntmps58
  go_wp2
  go_ret
  exact ⟨rfl, kept_alloc w _⟩
theorem wayOf6 (k e : Int) (w : World) : Calls Tryd.prog 58 #[.agg #[iv 6, iv k, iv e]] w fun r w' => r = .returned (.iface 85 (.agg #[iv e])) ∧ Kept 0 0 w w' := by
  go_enter Tryd.func58, Tryd.ntmps58
  go_wp2
  go_ret
  exact ⟨rfl, kept_alloc w _⟩
theorem wayOf7 (k e : Int) (w : World) : Calls Tryd.prog 58 #[.agg #[iv 7, iv k, iv e]] w fun r w' => r = .returned (.iface 86 (.agg #[iv e])) ∧ Kept 0 0 w w' := by
  go_enter Tryd.func58, Tryd.ntmps58
  go_wp2
  go_ret
  exact ⟨rfl, kept_alloc w _⟩
theorem wayOfNo (m k e : Int) (w : World) (h : Pl.modeOk m = false) : Calls Tryd.prog 58 #[.agg #[iv m, iv k, iv e]] w fun r w' => r = .returned .nilIface ∧ Kept 0 0 w w' := by
  obtain ⟨n0, n1, n2, n3, n4, n5, n6, n7⟩ : ¬ m = 0 ∧ ¬ m = 1 ∧ ¬ m = 2 ∧ ¬ m = 3 ∧ ¬ m = 4 ∧ ¬ m = 5 ∧ ¬ m = 6 ∧ ¬ m = 7 := by
    simp [Pl.modeOk, Pl.within] at h
    omega
  go_enter Tryd.func58, Tryd.ntmps58
  go_wp2
  go_ret
  exact ⟨rfl, kept_alloc w _⟩
theorem operand0 (k e : Int) (w : World) : Calls Tryd.prog 103 #[.agg #[iv k]] w fun r w' => r = .returned (.agg #[iv 0, iv k, iv 0]) ∧ Kept 0 0 w w' := by
  go_enter Tryd.func103, Tryd.ntmps103
  go_wp2
  refine bodyPost_ret (v := .agg #[iv 0, iv k, iv 0]) ?_ rfl ⟨rfl, kept_new (kept_alloc w _) _⟩
  rw [results_one rfl]; go_simp
theorem operand1 (k e : Int) (w : World) : Calls Tryd.prog 104 #[.agg #[iv k]] w fun r w' => r = .returned (.agg #[iv 1, iv k, iv 0]) ∧ Kept 0 0 w w' := by
  go_enter Tryd.func104, Tryd.ntmps104
  go_wp2
  refine bodyPost_ret (v := .agg #[iv 1, iv k, iv 0]) ?_ rfl ⟨rfl, kept_new (kept_alloc w _) _⟩
  rw [results_one rfl]; go_simp
theorem operand2 (k e : Int) (w : World) : Calls Tryd.prog 105 #[.agg #[iv k]] w fun r w' => r = .returned (.agg #[iv 2, iv k, iv 0]) ∧ Kept 0 0 w w' := by
  go_enter Tryd.func105, Tryd.ntmps105
  go_wp2
  refine bodyPost_ret (v := .agg #[iv 2, iv k, iv 0]) ?_ rfl ⟨rfl, kept_new (kept_alloc w _) _⟩
  rw [results_one rfl]; go_simp
theorem operand3 (k e : Int) (w : World) : Calls Tryd.prog 106 #[.agg #[iv k]] w fun r w' => r = .returned (.agg #[iv 3, iv k, iv 0]) ∧ Kept 0 0 w w' := by
  go_enter Tryd.func106, Tryd.ntmps106
  go_wp2
  refine bodyPost_ret (v := .agg #[iv 3, iv k, iv 0]) ?_ rfl ⟨rfl, kept_new (kept_alloc w _) _⟩
  rw [results_one rfl]; go_simp
theorem operand4 (k e : Int) (w : World) : Calls Tryd.prog 107 #[.agg #[iv k]] w fun r w' => r = .returned (.agg #[iv 4, iv k, iv 0]) ∧ Kept 0 0 w w' := by
  go_enter Tryd.func107, Tryd.ntmps107
  go_wp2
  refine bodyPost_ret (v := .agg #[iv 4, iv k, iv 0]) ?_ rfl ⟨rfl, kept_new (kept_alloc w _) _⟩
  rw [results_one rfl]; go_simp
theorem operand5 (k e : Int) (w : World) : Calls Tryd.prog 108 #[.agg #[iv k, iv e]] w fun r w' => r = .returned (.agg #[iv 5, iv k, iv e]) ∧ Kept 0 0 w w' := by
  go_enter Tryd.func108, Tryd.ntmps108
  go_wp2
  refine bodyPost_ret (v := .agg #[iv 5, iv k, iv e]) ?_ rfl ⟨rfl, kept_new (kept_alloc w _) _⟩
  rw [results_one rfl]; go_simp
theorem operand6 (k e : Int) (w : World) : Calls Tryd.prog 109 #[.agg #[iv e]] w fun r w' => r = .returned (.agg #[iv 6, iv 0, iv e]) ∧ Kept 0 0 w w' := by
  go_enter Tryd.func109, Tryd.ntmps109
  go_wp2
  refine bodyPost_ret (v := .agg #[iv 6, iv 0, iv e]) ?_ rfl ⟨rfl, kept_new (kept_alloc w _) _⟩
  rw [results_one rfl]; go_simp
theorem operand7 (k e : Int) (w : World) : Calls Tryd.prog 110 #[.agg #[iv e]] w fun r w' => r = .returned (.agg #[iv 7, iv 0, iv e]) ∧ Kept 0 0 w w' := by
  go_enter Tryd.func110, Tryd.ntmps110
  go_wp2
  refine bodyPost_ret (v := .agg #[iv 7, iv 0, iv e]) ?_ rfl ⟨rfl, kept_new (kept_alloc w _) _⟩
  rw [results_one rfl]; go_simp
theorem fn0 (a : Array Value) (w : World) : (callFunc 103 a).run Tryd.prog w = .ok (.enter 103 a) w := by kernel_rfl
theorem meth0 (v : Value) (w : World) : (method 220 77 v "loop.example/g00389/impl.operand").run Tryd.prog w = .ok (103, v) w := by kernel_rfl
theorem fn1 (a : Array Value) (w : World) : (callFunc 104 a).run Tryd.prog w = .ok (.enter 104 a) w := by kernel_rfl
theorem meth1 (v : Value) (w : World) : (method 220 78 v "loop.example/g00389/impl.operand").run Tryd.prog w = .ok (104, v) w := by kernel_rfl
theorem fn2 (a : Array Value) (w : World) : (callFunc 105 a).run Tryd.prog w = .ok (.enter 105 a) w := by kernel_rfl
theorem meth2 (v : Value) (w : World) : (method 220 79 v "loop.example/g00389/impl.operand").run Tryd.prog w = .ok (105, v) w := by kernel_rfl
theorem fn3 (a : Array Value) (w : World) : (callFunc 106 a).run Tryd.prog w = .ok (.enter 106 a) w := by kernel_rfl
theorem meth3 (v : Value) (w : World) : (method 220 80 v "loop.example/g00389/impl.operand").run Tryd.prog w = .ok (106, v) w := by kernel_rfl
theorem fn4 (a : Array Value) (w : World) : (callFunc 107 a).run Tryd.prog w = .ok (.enter 107 a) w := by kernel_rfl
theorem meth4 (v : Value) (w : World) : (method 220 81 v "loop.example/g00389/impl.operand").run Tryd.prog w = .ok (107, v) w := by kernel_rfl
theorem fn5 (a : Array Value) (w : World) : (callFunc 108 a).run Tryd.prog w = .ok (.enter 108 a) w := by kernel_rfl
theorem meth5 (v : Value) (w : World) : (method 220 83 v "loop.example/g00389/impl.operand").run Tryd.prog w = .ok (108, v) w := by kernel_rfl
theorem fn6 (a : Array Value) (w : World) : (callFunc 109 a).run Tryd.prog w = .ok (.enter 109 a) w := by kernel_rfl
theorem meth6 (v : Value) (w : World) : (method 220 85 v "loop.example/g00389/impl.operand").run Tryd.prog w = .ok (109, v) w := by kernel_rfl
theorem fn7 (a : Array Value) (w : World) : (callFunc 110 a).run Tryd.prog w = .ok (.enter 110 a) w := by kernel_rfl
theorem meth7 (v : Value) (w : World) : (method 220 86 v "loop.example/g00389/impl.operand").run Tryd.prog w = .ok (110, v) w := by kernel_rfl
end Go.Proofs.YtndphgidmlmkoaaDoor

namespace Go.Proofs.YtndphgidmlmkoaaDoor
open Go.RowKit
set_option linter.unusedVariables false

/-- operation k of the region waits for operation j -/
def waitsB (md : Region.Mode) (ops : Array Oper) (i k : Nat) : Bool := ((ops[i]?).map fun o => o.after.any fun e => Region.binds md e && e.on == k).getD false
theorem ready_new {md : Region.Mode} {ops : Array Oper} {l : Array Bool} {i : Nat} (h : i ∈ Region.ready md ops l) : i < ops.size ∧ l.getD i true = false := by
  unfold Region.ready at h
  rw [List.mem_filter, Bool.and_eq_true] at h
  refine ⟨List.mem_range.1 h.1, ?_⟩
  have := h.2.1
  revert this
  cases l.getD i true <;> simp
theorem getD_true {l : Array Bool} {k : Nat} (h : l.getD k false = true) : l.getD k true = true := by
  unfold Array.getD at *
  split
  · rename_i hk; simpa [hk] using h
  · rfl
theorem ready_dep {md : Region.Mode} {ops : Array Oper} {l : Array Bool} {i : Nat} (h : i ∈ Region.ready md ops l) (k : Nat) (hk : waitsB md ops i k = true) : l.getD k true = true := by
  unfold Region.ready at h
  rw [List.mem_filter, Bool.and_eq_true] at h
  have h2 := h.2.2
  unfold waitsB at hk
  cases ho : ops[i]? with
  | none => rw [ho] at hk; simp at hk
  | some o =>
    rw [ho] at hk h2
    simp only [Option.map_some, Option.getD_some] at hk h2
    rw [Array.any_eq_true'] at hk
    obtain ⟨e, he, hb⟩ := hk
    rw [Array.all_eq_true'] at h2
    have h3 := h2 e he
    rw [Bool.and_eq_true] at hb
    rw [hb.1] at h3
    have h4 : e.on = k := by simpa using hb.2
    rw [h4] at h3
    exact getD_true (by simpa using h3)
theorem filter_lt {xs : List Nat} {p q : Nat → Bool} (hpq : ∀ x, q x = true → p x = true) {i : Nat} (hi : i ∈ xs) (hp : p i = true) (hq : q i = false) : (xs.filter q).length < (xs.filter p).length := by
  induction xs with
  | nil => cases hi
  | cons x t ih =>
    have hle : (t.filter q).length ≤ (t.filter p).length := by
      clear ih hi
      induction t with
      | nil => simp
      | cons y t ih =>
        cases h1 : q y
        · cases h2 : p y <;> simp [h1, h2] <;> omega
        · simp [h1, hpq y h1]; exact ih
    rcases List.mem_cons.1 hi with rfl | hi
    · simp [hp, hq]; omega
    · have := ih hi
      cases h1 : q x
      · cases h2 : p x <;> simp [h1, h2] <;> omega
      · simp [h1, hpq x h1]; exact this
theorem getD_set_ne {l : Array Bool} {i j : Nat} (h : j ≠ i) : (l.setIfInBounds i true).getD j true = l.getD j true := by
  simp only [Array.getD_eq_getD_getElem?]
  rw [Array.getElem?_setIfInBounds_ne (Ne.symm h)]
theorem getD_set_eq {l : Array Bool} {i : Nat} : (l.setIfInBounds i true).getD i true = true := by
  simp only [Array.getD_eq_getD_getElem?, Array.getElem?_setIfInBounds]
  split
  · split <;> rfl
  · rename_i h; exact absurd trivial h

theorem wpAny_inv {P : Program} {md : Region.Mode} {ops : Array Oper} {Q : Exit → Act → World → Prop} {I : Array Bool → Act → World → Prop}
    (hfin : ∀ l a w, l.size = ops.size → I l a w → Region.ready md ops l = [] → Q .normal a w)
    (hstep : ∀ l a w i, I l a w → i ∈ Region.ready md ops l → wpOp P ops Q i (I (l.setIfInBounds i true)) a w) :
    ∀ (fuel : Nat) (l : Array Bool) (a : Act) (w : World), l.size = ops.size → ((List.range ops.size).filter fun i => !l.getD i true).length ≤ fuel → I l a w → wpAny P md ops Q fuel l a w := by
  intro fuel
  induction fuel with
  | zero =>
    intro l a w hz hn hI
    have h0 : Region.ready md ops l = [] := by
      cases hr : Region.ready md ops l with
      | nil => rfl
      | cons i t =>
        exfalso
        have hi : i ∈ Region.ready md ops l := by rw [hr]; simp
        obtain ⟨h1, h2⟩ := ready_new hi
        have : i ∈ (List.range ops.size).filter fun i => !l.getD i true := List.mem_filter.2 ⟨List.mem_range.2 h1, by rw [h2]; rfl⟩
        have := List.length_pos_of_mem this
        omega
    exact ⟨h0, hfin l a w hz hI h0⟩
  | succ n ih =>
    intro l a w hz hn hI
    refine ⟨fun h0 => hfin l a w hz hI h0, fun i hi => ?_⟩
    refine wpOp_mono (fun a' w' h' => ih _ a' w' (by simp [hz]) ?_ h') (hstep l a w i hI hi)
    obtain ⟨h1, h2⟩ := ready_new hi
    have := filter_lt (xs := List.range ops.size) (p := fun j => !l.getD j true) (q := fun j => !(l.setIfInBounds i true).getD j true) (i := i) (by
      intro x hx
      by_cases e : x = i
      · subst e; rw [h2]; rfl
      · rw [getD_set_ne e] at hx; exact hx) (List.mem_range.2 h1) (by rw [h2]; rfl) (by rw [getD_set_eq]; rfl)
    omega

/-- an operation waits for earlier ones alone -/
def lowB (md : Region.Mode) (ops : Array Oper) : Bool := (List.range ops.size).all fun i => ((ops[i]?).map fun o => o.after.all fun e => !Region.binds md e || decide (e.on < i)).getD true
theorem ready_none {md : Region.Mode} {ops : Array Oper} {l : Array Bool} (hz : l.size = ops.size) (hB : lowB md ops = true) (h0 : Region.ready md ops l = []) : ∀ i, i < ops.size → l.getD i true = true := by
  intro i
  induction i using Nat.strongRecOn with
  | ind i ih =>
    intro hi
    cases hl : l.getD i true
    · exfalso
      have hm : i ∈ Region.ready md ops l := by
        unfold Region.ready
        rw [List.mem_filter, Bool.and_eq_true]
        refine ⟨List.mem_range.2 hi, by rw [hl]; rfl, ?_⟩
        have hb := List.all_eq_true.1 hB i (List.mem_range.2 hi)
        rw [Array.getElem?_eq_getElem hi] at hb ⊢
        simp only [Option.map_some, Option.getD_some] at hb ⊢
        rw [Array.all_eq_true'] at hb ⊢
        intro e he
        have h1 := hb e he
        rw [Bool.or_eq_true] at h1 ⊢
        rcases h1 with h1 | h1
        · exact .inl h1
        · have h2 : e.on < i := by simpa using h1
          have h3 := ih e.on h2 (by omega)
          refine .inr ?_
          unfold Array.getD at h3 ⊢
          split
          · rename_i hk; simpa [hk] using h3
          · rename_i hk; omega
      rw [h0] at hm
      cases hm
    · rfl
theorem wp_region_inv {P : Program} {ops : Array Oper} {Q : Exit → Act → World → Prop} {id : Nat} {a : Act} {w : World} (I : Array Bool → Act → World → Prop) (hm : P.follows .mixedOrders = true) (hB : lowB .any ops = true)
    (hstart : I (Array.replicate ops.size false) a w.drew)
    (hfin : ∀ l a w, I l a w → (∀ i, i < ops.size → l.getD i true = true) → Q .normal a w)
    (hstep : ∀ l a w i, I l a w → i ∈ Region.ready .any ops l → wpOp P ops Q i (I (l.setIfInBounds i true)) a w) :
    (Code.region id ops true).wp P Q a w := by
  refine wp_region_any hm (wpAny_inv (I := I) (fun l a w hz h h0 => hfin l a w h (ready_none hz hB h0)) hstep _ _ _ _ (by simp) ?_ hstart)
  exact Nat.le_trans (List.length_filter_le _ _) (by simp)

/-- what holds once operation i has come up -/
def Once (l : Array Bool) (i : Nat) (p : Prop) : Prop := l.getD i true = true → p
theorem Once.past {l : Array Bool} {i j : Nat} {p q : Prop} (h : Once l j p) (hn : j ≠ i) (hp : p → q) : Once (l.setIfInBounds i true) j q := fun e => hp (h (by rwa [getD_set_ne hn] at e))
theorem Once.now {l : Array Bool} {i j : Nat} {p : Prop} (h : p) : Once (l.setIfInBounds i true) j p := fun _ => h
theorem once_start {n i : Nat} {p : Prop} (hi : i < n) : Once (Array.replicate n false) i p := by
  intro e
  simp [Array.getD_eq_getD_getElem?, hi] at e
theorem start_at {n i : Nat} (hi : i < n) : (Array.replicate n false).getD i true = false := by
  simp [Array.getD_eq_getD_getElem?, hi]
end Go.Proofs.YtndphgidmlmkoaaDoor

namespace Go.Proofs.YtndphgidmlmkoaaDoor
open Go.RowKit
set_option linter.unusedVariables false

/-- the frame A is A0 but for these slots -/
structure FR (SL : List Nat) (A0 A : Act) : Prop where
  size : A.tmps.size = A0.tmps.size
  defers : A.defers = A0.defers
  out : ∀ k, k ∉ SL → A.tmps[k]? = A0.tmps[k]?
theorem FR.refl (SL : List Nat) (A : Act) : FR SL A A := ⟨rfl, rfl, fun _ _ => rfl⟩
theorem put_ne {A : Act} {j k : Nat} {v : Value} (h : k ≠ j) : (A.put (some j) v).tmps[k]? = A.tmps[k]? := by
  show (A.tmps.setIfInBounds j v)[k]? = _
  rw [Array.getElem?_setIfInBounds_ne (Ne.symm h)]
theorem put_eq {A : Act} {k : Nat} {v : Value} (h : k < A.tmps.size) : (A.put (some k) v).tmps[k]? = some v := by
  show (A.tmps.setIfInBounds k v)[k]? = _
  rw [Array.getElem?_setIfInBounds]
  simp [h]
theorem FR.put {SL : List Nat} {A0 A : Act} (h : FR SL A0 A) {k : Nat} (hk : k ∈ SL) (v : Value) : FR SL A0 (A.put (some k) v) := by
  refine ⟨?_, h.defers, fun j hj => ?_⟩
  · show (A.tmps.setIfInBounds k v).size = _
    rw [Array.size_setIfInBounds]; exact h.size
  · rw [put_ne (fun e => hj (by rw [e]; exact hk))]; exact h.out j hj
theorem act_ext {A B : Act} (hs : A.tmps.size = B.tmps.size) (hd : A.defers = B.defers) (h : ∀ k : Nat, A.tmps[k]? = B.tmps[k]?) : A = B := by
  cases A; cases B
  simp only at hs hd h
  subst hd
  congr 1
  exact Array.ext_getElem? h
theorem chain_of {A : Act} : ∀ (SL : List Nat) (B : Act), A.tmps.size = B.tmps.size → A.defers = B.defers → (∀ k, k ∉ SL → A.tmps[k]? = B.tmps[k]?) → A = SL.foldl (fun a k => a.put (some k) (A.tmps.getD k undef)) B
  | [], B, hs, hd, h => act_ext hs hd (fun k => h k (by simp))
  | k :: t, B, hs, hd, h => by
    refine chain_of t (B.put (some k) (A.tmps.getD k undef)) ?_ hd (fun j hj => ?_)
    · show _ = (B.tmps.setIfInBounds k _).size
      rw [Array.size_setIfInBounds]; exact hs
    · by_cases e : j = k
      · subst e
        by_cases hb : j < B.tmps.size
        · rw [put_eq hb]
          have : j < A.tmps.size := by omega
          rw [Array.getElem?_eq_getElem this]
          simp [Array.getD_eq_getD_getElem?, this]
        · show _ = (B.tmps.setIfInBounds j _)[j]?
          rw [Array.getElem?_eq_none (by omega), Array.getElem?_eq_none (by rw [Array.size_setIfInBounds]; omega)]
      · rw [put_ne e]
        exact h j (by simp [e, hj])
theorem FR.chain {SL : List Nat} {A0 A : Act} (h : FR SL A0 A) : A = SL.foldl (fun a k => a.put (some k) (A.tmps.getD k undef)) A0 := chain_of SL A0 h.size h.defers h.out
theorem getD_of {A : Act} {k : Nat} {v : Value} (h : A.tmps[k]? = some v) : A.tmps.getD k undef = v := by
  rw [Array.getD_eq_getD_getElem?, h]; rfl
theorem wp_region_inv2 {P : Program} {ops : Array Oper} {Q : Exit → Act → World → Prop} {id : Nat} {a : Act} {w : World} (I : Act → Array Bool → Act → World → Prop) (hm : P.follows .mixedOrders = true) (hB : lowB .any ops = true)
    (hstart : I a (Array.replicate ops.size false) a w.drew)
    (hfin : ∀ l A w, I a l A w → (∀ i, i < ops.size → l.getD i true = true) → Q .normal A w)
    (hstep : ∀ l A w i, I a l A w → i ∈ Region.ready .any ops l → wpOp P ops Q i (I a (l.setIfInBounds i true)) A w) :
    (Code.region id ops true).wp P Q a w := wp_region_inv (I a) hm hB hstart hfin hstep
theorem Once.n {l : Array Bool} {i j : Nat} {p : Prop} (h : Once l j p) (h1 : j ≠ i := by decide) : Once (l.setIfInBounds i true) j p := h.past h1 id
theorem Once.q {l : Array Bool} {i j k d : Nat} {A : Act} {u : Value} {v : Option Value} (h : Once l j (A.tmps[k]? = v)) (h1 : j ≠ i := by decide) (h2 : k ≠ d := by decide) : Once (l.setIfInBounds i true) j ((A.put (some d) u).tmps[k]? = v) := h.past h1 (fun e => (put_ne h2).trans e)
end Go.Proofs.YtndphgidmlmkoaaDoor

namespace Go.Proofs.YtndphgidmlmkoaaDoor
open Go.RowKit
set_option linter.unusedVariables false
theorem bfe (b : Bool) : b = false ∨ b = true := by cases b <;> simp
theorem wpOp_on {P : Program} {ops : Array Oper} {Q : Exit → Act → World → Prop} {i : Nat} {o : Oper} {K : Act → World → Prop} {a : Act} {w : World} (ho : ops[i]? = some o) {j s : Nat} {b : Bool} (hg : o.guard = some (j, b)) (hd : (ops[j]?).bind (·.dst) = some s) (hv : a.tmps[s]? = some (.bool b))
    (h : ∀ K' : Act → World → Prop, (∀ a w, K a w → K' a w) → Oper.wp P o a w K' Q) : wpOp P ops Q i K a w := by
  refine wpOp_step ho (fun K' hK => ?_)
  rw [if_pos]
  · exact h K' hK
  · unfold Region.wanted yielded
    rw [hg]
    simp only [hd, Option.bind_some, hv]
    simp
theorem wpOp_off {P : Program} {ops : Array Oper} {Q : Exit → Act → World → Prop} {i : Nat} {o : Oper} {K : Act → World → Prop} {a : Act} {w : World} (ho : ops[i]? = some o) {j s : Nat} {b c : Bool} (hg : o.guard = some (j, b)) (hd : (ops[j]?).bind (·.dst) = some s) (hv : a.tmps[s]? = some (.bool c)) (hn : c ≠ b)
    (h : K (a.put o.dst undef) w) : wpOp P ops Q i K a w := by
  refine wpOp_step ho (fun K' hK => ?_)
  rw [if_neg]
  · exact hK _ _ h
  · unfold Region.wanted yielded
    rw [hg]
    simp only [hd, Option.bind_some, hv]
    simpa using hn
set_option maxRecDepth 20000 in
set_option maxHeartbeats 16000000 in
theorem goodOp (m k e : Int) (w : World) (T N : Nat) (v : Value) (R : Array Value) (E : Bool) (lo : -9223372036854775808 ≤ e) (hi : e ≤ 9223372036854775807)
    (hw : ∀ w : World, Calls Tryd.prog 58 #[.agg #[iv m, iv k, iv e]] w fun r w' => r = .returned (.iface T v) ∧ Kept 0 0 w w')
    (hme : ∀ w : World, (method 220 T v "loop.example/g00389/impl.operand").run Tryd.prog w = .ok (N, v) w)
    (hc : ∀ w : World, Calls Tryd.prog N #[v] w fun r w' => r = .returned (.agg R) ∧ Kept 0 0 w w')
    (hfn : ∀ (a : Array Value) (w : World), (callFunc N a).run Tryd.prog w = .ok (.enter N a) w)
    (he : ∀ w : World, (binOp .eql 34 (.agg R) (.agg #[iv m, iv k, iv e])).run Tryd.prog w = .ok (.bool E) w) :
    Calls Tryd.prog 37 #[.agg #[iv m, iv k, iv e]] w fun r w' => r = .returned (.bool (E && (Pl.within k 0 3 && Pl.wordOk e))) ∧ Kept 0 0 w w' := by
  have B0 := hide (Blk.new w #[iv m, iv k, iv e] 34)
  have K0 := hide (kept_alloc w (.cells #[iv m, iv k, iv e] 34))
  obtain ⟨B, hBB⟩ : ∃ B, Pl.within k 0 3 = B := ⟨_, rfl⟩
  obtain ⟨C, hCC⟩ : ∃ C, Pl.wordOk e = C := ⟨_, rfl⟩
  go_enter Tryd.func37, Tryd.ntmps37
  go_wp2_with fail
  refine (hw _).mono ?_
  rintro r w1 ⟨rfl, k1⟩
  have B1 := hide (B0.out.kept0 k1)
  have K1 := hide (K0.out.trans k1)
  clear k1 hw
  go_wp2_with fail
  refine wp_region_inv2 (fun A0 l A W => FR [6, 7, 8, 9, 10, 11, 12, 13, 14, 15, 16, 17, 18, 19, 20, 21, 22, 23, 2] A0 A ∧ Once l 0 (A.tmps[6]? = some (.iface T v)) ∧ Once l 1 (A.tmps[7]? = some (.bool true)) ∧ Once l 2 (A.tmps[8]? = some (.bool true)) ∧ Once l 3 (A.tmps[9]? = some (.iface T v)) ∧ Once l 4 (A.tmps[10]? = some (.agg R)) ∧ Once l 5 (A.tmps[11]? = some (.agg #[iv m, iv k, iv e])) ∧ Once l 6 (A.tmps[12]? = some (.bool E)) ∧ Once l 7 (A.tmps[13]? = some (.bool E)) ∧ Once l 8 (A.tmps[14]? = some (.bool E)) ∧ Once l 9 (A.tmps[15]? = some (bif E then .pointer (some ⟨w.heap.size, 1, none⟩) else undef)) ∧ Once l 10 (A.tmps[16]? = some (bif E then iv k else undef)) ∧ Once l 11 (A.tmps[17]? = some (bif E then .bool B else undef)) ∧ Once l 12 (A.tmps[18]? = some (.bool (E && B))) ∧ Once l 13 (A.tmps[19]? = some (.bool (E && B))) ∧ Once l 14 (A.tmps[20]? = some (bif (E && B) then .pointer (some ⟨w.heap.size, 2, none⟩) else undef)) ∧ Once l 15 (A.tmps[21]? = some (bif (E && B) then iv e else undef)) ∧ Once l 16 (A.tmps[22]? = some (bif (E && B) then .bool C else undef)) ∧ Once l 17 (A.tmps[23]? = some (.bool ((E && B) && C))) ∧ Once l 18 (A.tmps[2]? = some (.bool ((E && B) && C))) ∧ Kept 0 0 w1 W) (by kernel_rfl) (by kernel_rfl) ?start ?fin ?step
  case start => exact ⟨FR.refl _ _, once_start (by decide), once_start (by decide), once_start (by decide), once_start (by decide), once_start (by decide), once_start (by decide), once_start (by decide), once_start (by decide), once_start (by decide), once_start (by decide), once_start (by decide), once_start (by decide), once_start (by decide), once_start (by decide), once_start (by decide), once_start (by decide), once_start (by decide), once_start (by decide), once_start (by decide), kept_drew (Kept.refl _ _ _)⟩
  case fin =>
    intro l A W h hl
    obtain ⟨hFR, o0, o1, o2, o3, o4, o5, o6, o7, o8, o9, o10, o11, o12, o13, o14, o15, o16, o17, o18, hK⟩ := h
    have g := o18 (hl 18 (by decide))
    have QQ := hide (K1.out.trans hK)
    have hc9 := hFR.chain
    simp only [List.foldl] at hc9
    rw [getD_of g] at hc9
    clear hl hK hFR g o0 o1 o2 o3 o4 o5 o6 o7 o8 o9 o10 o11 o12 o13 o14 o15 o16 o17 o18
    generalize A.tmps.getD 6 undef = s6 at hc9
    generalize A.tmps.getD 7 undef = s7 at hc9
    generalize A.tmps.getD 8 undef = s8 at hc9
    generalize A.tmps.getD 9 undef = s9 at hc9
    generalize A.tmps.getD 10 undef = s10 at hc9
    generalize A.tmps.getD 11 undef = s11 at hc9
    generalize A.tmps.getD 12 undef = s12 at hc9
    generalize A.tmps.getD 13 undef = s13 at hc9
    generalize A.tmps.getD 14 undef = s14 at hc9
    generalize A.tmps.getD 15 undef = s15 at hc9
    generalize A.tmps.getD 16 undef = s16 at hc9
    generalize A.tmps.getD 17 undef = s17 at hc9
    generalize A.tmps.getD 18 undef = s18 at hc9
    generalize A.tmps.getD 19 undef = s19 at hc9
    generalize A.tmps.getD 20 undef = s20 at hc9
    generalize A.tmps.getD 21 undef = s21 at hc9
    generalize A.tmps.getD 22 undef = s22 at hc9
    generalize A.tmps.getD 23 undef = s23 at hc9
    subst hc9
    go_simp
    go_wp2_with fail
    go_ret
    exact ⟨rB (by rw [← hBB, ← hCC, Bool.and_assoc]), QQ.out⟩
  case step =>
    intro l A W i hI hm
    obtain ⟨hFR, o0, o1, o2, o3, o4, o5, o6, o7, o8, o9, o10, o11, o12, o13, o14, o15, o16, o17, o18, hK⟩ := hI
    obtain ⟨hi1, hi2⟩ := ready_new hm
    have hsz : Hid (23 < A.tmps.size) := hide (by rw [hFR.size]; simp)
    have m1 : A.tmps[1]? = some (.pointer (some ⟨w.heap.size, 0, none⟩)) := (hFR.out 1 (by decide)).trans rfl
    have m3 : A.tmps[3]? = some (.iface T v) := (hFR.out 3 (by decide)).trans rfl
    rcases i with _ | _ | _ | _ | _ | _ | _ | _ | _ | _ | _ | _ | _ | _ | _ | _ | _ | _ | _ | i
    · refine wpOp_step rfl (fun KK hK2 => ?_)
      go_simp
      exact hK2 (A.put (some 6) (.iface T v)) _ ⟨hFR.put (by decide) _, .now (put_eq (by have hz := hsz.out; omega)), o1.q, o2.q, o3.q, o4.q, o5.q, o6.q, o7.q, o8.q, o9.q, o10.q, o11.q, o12.q, o13.q, o14.q, o15.q, o16.q, o17.q, o18.q, hK⟩
    · have e1 := o0 (ready_dep hm 0 (by kernel_rfl))
      refine wpOp_step rfl (fun KK hK2 => ?_)
      go_simp
      exact hK2 (A.put (some 7) (.bool true)) _ ⟨hFR.put (by decide) _, o0.q, .now (put_eq (by have hz := hsz.out; omega)), o2.q, o3.q, o4.q, o5.q, o6.q, o7.q, o8.q, o9.q, o10.q, o11.q, o12.q, o13.q, o14.q, o15.q, o16.q, o17.q, o18.q, hK⟩
    · have e1 := o1 (ready_dep hm 1 (by kernel_rfl))
      refine wpOp_step rfl (fun KK hK2 => ?_)
      go_simp
      exact hK2 (A.put (some 8) (.bool true)) _ ⟨hFR.put (by decide) _, o0.q, o1.q, .now (put_eq (by have hz := hsz.out; omega)), o3.q, o4.q, o5.q, o6.q, o7.q, o8.q, o9.q, o10.q, o11.q, o12.q, o13.q, o14.q, o15.q, o16.q, o17.q, o18.q, hK⟩
    · have g := o2 (ready_dep hm 2 (by kernel_rfl))
      refine wpOp_on (b := true) rfl rfl rfl g (fun KK hK2 => ?_)
      go_simp
      exact hK2 (A.put (some 9) (.iface T v)) _ ⟨hFR.put (by decide) _, o0.q, o1.q, o2.q, .now (put_eq (by have hz := hsz.out; omega)), o4.q, o5.q, o6.q, o7.q, o8.q, o9.q, o10.q, o11.q, o12.q, o13.q, o14.q, o15.q, o16.q, o17.q, o18.q, hK⟩
    · have g := o2 (ready_dep hm 2 (by kernel_rfl))
      have e1 := o3 (ready_dep hm 3 (by kernel_rfl))
      refine wpOp_on (b := true) rfl rfl rfl g (fun KK hK2 => ?_)
      go_simp
      refine (hc W).mono ?_
      rintro r y ⟨rfl, kd⟩
      go_simp
      exact hK2 (A.put (some 10) (.agg R)) _ ⟨hFR.put (by decide) _, o0.q, o1.q, o2.q, o3.q, .now (put_eq (by have hz := hsz.out; omega)), o5.q, o6.q, o7.q, o8.q, o9.q, o10.q, o11.q, o12.q, o13.q, o14.q, o15.q, o16.q, o17.q, o18.q, (hK.trans kd)⟩
    · have g := o2 (ready_dep hm 2 (by kernel_rfl))
      have BL := B1.out.kept0 hK
      have x0 := BL.all
      clear BL
      refine wpOp_on (b := true) rfl rfl rfl g (fun KK hK2 => ?_)
      go_simp
      exact hK2 (A.put (some 11) (.agg #[iv m, iv k, iv e])) _ ⟨hFR.put (by decide) _, o0.q, o1.q, o2.q, o3.q, o4.q, .now (put_eq (by have hz := hsz.out; omega)), o6.q, o7.q, o8.q, o9.q, o10.q, o11.q, o12.q, o13.q, o14.q, o15.q, o16.q, o17.q, o18.q, hK⟩
    · have g := o2 (ready_dep hm 2 (by kernel_rfl))
      have e1 := o4 (ready_dep hm 4 (by kernel_rfl))
      have e2 := o5 (ready_dep hm 5 (by kernel_rfl))
      refine wpOp_on (b := true) rfl rfl rfl g (fun KK hK2 => ?_)
      go_simp
      exact hK2 (A.put (some 12) (.bool E)) _ ⟨hFR.put (by decide) _, o0.q, o1.q, o2.q, o3.q, o4.q, o5.q, .now (put_eq (by have hz := hsz.out; omega)), o7.q, o8.q, o9.q, o10.q, o11.q, o12.q, o13.q, o14.q, o15.q, o16.q, o17.q, o18.q, hK⟩
    · have e1 := o2 (ready_dep hm 2 (by kernel_rfl))
      have e2 := o6 (ready_dep hm 6 (by kernel_rfl))
      refine wpOp_step rfl (fun KK hK2 => ?_)
      go_simp
      exact hK2 (A.put (some 13) (.bool E)) _ ⟨hFR.put (by decide) _, o0.q, o1.q, o2.q, o3.q, o4.q, o5.q, o6.q, .now (put_eq (by have hz := hsz.out; omega)), o8.q, o9.q, o10.q, o11.q, o12.q, o13.q, o14.q, o15.q, o16.q, o17.q, o18.q, hK⟩
    · have e1 := o7 (ready_dep hm 7 (by kernel_rfl))
      refine wpOp_step rfl (fun KK hK2 => ?_)
      go_simp
      exact hK2 (A.put (some 14) (.bool E)) _ ⟨hFR.put (by decide) _, o0.q, o1.q, o2.q, o3.q, o4.q, o5.q, o6.q, o7.q, .now (put_eq (by have hz := hsz.out; omega)), o9.q, o10.q, o11.q, o12.q, o13.q, o14.q, o15.q, o16.q, o17.q, o18.q, hK⟩
    · have g := o8 (ready_dep hm 8 (by kernel_rfl))
      rcases bfe E with hE | hE
      · rw [hE] at g
        refine wpOp_off (b := true) (c := false) rfl rfl rfl g (by decide) ?_
        exact ⟨hFR.put (by decide) _, o0.q, o1.q, o2.q, o3.q, o4.q, o5.q, o6.q, o7.q, o8.q, .now (by rw [hE]; exact put_eq (by have hz := hsz.out; omega)), o10.q, o11.q, o12.q, o13.q, o14.q, o15.q, o16.q, o17.q, o18.q, hK⟩
      · rw [hE] at g
        refine wpOp_on (b := true) rfl rfl rfl g (fun KK hK2 => ?_)
        go_simp
        exact hK2 (A.put (some 15) (.pointer (some ⟨w.heap.size, 1, none⟩))) _ ⟨hFR.put (by decide) _, o0.q, o1.q, o2.q, o3.q, o4.q, o5.q, o6.q, o7.q, o8.q, .now (by rw [hE]; exact put_eq (by have hz := hsz.out; omega)), o10.q, o11.q, o12.q, o13.q, o14.q, o15.q, o16.q, o17.q, o18.q, hK⟩
    · have g := o8 (ready_dep hm 8 (by kernel_rfl))
      have e1 := o9 (ready_dep hm 9 (by kernel_rfl))
      rcases bfe E with hE | hE
      · rw [hE] at g
        refine wpOp_off (b := true) (c := false) rfl rfl rfl g (by decide) ?_
        exact ⟨hFR.put (by decide) _, o0.q, o1.q, o2.q, o3.q, o4.q, o5.q, o6.q, o7.q, o8.q, o9.q, .now (by rw [hE]; exact put_eq (by have hz := hsz.out; omega)), o11.q, o12.q, o13.q, o14.q, o15.q, o16.q, o17.q, o18.q, hK⟩
      · rw [hE] at g e1
        simp only [cond_true] at e1
        have BL := B1.out.kept0 hK
        have x0 := BL.all
        clear BL
        refine wpOp_on (b := true) rfl rfl rfl g (fun KK hK2 => ?_)
        go_simp
        exact hK2 (A.put (some 16) (iv k)) _ ⟨hFR.put (by decide) _, o0.q, o1.q, o2.q, o3.q, o4.q, o5.q, o6.q, o7.q, o8.q, o9.q, .now (by rw [hE]; exact put_eq (by have hz := hsz.out; omega)), o11.q, o12.q, o13.q, o14.q, o15.q, o16.q, o17.q, o18.q, hK⟩
    · have g := o8 (ready_dep hm 8 (by kernel_rfl))
      have e1 := o10 (ready_dep hm 10 (by kernel_rfl))
      rcases bfe E with hE | hE
      · rw [hE] at g
        refine wpOp_off (b := true) (c := false) rfl rfl rfl g (by decide) ?_
        exact ⟨hFR.put (by decide) _, o0.q, o1.q, o2.q, o3.q, o4.q, o5.q, o6.q, o7.q, o8.q, o9.q, o10.q, .now (by rw [hE]; exact put_eq (by have hz := hsz.out; omega)), o12.q, o13.q, o14.q, o15.q, o16.q, o17.q, o18.q, hK⟩
      · rw [hE] at g e1
        simp only [cond_true] at e1
        refine wpOp_on (b := true) rfl rfl rfl g (fun KK hK2 => ?_)
        go_simp
        refine st (isReg k _) ?_
        rw [hBB]
        go_simp
        exact hK2 (A.put (some 17) (.bool B)) _ ⟨hFR.put (by decide) _, o0.q, o1.q, o2.q, o3.q, o4.q, o5.q, o6.q, o7.q, o8.q, o9.q, o10.q, .now (by rw [hE]; exact put_eq (by have hz := hsz.out; omega)), o12.q, o13.q, o14.q, o15.q, o16.q, o17.q, o18.q, hK⟩
    · have e1 := o8 (ready_dep hm 8 (by kernel_rfl))
      have e2 := o11 (ready_dep hm 11 (by kernel_rfl))
      rcases bfe E with hE | hE
      · rw [hE] at e1 e2
        simp only [cond_false] at e2
        refine wpOp_step rfl (fun KK hK2 => ?_)
        go_simp
        exact hK2 (A.put (some 18) (.bool false)) _ ⟨hFR.put (by decide) _, o0.q, o1.q, o2.q, o3.q, o4.q, o5.q, o6.q, o7.q, o8.q, o9.q, o10.q, o11.q, .now (by rw [hE]; exact put_eq (by have hz := hsz.out; omega)), o13.q, o14.q, o15.q, o16.q, o17.q, o18.q, hK⟩
      · rw [hE] at e1 e2
        simp only [cond_true] at e2
        refine wpOp_step rfl (fun KK hK2 => ?_)
        go_simp
        exact hK2 (A.put (some 18) (.bool B)) _ ⟨hFR.put (by decide) _, o0.q, o1.q, o2.q, o3.q, o4.q, o5.q, o6.q, o7.q, o8.q, o9.q, o10.q, o11.q, .now (by rw [hE]; exact put_eq (by have hz := hsz.out; omega)), o13.q, o14.q, o15.q, o16.q, o17.q, o18.q, hK⟩
    · have e1 := o12 (ready_dep hm 12 (by kernel_rfl))
      refine wpOp_step rfl (fun KK hK2 => ?_)
      go_simp
      exact hK2 (A.put (some 19) (.bool (E && B))) _ ⟨hFR.put (by decide) _, o0.q, o1.q, o2.q, o3.q, o4.q, o5.q, o6.q, o7.q, o8.q, o9.q, o10.q, o11.q, o12.q, .now (put_eq (by have hz := hsz.out; omega)), o14.q, o15.q, o16.q, o17.q, o18.q, hK⟩
    · have g := o13 (ready_dep hm 13 (by kernel_rfl))
      rcases bfe (E && B) with hE | hE
      · rw [hE] at g
        refine wpOp_off (b := true) (c := false) rfl rfl rfl g (by decide) ?_
        exact ⟨hFR.put (by decide) _, o0.q, o1.q, o2.q, o3.q, o4.q, o5.q, o6.q, o7.q, o8.q, o9.q, o10.q, o11.q, o12.q, o13.q, .now (by rw [hE]; exact put_eq (by have hz := hsz.out; omega)), o15.q, o16.q, o17.q, o18.q, hK⟩
      · rw [hE] at g
        refine wpOp_on (b := true) rfl rfl rfl g (fun KK hK2 => ?_)
        go_simp
        exact hK2 (A.put (some 20) (.pointer (some ⟨w.heap.size, 2, none⟩))) _ ⟨hFR.put (by decide) _, o0.q, o1.q, o2.q, o3.q, o4.q, o5.q, o6.q, o7.q, o8.q, o9.q, o10.q, o11.q, o12.q, o13.q, .now (by rw [hE]; exact put_eq (by have hz := hsz.out; omega)), o15.q, o16.q, o17.q, o18.q, hK⟩
    · have g := o13 (ready_dep hm 13 (by kernel_rfl))
      have e1 := o14 (ready_dep hm 14 (by kernel_rfl))
      rcases bfe (E && B) with hE | hE
      · rw [hE] at g
        refine wpOp_off (b := true) (c := false) rfl rfl rfl g (by decide) ?_
        exact ⟨hFR.put (by decide) _, o0.q, o1.q, o2.q, o3.q, o4.q, o5.q, o6.q, o7.q, o8.q, o9.q, o10.q, o11.q, o12.q, o13.q, o14.q, .now (by rw [hE]; exact put_eq (by have hz := hsz.out; omega)), o16.q, o17.q, o18.q, hK⟩
      · rw [hE] at g e1
        simp only [cond_true] at e1
        have BL := B1.out.kept0 hK
        have x0 := BL.all
        clear BL
        refine wpOp_on (b := true) rfl rfl rfl g (fun KK hK2 => ?_)
        go_simp
        exact hK2 (A.put (some 21) (iv e)) _ ⟨hFR.put (by decide) _, o0.q, o1.q, o2.q, o3.q, o4.q, o5.q, o6.q, o7.q, o8.q, o9.q, o10.q, o11.q, o12.q, o13.q, o14.q, .now (by rw [hE]; exact put_eq (by have hz := hsz.out; omega)), o16.q, o17.q, o18.q, hK⟩
    · have g := o13 (ready_dep hm 13 (by kernel_rfl))
      have e1 := o15 (ready_dep hm 15 (by kernel_rfl))
      rcases bfe (E && B) with hE | hE
      · rw [hE] at g
        refine wpOp_off (b := true) (c := false) rfl rfl rfl g (by decide) ?_
        exact ⟨hFR.put (by decide) _, o0.q, o1.q, o2.q, o3.q, o4.q, o5.q, o6.q, o7.q, o8.q, o9.q, o10.q, o11.q, o12.q, o13.q, o14.q, o15.q, .now (by rw [hE]; exact put_eq (by have hz := hsz.out; omega)), o17.q, o18.q, hK⟩
      · rw [hE] at g e1
        simp only [cond_true] at e1
        refine wpOp_on (b := true) rfl rfl rfl g (fun KK hK2 => ?_)
        go_simp
        refine st (isWord e _ lo hi) ?_
        rw [hCC]
        go_simp
        exact hK2 (A.put (some 22) (.bool C)) _ ⟨hFR.put (by decide) _, o0.q, o1.q, o2.q, o3.q, o4.q, o5.q, o6.q, o7.q, o8.q, o9.q, o10.q, o11.q, o12.q, o13.q, o14.q, o15.q, .now (by rw [hE]; exact put_eq (by have hz := hsz.out; omega)), o17.q, o18.q, hK⟩
    · have e1 := o13 (ready_dep hm 13 (by kernel_rfl))
      have e2 := o16 (ready_dep hm 16 (by kernel_rfl))
      rcases bfe (E && B) with hE | hE
      · rw [hE] at e1 e2
        simp only [cond_false] at e2
        refine wpOp_step rfl (fun KK hK2 => ?_)
        go_simp
        exact hK2 (A.put (some 23) (.bool false)) _ ⟨hFR.put (by decide) _, o0.q, o1.q, o2.q, o3.q, o4.q, o5.q, o6.q, o7.q, o8.q, o9.q, o10.q, o11.q, o12.q, o13.q, o14.q, o15.q, o16.q, .now (by rw [hE]; exact put_eq (by have hz := hsz.out; omega)), o18.q, hK⟩
      · rw [hE] at e1 e2
        simp only [cond_true] at e2
        refine wpOp_step rfl (fun KK hK2 => ?_)
        go_simp
        exact hK2 (A.put (some 23) (.bool C)) _ ⟨hFR.put (by decide) _, o0.q, o1.q, o2.q, o3.q, o4.q, o5.q, o6.q, o7.q, o8.q, o9.q, o10.q, o11.q, o12.q, o13.q, o14.q, o15.q, o16.q, .now (by rw [hE]; exact put_eq (by have hz := hsz.out; omega)), o18.q, hK⟩
    · have e1 := o17 (ready_dep hm 17 (by kernel_rfl))
      refine wpOp_step rfl (fun KK hK2 => ?_)
      go_simp
      exact hK2 (A.put (some 2) (.bool ((E && B) && C))) _ ⟨hFR.put (by decide) _, o0.q, o1.q, o2.q, o3.q, o4.q, o5.q, o6.q, o7.q, o8.q, o9.q, o10.q, o11.q, o12.q, o13.q, o14.q, o15.q, o16.q, o17.q, .now (put_eq (by have hz := hsz.out; omega)), hK⟩
    · simp at hi1
      omega
end Go.Proofs.YtndphgidmlmkoaaDoor

namespace Go.Proofs.YtndphgidmlmkoaaDoor
open Go.RowKit
set_option linter.unusedVariables false
theorem modes {m : Int} (h : Pl.modeOk m = true) : m = 0 ∨ m = 1 ∨ m = 2 ∨ m = 3 ∨ m = 4 ∨ m = 5 ∨ m = 6 ∨ m = 7 := by
  simp [Pl.modeOk, Pl.within] at h
  omega
theorem eqOp (m k e k' e' : Int) (w : World) : (binOp .eql 34 (.agg #[iv m, iv k', iv e']) (.agg #[iv m, iv k, iv e])).run Tryd.prog w = .ok (.bool ((k' == k) && (e' == e))) w := by
  go_simp
  by_cases h1 : k' = k <;> by_cases h2 : e' = e <;> simp [h1, h2]
theorem implGoodOperand (w : World) (m k e : Int) (wfm : (Lit.int .i64 m).wf = true) (wfk : (Lit.int .i64 k).wf = true) (wfe : (Lit.int .i64 e).wf = true) :
    Calls Tryd.prog 37 #[.agg #[iv m, iv k, iv e]] w fun r w' => r = .returned (.bool (Pl.opOk m k e)) ∧ Kept 0 0 w w' := by
  obtain ⟨lo, hi⟩ := wfB wfe
  cases h : Pl.modeOk m
  · have G : Hid (Pl.opOk m k e = false) := hide (by unfold Pl.opOk; rw [h]; rfl)
    have K0 := hide (kept_alloc w (.cells #[iv m, iv k, iv e] 34))
    go_enter Tryd.func37, Tryd.ntmps37
    go_wp2_with fail
    refine (wayOfNo m k e _ h).mono ?_
    rintro r w1 ⟨rfl, k1⟩
    have K1 := hide (K0.out.trans k1)
    clear k1
    go_wp2_with fail
    go_quiet (fail)
    go_wp2_with fail
    go_ret
    exact ⟨rB (by rw [G.out]), kept_drewN K1.out _⟩
  · rcases modes h with rfl | rfl | rfl | rfl | rfl | rfl | rfl | rfl
    · have q := goodOp 0 k e w 77 103 (.agg #[iv k]) _ _ lo hi (fun w => wayOf0 k e w) (fun w => meth0 _ w) (fun w => operand0 k e w) fn0 (fun w => eqOp 0 k e k 0 w)
      have G : (((k : Int) == k) && ((0 : Int) == e) && (Pl.within k 0 3 && Pl.wordOk e)) = Pl.opOk 0 k e := by
        unfold Pl.opOk
        rw [show Pl.modeOk 0 = true from by decide, show decide ((0 : Int) < 6) = true from by decide, show Pl.extM 0 = false from by decide, Bool.eq_iff_iff]
        simp
        grind
      rw [G] at q
      exact q
    · have q := goodOp 1 k e w 78 104 (.agg #[iv k]) _ _ lo hi (fun w => wayOf1 k e w) (fun w => meth1 _ w) (fun w => operand1 k e w) fn1 (fun w => eqOp 1 k e k 0 w)
      have G : (((k : Int) == k) && ((0 : Int) == e) && (Pl.within k 0 3 && Pl.wordOk e)) = Pl.opOk 1 k e := by
        unfold Pl.opOk
        rw [show Pl.modeOk 1 = true from by decide, show decide ((1 : Int) < 6) = true from by decide, show Pl.extM 1 = false from by decide, Bool.eq_iff_iff]
        simp
        grind
      rw [G] at q
      exact q
    · have q := goodOp 2 k e w 79 105 (.agg #[iv k]) _ _ lo hi (fun w => wayOf2 k e w) (fun w => meth2 _ w) (fun w => operand2 k e w) fn2 (fun w => eqOp 2 k e k 0 w)
      have G : (((k : Int) == k) && ((0 : Int) == e) && (Pl.within k 0 3 && Pl.wordOk e)) = Pl.opOk 2 k e := by
        unfold Pl.opOk
        rw [show Pl.modeOk 2 = true from by decide, show decide ((2 : Int) < 6) = true from by decide, show Pl.extM 2 = false from by decide, Bool.eq_iff_iff]
        simp
        grind
      rw [G] at q
      exact q
    · have q := goodOp 3 k e w 80 106 (.agg #[iv k]) _ _ lo hi (fun w => wayOf3 k e w) (fun w => meth3 _ w) (fun w => operand3 k e w) fn3 (fun w => eqOp 3 k e k 0 w)
      have G : (((k : Int) == k) && ((0 : Int) == e) && (Pl.within k 0 3 && Pl.wordOk e)) = Pl.opOk 3 k e := by
        unfold Pl.opOk
        rw [show Pl.modeOk 3 = true from by decide, show decide ((3 : Int) < 6) = true from by decide, show Pl.extM 3 = false from by decide, Bool.eq_iff_iff]
        simp
        grind
      rw [G] at q
      exact q
    · have q := goodOp 4 k e w 81 107 (.agg #[iv k]) _ _ lo hi (fun w => wayOf4 k e w) (fun w => meth4 _ w) (fun w => operand4 k e w) fn4 (fun w => eqOp 4 k e k 0 w)
      have G : (((k : Int) == k) && ((0 : Int) == e) && (Pl.within k 0 3 && Pl.wordOk e)) = Pl.opOk 4 k e := by
        unfold Pl.opOk
        rw [show Pl.modeOk 4 = true from by decide, show decide ((4 : Int) < 6) = true from by decide, show Pl.extM 4 = false from by decide, Bool.eq_iff_iff]
        simp
        grind
      rw [G] at q
      exact q
    · have q := goodOp 5 k e w 83 108 (.agg #[iv k, iv e]) _ _ lo hi (fun w => wayOf5 k e w) (fun w => meth5 _ w) (fun w => operand5 k e w) fn5 (fun w => eqOp 5 k e k e w)
      have G : (((k : Int) == k) && ((e : Int) == e) && (Pl.within k 0 3 && Pl.wordOk e)) = Pl.opOk 5 k e := by
        unfold Pl.opOk
        rw [show Pl.modeOk 5 = true from by decide, show decide ((5 : Int) < 6) = true from by decide, show Pl.extM 5 = true from by decide, Bool.eq_iff_iff]
        simp
        skip
      rw [G] at q
      exact q
    · have q := goodOp 6 k e w 85 109 (.agg #[iv e]) _ _ lo hi (fun w => wayOf6 k e w) (fun w => meth6 _ w) (fun w => operand6 k e w) fn6 (fun w => eqOp 6 k e 0 e w)
      have G : (((0 : Int) == k) && ((e : Int) == e) && (Pl.within k 0 3 && Pl.wordOk e)) = Pl.opOk 6 k e := by
        unfold Pl.opOk
        rw [show Pl.modeOk 6 = true from by decide, show decide ((6 : Int) < 6) = false from by decide, show Pl.extM 6 = true from by decide, Bool.eq_iff_iff]
        simp
        grind
      rw [G] at q
      exact q
    · have q := goodOp 7 k e w 86 110 (.agg #[iv e]) _ _ lo hi (fun w => wayOf7 k e w) (fun w => meth7 _ w) (fun w => operand7 k e w) fn7 (fun w => eqOp 7 k e 0 e w)
      have G : (((0 : Int) == k) && ((e : Int) == e) && (Pl.within k 0 3 && Pl.wordOk e)) = Pl.opOk 7 k e := by
        unfold Pl.opOk
        rw [show Pl.modeOk 7 = true from by decide, show decide ((7 : Int) < 6) = false from by decide, show Pl.extM 7 = true from by decide, Bool.eq_iff_iff]
        simp
        grind
      rw [G] at q
      exact q
end Go.Proofs.YtndphgidmlmkoaaDoor

