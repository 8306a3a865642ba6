/- What the model's draw of an instruction answers: numbers within their bounds; it changes the reader's own block and no other that was there. -/
import Derived.Test.YtndphgidmlmkoaaDoorPG1
import Derived.Test.YtndphgidmlmkoaaDoorPG3
import Derived.Deep.DeepCutAuto
import Derived.Deep.CutBlock
import Derived.Deep.RegionHeld3
namespace Go.Proofs.YtndphgidmlmkoaaDoor
open Go.RowKit
set_option linter.unusedVariables false
/-- an instruction that was drawn: each number small -/
structure SmallI (x : Pl.In) : Prop where
  op0 : 0 ≤ x.op
  op1 : x.op ≤ 65535
  z0 : 0 ≤ x.z
  z1 : x.z ≤ 65535
  r0 : 0 ≤ x.r
  r1 : x.r ≤ 65535
  m0 : 0 ≤ x.m
  m1 : x.m ≤ 65535
  k0 : 0 ≤ x.k
  k1 : x.k ≤ 65535
  e0 : 0 ≤ x.e
  e1 : x.e ≤ 65535
  s0 : 0 ≤ x.s
  s1 : x.s ≤ 65535
theorem grownSome {W W' : World} (k : Kept 0 0 W W') (b : Nat) : W.grownBy W' (some b) := ⟨k.os, k.tape, k.output, k.size, fun i hi _ => k.block i hi (by omega)⟩
theorem wentD {w W : World} {b : Nat} {a : Option Addr} {len cap : Nat} {p k : Int} (h : Went w W b a len cap p k) : Went w W.drew b a len cap p k := by
  obtain ⟨h1, q, h2, h3, h4⟩ := h
  exact ⟨grownBy_drew h1, q, h2, h3, h4.drew⟩
theorem small_mul {t u : Int} (t0 : 0 ≤ t) (t1 : t < 2) (u0 : 0 ≤ u) (u1 : u < 7) : 0 ≤ t * (1 + u) ∧ t * (1 + u) ≤ 7 := by
  obtain rfl | rfl : t = 0 ∨ t = 1 := by omega
  · simp
  · constructor <;> omega
theorem wrap_small {n : Int} (h0 : 0 ≤ n) (h1 : n ≤ 7) : IntKind.i64.wrap n = n := by rw [IntKind.wrap_i64]; omega
theorem sub_small {t u : Int} (f : Bool) (t0 : 0 ≤ t) (t1 : t < 2) (u0 : 0 ≤ u) (u1 : u < 7) : 0 ≤ IntKind.i64.wrap (t * IntKind.i64.wrap (1 + IntKind.i64.wrap (u * Pl.fl1 f 1))) ∧ IntKind.i64.wrap (t * IntKind.i64.wrap (1 + IntKind.i64.wrap (u * Pl.fl1 f 1))) ≤ 7 := by
  have e1 : IntKind.i64.wrap (u * Pl.fl1 f 1) = u * Pl.fl1 f 1 := by
    cases f
    · simp [Pl.fl1]; rw [IntKind.wrap_i64]; omega
    · simp only [Pl.fl1, if_true, Int.mul_one]; rw [IntKind.wrap_i64]; omega
  have b1 : 0 ≤ u * Pl.fl1 f 1 ∧ u * Pl.fl1 f 1 < 7 := by
    cases f
    · simp [Pl.fl1]
    · simp only [Pl.fl1, if_true, Int.mul_one]; omega
  rw [e1]
  obtain ⟨y, hy⟩ : ∃ y, y = u * Pl.fl1 f 1 := ⟨_, rfl⟩
  rw [← hy] at b1 ⊢
  rw [wrap_small (show 0 ≤ 1 + y by omega) (by omega)]
  obtain ⟨p0, p1⟩ := small_mul t0 t1 b1.1 b1.2
  rw [wrap_small p0 p1]
  exact ⟨p0, p1⟩
theorem l1FlagD (b : Bool) (f : Int) (w : World) : Calls Tryd.prog 56 #[.bool b, .int .i64 f] w fun e w' => e = .returned (.int .i64 (Pl.fl1 b f)) ∧ w' = w := by
  cases b
  all_goals
    go_enter Tryd.func56, Tryd.ntmps56
    go_wp2
    go_ret
    exact ⟨rfl, rfl⟩
theorem operandW {w W : World} {b : Nat} {a : Option Addr} {len cap : Nat} {p k : Int} (h : Went w W b a len cap p k) (p0 : 0 ≤ p) (p1 : p + k ≤ 700000) :
    Calls Tryd.prog 55 #[.pointer (some ⟨b, 0, none⟩)] W fun e' w' => ∃ m k9 e : Int, e' = .returned (.agg #[.int .i64 m, .int .i64 k9, .int .i64 e]) ∧ SmallO m k9 e ∧ Went w w' b a len cap p (k + 20) ∧ W.grownBy w' (some b) := by
  obtain ⟨h1, q, h2, h3, h4⟩ := h
  refine (operand W b a len cap q h4 (by omega) (by omega)).mono ?_
  rintro e' w' ⟨m, k9, e, he, hs, hw⟩
  exact ⟨m, k9, e, he, hs, Went.step h1 h2 h3 hw, hw.1⟩
theorem wentK {w W W' : World} {b : Nat} {a : Option Addr} {len cap : Nat} {p k : Int} (h : Went w W b a len cap p k) (k9 : Kept 0 0 W W') : Went w W' b a len cap p k := by
  obtain ⟨h1, q, h2, h3, h4⟩ := h
  exact ⟨grownBy_trans h1 (grownSome k9 b), q, h2, h3, h4.kept k9.grown (by simp) (by simp)⟩
set_option maxRecDepth 100000 in
set_option maxHeartbeats 16000000 in
theorem insDraw (w : World) (b : Nat) (a : Option Addr) (len cap : Nat) (p : Int) (h : Cur w b a len cap p) (p0 : 0 ≤ p) (p1 : p ≤ 600000) :
    Calls Tryd.prog 34 #[.pointer (some ⟨b, 0, none⟩)] w fun e' w' => ∃ X : Pl.In, e' = .returned (.agg #[.int .i64 X.op, .int .i64 X.z, .int .i64 X.r, .int .i64 X.m, .int .i64 X.k, .int .i64 X.e, .int .i64 X.s]) ∧ SmallI X ∧ Went w w' b a len cap p 700 := by
  have hlt := h.lt
  have R0 := hide (Blk.new w #[.int .i64 0, .int .i64 0, .int .i64 0, .int .i64 0, .int .i64 0, .int .i64 0, .int .i64 0] 36)
  have T0 := hide ((Went.refl h).allocW (.cells #[.int .i64 0, .int .i64 0, .int .i64 0, .int .i64 0, .int .i64 0, .int .i64 0, .int .i64 0] 36))
  go_enter Tryd.func34, Tryd.ntmps34
  go_wp2_with fail
  go_loopw [3, 4] (fun j9 _ wr => ∃ j : Nat, j ≤ 6 ∧ j9 = .int .i64 j ∧ Went w wr b a len cap p (100 * (j : Int)) ∧ Blk wr w.heap.size #[.int .i64 0, .int .i64 0, .int .i64 0, .int .i64 0, .int .i64 0, .int .i64 0, .int .i64 0] 36) (fun j9 _ _ => 6 - (intOf j9).toNat)
  case atStart => exact ⟨0, by omega, rfl, by simpa using T0.out, R0.out⟩
  case round =>
    obtain ⟨j, hj, rfl, hT, hR⟩ := hrel
    have T1 := hide hT
    have R1 := hide hR
    clear hT hR T0 R0
    by_cases hj6 : j < 6
    · have dj : decide ((j : Int) < 6) = true := by simp; omega
      go_wp2_with fail
      refine (pickW T1.out p0 (by omega) 19 (by omega) (by omega)).mono ?_
      rintro e9 w1 ⟨x1, rfl, x10, x11, t9, g9⟩
      have s1 := g9.size
      have T2 := hide t9
      have R2 := hide (R1.out.by2 g9 (by simp; omega))
      clear t9 g9
      go_wp2_with fail
      refine (pickW T2.out p0 (by omega) 2 (by omega) (by omega)).mono ?_
      rintro e9 w2 ⟨x2, rfl, x20, x21, t9, g9⟩
      have s2 := g9.size
      have T3 := hide t9
      have R3 := hide (R2.out.by2 g9 (by simp; omega))
      clear t9 g9
      go_wp2_with fail
      refine (pickW T3.out p0 (by omega) 4 (by omega) (by omega)).mono ?_
      rintro e9 w3 ⟨r, rfl, r0, r1, t9, g9⟩
      have s3 := g9.size
      have T4 := hide t9
      have R4 := hide (R3.out.by2 g9 (by simp; omega))
      clear t9 g9
      go_wp2_with fail
      refine (operandW T4.out p0 (by omega)).mono ?_
      rintro e9 w4 ⟨m, k, e, rfl, so, t9, g9⟩
      have s4 := g9.size
      have T5 := hide t9
      have R5 := hide (R4.out.by2 g9 (by simp; omega))
      clear t9 g9
      obtain ⟨m0, m1, k0, k1, e0, e1⟩ := so
      obtain ⟨o, ho⟩ : ∃ o : Int, o = 1 + x1 := ⟨_, rfl⟩
      obtain ⟨z, hz⟩ : ∃ z : Int, z = 1 + x2 := ⟨_, rfl⟩
      have o0 : 1 ≤ o := by omega
      have o1 : o ≤ 19 := by omega
      have z0 : 1 ≤ z := by omega
      have z1 : z ≤ 2 := by omega
      obtain ⟨G, hG⟩ : ∃ G : Nat, G = w4.heap.size := ⟨_, rfl⟩
      have T := hide (T5.out.allocW (.cells #[.int .i64 o, .int .i64 z, .int .i64 r, .int .i64 m, .int .i64 k, .int .i64 e, .int .i64 0] 36))
      have R := hide (R5.out.alloc (.cells #[.int .i64 o, .int .i64 z, .int .i64 r, .int .i64 m, .int .i64 k, .int .i64 e, .int .i64 0] 36))
      have B := hide (Blk.new w4 #[.int .i64 o, .int .i64 z, .int .i64 r, .int .i64 m, .int .i64 k, .int .i64 e, .int .i64 0] 36)
      have l9 := R5.out.lt
      rw [← hG] at B
      have gw : w.heap.size < G := by omega
      go_upto_region 5 with fail
      rw [← ho, ← hz, ← hG]
      obtain ⟨V, hV⟩ : ∃ V : World, V = w4.alloc (.cells #[.int .i64 o, .int .i64 z, .int .i64 r, .int .i64 m, .int .i64 k, .int .i64 e, .int .i64 0] 36) := ⟨_, rfl⟩
      rw [← hV] at T R B ⊢
      clear hV hG ho hz x10 x11 x20 x21
      have y0 := B.out.cell (i := 0) rfl
      go_upto_block 2 with fail
      clear y0
      go_cut [22, 23, 24, 25, 26, 27, 28, 29, 30, 31, 32, 33, 34, 35, 36, 37, 38, 39, 40, 41, 42, 43, 44, 45, 46, 47, 48, 49, 50, 51, 52, 53, 54, 55, 56, 57, 58, 59, 60, 61, 62, 63, 64, 65, 66, 67, 68, 69, 70, 71, 72, 73, 74, 75, 76, 77, 78, 79, 80, 81, 82, 83, 84, 85, 86, 87, 88, 89, 90, 91, 92, 93, 94, 95, 96, 97, 98, 99, 100, 101, 102, 103, 104, 105, 106, 107, 108, 109, 110] (fun _ _ _ _ _ _ _ _ _ _ _ _ _ _ _ _ _ _ _ _ _ _ _ _ _ _ _ _ _ _ _ _ _ _ _ _ _ _ _ _ _ _ _ _ _ _ _ _ _ _ _ _ _ _ _ _ _ _ _ _ _ _ _ _ _ _ _ _ _ _ _ _ _ _ _ _ _ _ _ _ _ _ _ _ _ _ _ _ _ W => ∃ (Q : World) (X : Pl.In), Q = W ∧ SmallI X ∧ Went w W b a len cap p (100 * (j : Int) + 60) ∧ Blk W w.heap.size #[.int .i64 0, .int .i64 0, .int .i64 0, .int .i64 0, .int .i64 0, .int .i64 0, .int .i64 0] 36 ∧ Blk W G #[.int .i64 X.op, .int .i64 X.z, .int .i64 X.r, .int .i64 X.m, .int .i64 X.k, .int .i64 X.e, .int .i64 X.s] 36)
      case first =>
        obtain rfl | rfl | rfl | rfl | rfl | rfl | rfl | rfl | rfl | rfl | rfl | rfl | rfl | rfl | rfl | rfl | rfl | rfl | rfl : o = 1 ∨ o = 2 ∨ o = 3 ∨ o = 4 ∨ o = 5 ∨ o = 6 ∨ o = 7 ∨ o = 8 ∨ o = 9 ∨ o = 10 ∨ o = 11 ∨ o = 12 ∨ o = 13 ∨ o = 14 ∨ o = 15 ∨ o = 16 ∨ o = 17 ∨ o = 18 ∨ o = 19 := by omega
        · have y0 := B.out.cell (i := 0) rfl
          have y1 := B.out.cell (i := 1) rfl
          have y2 := B.out.cell (i := 2) rfl
          have y3 := B.out.cell (i := 3) rfl
          have y4 := B.out.cell (i := 4) rfl
          have y5 := B.out.cell (i := 5) rfl
          have y6 := B.out.cell (i := 6) rfl
          have fy0 := B.out.frozen 0
          have fy1 := B.out.frozen 1
          have fy2 := B.out.frozen 2
          have fy3 := B.out.frozen 3
          have fy4 := B.out.frozen 4
          have fy5 := B.out.frozen 5
          have fy6 := B.out.frozen 6
          go_wp2_with fail
          go_meet
          case rel => exact ⟨_, ⟨1, z, r, m, k, e, 0⟩, rfl, (by refine ⟨?_, ?_, ?_, ?_, ?_, ?_, ?_, ?_, ?_, ?_, ?_, ?_, ?_, ?_⟩ <;> simp only <;> omega), (T.out).more (by omega), R.out, B.out⟩
        · have y0 := B.out.cell (i := 0) rfl
          have y1 := B.out.cell (i := 1) rfl
          have y2 := B.out.cell (i := 2) rfl
          have y3 := B.out.cell (i := 3) rfl
          have y4 := B.out.cell (i := 4) rfl
          have y5 := B.out.cell (i := 5) rfl
          have y6 := B.out.cell (i := 6) rfl
          have fy0 := B.out.frozen 0
          have fy1 := B.out.frozen 1
          have fy2 := B.out.frozen 2
          have fy3 := B.out.frozen 3
          have fy4 := B.out.frozen 4
          have fy5 := B.out.frozen 5
          have fy6 := B.out.frozen 6
          go_wp2_with fail
          go_meet
          case rel => exact ⟨_, ⟨2, z, r, m, k, e, 0⟩, rfl, (by refine ⟨?_, ?_, ?_, ?_, ?_, ?_, ?_, ?_, ?_, ?_, ?_, ?_, ?_, ?_⟩ <;> simp only <;> omega), (T.out).more (by omega), R.out, B.out⟩
        · have y0 := B.out.cell (i := 0) rfl
          have y1 := B.out.cell (i := 1) rfl
          have y2 := B.out.cell (i := 2) rfl
          have y3 := B.out.cell (i := 3) rfl
          have y4 := B.out.cell (i := 4) rfl
          have y5 := B.out.cell (i := 5) rfl
          have y6 := B.out.cell (i := 6) rfl
          have fy0 := B.out.frozen 0
          have fy1 := B.out.frozen 1
          have fy2 := B.out.frozen 2
          have fy3 := B.out.frozen 3
          have fy4 := B.out.frozen 4
          have fy5 := B.out.frozen 5
          have fy6 := B.out.frozen 6
          go_wp2_with fail
          go_meet
          case rel => exact ⟨_, ⟨3, z, r, m, k, e, 0⟩, rfl, (by refine ⟨?_, ?_, ?_, ?_, ?_, ?_, ?_, ?_, ?_, ?_, ?_, ?_, ?_, ?_⟩ <;> simp only <;> omega), (T.out).more (by omega), R.out, B.out⟩
        · have y0 := B.out.cell (i := 0) rfl
          have y1 := B.out.cell (i := 1) rfl
          have y2 := B.out.cell (i := 2) rfl
          have y3 := B.out.cell (i := 3) rfl
          have y4 := B.out.cell (i := 4) rfl
          have y5 := B.out.cell (i := 5) rfl
          have y6 := B.out.cell (i := 6) rfl
          have fy0 := B.out.frozen 0
          have fy1 := B.out.frozen 1
          have fy2 := B.out.frozen 2
          have fy3 := B.out.frozen 3
          have fy4 := B.out.frozen 4
          have fy5 := B.out.frozen 5
          have fy6 := B.out.frozen 6
          go_wp2_with fail
          go_meet
          case rel => exact ⟨_, ⟨4, z, r, m, k, e, 0⟩, rfl, (by refine ⟨?_, ?_, ?_, ?_, ?_, ?_, ?_, ?_, ?_, ?_, ?_, ?_, ?_, ?_⟩ <;> simp only <;> omega), (T.out).more (by omega), R.out, B.out⟩
        · have y0 := B.out.cell (i := 0) rfl
          have y1 := B.out.cell (i := 1) rfl
          have y2 := B.out.cell (i := 2) rfl
          have y3 := B.out.cell (i := 3) rfl
          have y4 := B.out.cell (i := 4) rfl
          have y5 := B.out.cell (i := 5) rfl
          have y6 := B.out.cell (i := 6) rfl
          have fy0 := B.out.frozen 0
          have fy1 := B.out.frozen 1
          have fy2 := B.out.frozen 2
          have fy3 := B.out.frozen 3
          have fy4 := B.out.frozen 4
          have fy5 := B.out.frozen 5
          have fy6 := B.out.frozen 6
          go_wp2_with fail
          go_meet
          case rel => exact ⟨_, ⟨5, z, r, m, k, e, 0⟩, rfl, (by refine ⟨?_, ?_, ?_, ?_, ?_, ?_, ?_, ?_, ?_, ?_, ?_, ?_, ?_, ?_⟩ <;> simp only <;> omega), (T.out).more (by omega), R.out, B.out⟩
        · have y0 := B.out.cell (i := 0) rfl
          have y1 := B.out.cell (i := 1) rfl
          have y2 := B.out.cell (i := 2) rfl
          have y3 := B.out.cell (i := 3) rfl
          have y4 := B.out.cell (i := 4) rfl
          have y5 := B.out.cell (i := 5) rfl
          have y6 := B.out.cell (i := 6) rfl
          have fy0 := B.out.frozen 0
          have fy1 := B.out.frozen 1
          have fy2 := B.out.frozen 2
          have fy3 := B.out.frozen 3
          have fy4 := B.out.frozen 4
          have fy5 := B.out.frozen 5
          have fy6 := B.out.frozen 6
          go_wp2_with fail
          go_meet
          case rel => exact ⟨_, ⟨6, z, r, m, k, e, 0⟩, rfl, (by refine ⟨?_, ?_, ?_, ?_, ?_, ?_, ?_, ?_, ?_, ?_, ?_, ?_, ?_, ?_⟩ <;> simp only <;> omega), (T.out).more (by omega), R.out, B.out⟩
        · have y0 := B.out.cell (i := 0) rfl
          have y1 := B.out.cell (i := 1) rfl
          have y2 := B.out.cell (i := 2) rfl
          have y3 := B.out.cell (i := 3) rfl
          have y4 := B.out.cell (i := 4) rfl
          have y5 := B.out.cell (i := 5) rfl
          have y6 := B.out.cell (i := 6) rfl
          have fy0 := B.out.frozen 0
          have fy1 := B.out.frozen 1
          have fy2 := B.out.frozen 2
          have fy3 := B.out.frozen 3
          have fy4 := B.out.frozen 4
          have fy5 := B.out.frozen 5
          have fy6 := B.out.frozen 6
          go_wp2_with fail
          go_meet
          case rel => exact ⟨_, ⟨7, z, r, m, k, e, 0⟩, rfl, (by refine ⟨?_, ?_, ?_, ?_, ?_, ?_, ?_, ?_, ?_, ?_, ?_, ?_, ?_, ?_⟩ <;> simp only <;> omega), (T.out).more (by omega), R.out, B.out⟩
        · have y0 := B.out.cell (i := 0) rfl
          have y1 := B.out.cell (i := 1) rfl
          have y2 := B.out.cell (i := 2) rfl
          have y3 := B.out.cell (i := 3) rfl
          have y4 := B.out.cell (i := 4) rfl
          have y5 := B.out.cell (i := 5) rfl
          have y6 := B.out.cell (i := 6) rfl
          have fy0 := B.out.frozen 0
          have fy1 := B.out.frozen 1
          have fy2 := B.out.frozen 2
          have fy3 := B.out.frozen 3
          have fy4 := B.out.frozen 4
          have fy5 := B.out.frozen 5
          have fy6 := B.out.frozen 6
          go_wp2_with fail
          go_meet
          case rel => exact ⟨_, ⟨8, z, r, m, k, e, 0⟩, rfl, (by refine ⟨?_, ?_, ?_, ?_, ?_, ?_, ?_, ?_, ?_, ?_, ?_, ?_, ?_, ?_⟩ <;> simp only <;> omega), (T.out).more (by omega), R.out, B.out⟩
        · have y0 := B.out.cell (i := 0) rfl
          have y1 := B.out.cell (i := 1) rfl
          have y2 := B.out.cell (i := 2) rfl
          have y3 := B.out.cell (i := 3) rfl
          have y4 := B.out.cell (i := 4) rfl
          have y5 := B.out.cell (i := 5) rfl
          have y6 := B.out.cell (i := 6) rfl
          have fy0 := B.out.frozen 0
          have fy1 := B.out.frozen 1
          have fy2 := B.out.frozen 2
          have fy3 := B.out.frozen 3
          have fy4 := B.out.frozen 4
          have fy5 := B.out.frozen 5
          have fy6 := B.out.frozen 6
          go_wp2_with fail
          go_meet
          case rel => exact ⟨_, ⟨9, 2, r, m, k, e, 0⟩, rfl, (by refine ⟨?_, ?_, ?_, ?_, ?_, ?_, ?_, ?_, ?_, ?_, ?_, ?_, ?_, ?_⟩ <;> simp only <;> omega), ((T.out.setNew h G 1 (.int .i64 2) (by omega))).more (by omega), (R.out.other G 1 (.int .i64 2) (by omega)), (B.out.set 1 (.int .i64 2))⟩
        · have y0 := B.out.cell (i := 0) rfl
          have y1 := B.out.cell (i := 1) rfl
          have y2 := B.out.cell (i := 2) rfl
          have y3 := B.out.cell (i := 3) rfl
          have y4 := B.out.cell (i := 4) rfl
          have y5 := B.out.cell (i := 5) rfl
          have y6 := B.out.cell (i := 6) rfl
          have fy0 := B.out.frozen 0
          have fy1 := B.out.frozen 1
          have fy2 := B.out.frozen 2
          have fy3 := B.out.frozen 3
          have fy4 := B.out.frozen 4
          have fy5 := B.out.frozen 5
          have fy6 := B.out.frozen 6
          go_wp2_with fail
          go_meet
          case rel => exact ⟨_, ⟨10, 2, r, m, k, e, 0⟩, rfl, (by refine ⟨?_, ?_, ?_, ?_, ?_, ?_, ?_, ?_, ?_, ?_, ?_, ?_, ?_, ?_⟩ <;> simp only <;> omega), ((T.out.setNew h G 1 (.int .i64 2) (by omega))).more (by omega), (R.out.other G 1 (.int .i64 2) (by omega)), (B.out.set 1 (.int .i64 2))⟩
        · have y0 := B.out.cell (i := 0) rfl
          have y1 := B.out.cell (i := 1) rfl
          have y2 := B.out.cell (i := 2) rfl
          have y3 := B.out.cell (i := 3) rfl
          have y4 := B.out.cell (i := 4) rfl
          have y5 := B.out.cell (i := 5) rfl
          have y6 := B.out.cell (i := 6) rfl
          have fy0 := B.out.frozen 0
          have fy1 := B.out.frozen 1
          have fy2 := B.out.frozen 2
          have fy3 := B.out.frozen 3
          have fy4 := B.out.frozen 4
          have fy5 := B.out.frozen 5
          have fy6 := B.out.frozen 6
          go_wp2_with fail
          clear y0 y1 y2 y3 y4 y5 y6 fy0 fy1 fy2 fy3 fy4 fy5 fy6
          have T1 := hide (T.out.setNew h G 2 (.int .i64 0) (by omega))
          have R1 := hide (R.out.other G 2 (.int .i64 0) (by omega))
          have B1 : Hid (Blk (V.setCell ⟨G, 2, none⟩ (.int .i64 0)) G #[.int .i64 11, .int .i64 z, .int .i64 0, .int .i64 m, .int .i64 k, .int .i64 e, .int .i64 0] 36) := hide (B.out.set 2 (.int .i64 0))
          refine (pickW T1.out p0 (by omega) 4 (by omega) (by omega)).mono ?_
          rintro e9 v1 ⟨q, rfl, q0, q1, t9, g9⟩
          have U1 := hide t9
          have M1 := hide (R1.out.by2 g9 (by simp; omega))
          have N1 := hide (B1.out.by2 g9 (by simp; omega))
          clear t9 g9
          have y0 := N1.out.cell (i := 0) rfl
          have y1 := N1.out.cell (i := 1) rfl
          have y2 := N1.out.cell (i := 2) rfl
          have y3 := N1.out.cell (i := 3) rfl
          have y4 := N1.out.cell (i := 4) rfl
          have y5 := N1.out.cell (i := 5) rfl
          have y6 := N1.out.cell (i := 6) rfl
          have fy0 := N1.out.frozen 0
          have fy1 := N1.out.frozen 1
          have fy2 := N1.out.frozen 2
          have fy3 := N1.out.frozen 3
          have fy4 := N1.out.frozen 4
          have fy5 := N1.out.frozen 5
          have fy6 := N1.out.frozen 6
          go_wp2_with fail
          go_meet
          case rel => exact ⟨_, ⟨11, z, 0, m, k, e, q⟩, rfl, (by refine ⟨?_, ?_, ?_, ?_, ?_, ?_, ?_, ?_, ?_, ?_, ?_, ?_, ?_, ?_⟩ <;> simp only <;> omega), ((U1.out.setNew h G 6 (.int .i64 q) (by omega))).more (by omega), (M1.out.other G 6 (.int .i64 q) (by omega)), (N1.out.set 6 (.int .i64 q))⟩
        · have y0 := B.out.cell (i := 0) rfl
          have y1 := B.out.cell (i := 1) rfl
          have y2 := B.out.cell (i := 2) rfl
          have y3 := B.out.cell (i := 3) rfl
          have y4 := B.out.cell (i := 4) rfl
          have y5 := B.out.cell (i := 5) rfl
          have y6 := B.out.cell (i := 6) rfl
          have fy0 := B.out.frozen 0
          have fy1 := B.out.frozen 1
          have fy2 := B.out.frozen 2
          have fy3 := B.out.frozen 3
          have fy4 := B.out.frozen 4
          have fy5 := B.out.frozen 5
          have fy6 := B.out.frozen 6
          go_wp2_with fail
          clear y0 y1 y2 y3 y4 y5 y6 fy0 fy1 fy2 fy3 fy4 fy5 fy6
          have TD := hide (wentD T.out)
          have RD : Hid (Blk V.drew w.heap.size #[.int .i64 0, .int .i64 0, .int .i64 0, .int .i64 0, .int .i64 0, .int .i64 0, .int .i64 0] 36) := hide R.out
          have BD : Hid (Blk V.drew G #[.int .i64 12, .int .i64 z, .int .i64 r, .int .i64 m, .int .i64 k, .int .i64 e, .int .i64 0] 36) := hide B.out
          have yd : V.drew.cell? ⟨G, 0, none⟩ = some (.int .i64 12) := BD.out.cell (i := 0) rfl
          have yv : V.cell? ⟨G, 0, none⟩ = some (.int .i64 12) := B.out.cell (i := 0) rfl
          go_region_held3 (fun w' => w'.cell? ⟨G, 0, none⟩ = some (.int .i64 12)) (first | with_reducible exact yb | with_reducible exact ya | with_reducible exact yd | (show World.cell? _ _ = _; rw [World.cell?_setCell_other _ _ _ _ (by simp)]; exact yb) | go_keep) (first | (go_at_call 25; have z9 := U1; refine (pickW U1.out p0 (by omega) 7 (by omega) (by omega)).mono ?_; rintro e9 v2 ⟨u, rfl, u0, u1, t9, g9⟩; have U2 := hide t9; have M2 := hide (M1.out.by2 g9 (by simp; omega)); have N2 : Hid (Blk v2 G #[.int .i64 12, .int .i64 z, .int .i64 r, .int .i64 m, .int .i64 k, .int .i64 e, .int .i64 0] 36) := hide (N1.out.by2 g9 (by simp; omega)); have yb : v2.cell? ⟨G, 0, none⟩ = some (.int .i64 12) := N2.out.cell (i := 0) rfl; have yc : v2.cell? ⟨G, 6, none⟩ = some (.int .i64 0) := N2.out.cell (i := 6) rfl; have yf := N2.out.frozen 6; have pr : 0 ≤ t * (1 + u) ∧ t * (1 + u) ≤ 7 := small_mul t0 t1 u0 u1; have hp0 := pr.1; have hp1 := pr.2; have hx := wrap_small hp0 hp1; clear t9 g9 pr) | (go_at_call 25; refine (pickW TD.out p0 (by omega) 2 (by omega) (by omega)).mono ?_; rintro e9 v1 ⟨t, rfl, t0, t1, t9, g9⟩; have U1 := hide t9; have M1 := hide (RD.out.by2 g9 (by simp; omega)); have N1 : Hid (Blk v1 G #[.int .i64 12, .int .i64 z, .int .i64 r, .int .i64 m, .int .i64 k, .int .i64 e, .int .i64 0] 36) := hide (BD.out.by2 g9 (by simp; omega)); have ya : v1.cell? ⟨G, 0, none⟩ = some (.int .i64 12) := N1.out.cell (i := 0) rfl; clear t9 g9) | (go_at_call 56; refine (l1FlagD _ _ _).mono ?_; rintro e9 w' ⟨rfl, hw⟩; have hw2 := hw.symm; clear hw; subst hw2))
          obtain ⟨sv, hsv⟩ : ∃ sv : Int, sv = IntKind.i64.wrap (t * IntKind.i64.wrap (1 + IntKind.i64.wrap (u * Pl.fl1 true 1))) := ⟨_, rfl⟩
          obtain ⟨sv0, sv1⟩ : 0 ≤ sv ∧ sv ≤ 7 := by rw [hsv]; exact sub_small true t0 t1 u0 u1
          rw [← hsv]
          clear hsv hp0 hp1 hx yc yf yb ya yd yv
          have h8 := Pl.and7 sv
          have T3 := hide (U2.out.setNew h G 6 (.int .i64 sv) (by omega))
          have R3 := hide (M2.out.other G 6 (.int .i64 sv) (by omega))
          have B3 : Hid (Blk (v2.setCell ⟨G, 6, none⟩ (.int .i64 sv)) G #[.int .i64 12, .int .i64 z, .int .i64 r, .int .i64 m, .int .i64 k, .int .i64 e, .int .i64 sv] 36) := hide (N2.out.set 6 (.int .i64 sv))
          obtain ⟨J, hJ⟩ : ∃ X : World, X = v2.setCell ⟨G, 6, none⟩ (.int .i64 sv) := ⟨_, rfl⟩
          rw [← hJ] at T3 R3 B3 ⊢
          clear hJ
          have y0 := B3.out.cell (i := 0) rfl
          have y1 := B3.out.cell (i := 1) rfl
          have y2 := B3.out.cell (i := 2) rfl
          have y3 := B3.out.cell (i := 3) rfl
          have y4 := B3.out.cell (i := 4) rfl
          have y5 := B3.out.cell (i := 5) rfl
          have y6 := B3.out.cell (i := 6) rfl
          have fy0 := B3.out.frozen 0
          have fy1 := B3.out.frozen 1
          have fy2 := B3.out.frozen 2
          have fy3 := B3.out.frozen 3
          have fy4 := B3.out.frozen 4
          have fy5 := B3.out.frozen 5
          have fy6 := B3.out.frozen 6
          go_wp2_with fail
          clear y0 y1 y2 y3 y4 y5 y6 fy0 fy1 fy2 fy3 fy4 fy5 fy6
          have T6 := hide (T3.out.setNew h G 6 (.int .i64 (sv % 8)) (by omega))
          have R6 := hide (R3.out.other G 6 (.int .i64 (sv % 8)) (by omega))
          have B6 : Hid (Blk (J.setCell ⟨G, 6, none⟩ (.int .i64 (sv % 8))) G #[.int .i64 12, .int .i64 z, .int .i64 r, .int .i64 m, .int .i64 k, .int .i64 e, .int .i64 (sv % 8)] 36) := hide (B3.out.set 6 (.int .i64 (sv % 8)))
          refine (pickW T6.out p0 (by omega) 4 (by omega) (by omega)).mono ?_
          rintro e9 v6 ⟨q, rfl, q0, q1, t9, g9⟩
          have U6 := hide t9
          have M6 := hide (R6.out.by2 g9 (by simp; omega))
          have N6 := hide (B6.out.by2 g9 (by simp; omega))
          clear t9 g9
          have y0 := N6.out.cell (i := 0) rfl
          have y1 := N6.out.cell (i := 1) rfl
          have y2 := N6.out.cell (i := 2) rfl
          have y3 := N6.out.cell (i := 3) rfl
          have y4 := N6.out.cell (i := 4) rfl
          have y5 := N6.out.cell (i := 5) rfl
          have y6 := N6.out.cell (i := 6) rfl
          have fy0 := N6.out.frozen 0
          have fy1 := N6.out.frozen 1
          have fy2 := N6.out.frozen 2
          have fy3 := N6.out.frozen 3
          have fy4 := N6.out.frozen 4
          have fy5 := N6.out.frozen 5
          have fy6 := N6.out.frozen 6
          go_wp2_with fail
          go_meet
          case rel => exact ⟨_, ⟨12, z, r, 0, q, 0, (sv % 8)⟩, rfl, (by refine ⟨?_, ?_, ?_, ?_, ?_, ?_, ?_, ?_, ?_, ?_, ?_, ?_, ?_, ?_⟩ <;> simp only <;> omega), ((((U6.out.setNew h G 3 (.int .i64 0) (by omega)).setNew h G 4 (.int .i64 q) (by omega)).setNew h G 5 (.int .i64 0) (by omega))).more (by omega), (((M6.out.other G 3 (.int .i64 0) (by omega)).other G 4 (.int .i64 q) (by omega)).other G 5 (.int .i64 0) (by omega)), (((N6.out.set 3 (.int .i64 0)).set 4 (.int .i64 q)).set 5 (.int .i64 0))⟩
        · have y0 := B.out.cell (i := 0) rfl
          have y1 := B.out.cell (i := 1) rfl
          have y2 := B.out.cell (i := 2) rfl
          have y3 := B.out.cell (i := 3) rfl
          have y4 := B.out.cell (i := 4) rfl
          have y5 := B.out.cell (i := 5) rfl
          have y6 := B.out.cell (i := 6) rfl
          have fy0 := B.out.frozen 0
          have fy1 := B.out.frozen 1
          have fy2 := B.out.frozen 2
          have fy3 := B.out.frozen 3
          have fy4 := B.out.frozen 4
          have fy5 := B.out.frozen 5
          have fy6 := B.out.frozen 6
          go_wp2_with fail
          clear y0 y1 y2 y3 y4 y5 y6 fy0 fy1 fy2 fy3 fy4 fy5 fy6
          refine (pickW T.out p0 (by omega) 2 (by omega) (by omega)).mono ?_
          rintro e9 v1 ⟨q, rfl, q0, q1, t9, g9⟩
          have U1 := hide t9
          have M1 := hide (R.out.by2 g9 (by simp; omega))
          have N1 := hide (B.out.by2 g9 (by simp; omega))
          clear t9 g9
          go_wp2_with fail
          have T2 := hide U1.out
          have R2 := hide M1.out
          have B2 : Hid (Blk v1 G #[.int .i64 13, .int .i64 z, .int .i64 r, .int .i64 m, .int .i64 k, .int .i64 e, .int .i64 0] 36) := hide N1.out
          refine (pickW T2.out p0 (by omega) 8 (by omega) (by omega)).mono ?_
          rintro e9 v2 ⟨t, rfl, t0, t1, t9, g9⟩
          have U2 := hide t9
          have M2 := hide (R2.out.by2 g9 (by simp; omega))
          have N2 := hide (B2.out.by2 g9 (by simp; omega))
          clear t9 g9
          go_wp2_with fail
          have T3 := hide U2.out
          have R3 := hide M2.out
          have B3 : Hid (Blk v2 G #[.int .i64 13, .int .i64 z, .int .i64 r, .int .i64 m, .int .i64 k, .int .i64 e, .int .i64 0] 36) := hide N2.out
          refine (amongW T3.out p0 (by omega) [2, 4, 6, 8, 65526, 65530, 0, 3] 0 65530 (by intro x hx; simp at hx; omega) 8 8 rfl (by omega) (by omega)).mono ?_
          rintro e9 v3 ⟨u, rfl, u0, u1, t9, g9⟩
          have U3 := hide t9
          have M3 := hide (R3.out.by2 g9 (by simp; omega))
          have N3 := hide (B3.out.by2 g9 (by simp; omega))
          clear t9 g9
          have y0 := N3.out.cell (i := 0) rfl
          have y1 := N3.out.cell (i := 1) rfl
          have y2 := N3.out.cell (i := 2) rfl
          have y3 := N3.out.cell (i := 3) rfl
          have y4 := N3.out.cell (i := 4) rfl
          have y5 := N3.out.cell (i := 5) rfl
          have y6 := N3.out.cell (i := 6) rfl
          have fy0 := N3.out.frozen 0
          have fy1 := N3.out.frozen 1
          have fy2 := N3.out.frozen 2
          have fy3 := N3.out.frozen 3
          have fy4 := N3.out.frozen 4
          have fy5 := N3.out.frozen 5
          have fy6 := N3.out.frozen 6
          go_wp2_with fail
          go_meet
          case rel => exact ⟨_, ⟨13, 2, q, 7, 0, u, t⟩, rfl, (by refine ⟨?_, ?_, ?_, ?_, ?_, ?_, ?_, ?_, ?_, ?_, ?_, ?_, ?_, ?_⟩ <;> simp only <;> omega), ((((((((U3.out.setNew h G 0 (.int .i64 13) (by omega)).setNew h G 1 (.int .i64 2) (by omega)).setNew h G 2 (.int .i64 q) (by omega)).setNew h G 3 (.int .i64 7) (by omega)).setNew h G 4 (.int .i64 0) (by omega)).setNew h G 5 (.int .i64 u) (by omega)).setNew h G 6 (.int .i64 t) (by omega))).more (by omega), (((((((M3.out.other G 0 (.int .i64 13) (by omega)).other G 1 (.int .i64 2) (by omega)).other G 2 (.int .i64 q) (by omega)).other G 3 (.int .i64 7) (by omega)).other G 4 (.int .i64 0) (by omega)).other G 5 (.int .i64 u) (by omega)).other G 6 (.int .i64 t) (by omega)), (((((((N3.out.set 0 (.int .i64 13)).set 1 (.int .i64 2)).set 2 (.int .i64 q)).set 3 (.int .i64 7)).set 4 (.int .i64 0)).set 5 (.int .i64 u)).set 6 (.int .i64 t))⟩
        · have y0 := B.out.cell (i := 0) rfl
          have y1 := B.out.cell (i := 1) rfl
          have y2 := B.out.cell (i := 2) rfl
          have y3 := B.out.cell (i := 3) rfl
          have y4 := B.out.cell (i := 4) rfl
          have y5 := B.out.cell (i := 5) rfl
          have y6 := B.out.cell (i := 6) rfl
          have fy0 := B.out.frozen 0
          have fy1 := B.out.frozen 1
          have fy2 := B.out.frozen 2
          have fy3 := B.out.frozen 3
          have fy4 := B.out.frozen 4
          have fy5 := B.out.frozen 5
          have fy6 := B.out.frozen 6
          go_wp2_with fail
          clear y0 y1 y2 y3 y4 y5 y6 fy0 fy1 fy2 fy3 fy4 fy5 fy6
          have T1 := hide ((T.out.setNew h G 1 (.int .i64 2) (by omega)).setNew h G 2 (.int .i64 0) (by omega))
          have R1 := hide ((R.out.other G 1 (.int .i64 2) (by omega)).other G 2 (.int .i64 0) (by omega))
          have B1 : Hid (Blk ((V.setCell ⟨G, 1, none⟩ (.int .i64 2)).setCell ⟨G, 2, none⟩ (.int .i64 0)) G #[.int .i64 14, .int .i64 2, .int .i64 0, .int .i64 m, .int .i64 k, .int .i64 e, .int .i64 0] 36) := hide ((B.out.set 1 (.int .i64 2)).set 2 (.int .i64 0))
          refine (pickW T1.out p0 (by omega) 2 (by omega) (by omega)).mono ?_
          rintro e9 v1 ⟨q, rfl, q0, q1, t9, g9⟩
          have U1 := hide t9
          have M1 := hide (R1.out.by2 g9 (by simp; omega))
          have N1 := hide (B1.out.by2 g9 (by simp; omega))
          clear t9 g9
          have y0 := N1.out.cell (i := 0) rfl
          have y1 := N1.out.cell (i := 1) rfl
          have y2 := N1.out.cell (i := 2) rfl
          have y3 := N1.out.cell (i := 3) rfl
          have y4 := N1.out.cell (i := 4) rfl
          have y5 := N1.out.cell (i := 5) rfl
          have y6 := N1.out.cell (i := 6) rfl
          have fy0 := N1.out.frozen 0
          have fy1 := N1.out.frozen 1
          have fy2 := N1.out.frozen 2
          have fy3 := N1.out.frozen 3
          have fy4 := N1.out.frozen 4
          have fy5 := N1.out.frozen 5
          have fy6 := N1.out.frozen 6
          go_wp2_with fail
          go_meet
          case rel => exact ⟨_, ⟨14, 2, 0, m, k, e, q⟩, rfl, (by refine ⟨?_, ?_, ?_, ?_, ?_, ?_, ?_, ?_, ?_, ?_, ?_, ?_, ?_, ?_⟩ <;> simp only <;> omega), ((U1.out.setNew h G 6 (.int .i64 q) (by omega))).more (by omega), (M1.out.other G 6 (.int .i64 q) (by omega)), (N1.out.set 6 (.int .i64 q))⟩
        · have y0 := B.out.cell (i := 0) rfl
          have y1 := B.out.cell (i := 1) rfl
          have y2 := B.out.cell (i := 2) rfl
          have y3 := B.out.cell (i := 3) rfl
          have y4 := B.out.cell (i := 4) rfl
          have y5 := B.out.cell (i := 5) rfl
          have y6 := B.out.cell (i := 6) rfl
          have fy0 := B.out.frozen 0
          have fy1 := B.out.frozen 1
          have fy2 := B.out.frozen 2
          have fy3 := B.out.frozen 3
          have fy4 := B.out.frozen 4
          have fy5 := B.out.frozen 5
          have fy6 := B.out.frozen 6
          go_wp2_with fail
          clear y0 y1 y2 y3 y4 y5 y6 fy0 fy1 fy2 fy3 fy4 fy5 fy6
          refine (amongW T.out p0 (by omega) [0, 1, 2, 2, 3, 4, 5, 6] 0 6 (by intro x hx; simp at hx; omega) 8 8 rfl (by omega) (by omega)).mono ?_
          rintro e9 v1 ⟨u, rfl, u0, u1, t9, g9⟩
          have U1 := hide t9
          have M1 := hide (R.out.by2 g9 (by simp; omega))
          have N1 := hide (B.out.by2 g9 (by simp; omega))
          clear t9 g9
          have y0 := N1.out.cell (i := 0) rfl
          have y1 := N1.out.cell (i := 1) rfl
          have y2 := N1.out.cell (i := 2) rfl
          have y3 := N1.out.cell (i := 3) rfl
          have y4 := N1.out.cell (i := 4) rfl
          have y5 := N1.out.cell (i := 5) rfl
          have y6 := N1.out.cell (i := 6) rfl
          have fy0 := N1.out.frozen 0
          have fy1 := N1.out.frozen 1
          have fy2 := N1.out.frozen 2
          have fy3 := N1.out.frozen 3
          have fy4 := N1.out.frozen 4
          have fy5 := N1.out.frozen 5
          have fy6 := N1.out.frozen 6
          go_upto_region 24 with fail
          have T9 := hide (((((((U1.out.setNew h G 0 (.int .i64 15) (by omega)).setNew h G 1 (.int .i64 2) (by omega)).setNew h G 2 (.int .i64 0) (by omega)).setNew h G 3 (.int .i64 0) (by omega)).setNew h G 4 (.int .i64 0) (by omega)).setNew h G 5 (.int .i64 0) (by omega)).setNew h G 6 (.int .i64 u) (by omega))
          have R9 := hide (((((((M1.out.other G 0 (.int .i64 15) (by omega)).other G 1 (.int .i64 2) (by omega)).other G 2 (.int .i64 0) (by omega)).other G 3 (.int .i64 0) (by omega)).other G 4 (.int .i64 0) (by omega)).other G 5 (.int .i64 0) (by omega)).other G 6 (.int .i64 u) (by omega))
          have B9 : Hid (Blk (((((((v1.setCell ⟨G, 0, none⟩ (.int .i64 15)).setCell ⟨G, 1, none⟩ (.int .i64 2)).setCell ⟨G, 2, none⟩ (.int .i64 0)).setCell ⟨G, 3, none⟩ (.int .i64 0)).setCell ⟨G, 4, none⟩ (.int .i64 0)).setCell ⟨G, 5, none⟩ (.int .i64 0)).setCell ⟨G, 6, none⟩ (.int .i64 u)) G #[.int .i64 15, .int .i64 2, .int .i64 0, .int .i64 0, .int .i64 0, .int .i64 0, .int .i64 u] 36) := hide (((((((N1.out.set 0 (.int .i64 15)).set 1 (.int .i64 2)).set 2 (.int .i64 0)).set 3 (.int .i64 0)).set 4 (.int .i64 0)).set 5 (.int .i64 0)).set 6 (.int .i64 u))
          obtain ⟨J9, hJ9⟩ : ∃ X : World, X = (((((((v1.setCell ⟨G, 0, none⟩ (.int .i64 15)).setCell ⟨G, 1, none⟩ (.int .i64 2)).setCell ⟨G, 2, none⟩ (.int .i64 0)).setCell ⟨G, 3, none⟩ (.int .i64 0)).setCell ⟨G, 4, none⟩ (.int .i64 0)).setCell ⟨G, 5, none⟩ (.int .i64 0)).setCell ⟨G, 6, none⟩ (.int .i64 u)) := ⟨_, rfl⟩
          rw [← hJ9] at T9 R9 B9 ⊢
          clear hJ9
          clear y0 y1 y2 y3 y4 y5 y6 fy0 fy1 fy2 fy3 fy4 fy5 fy6
          have y0 := B9.out.cell (i := 0) rfl
          have y1 := B9.out.cell (i := 1) rfl
          have y2 := B9.out.cell (i := 2) rfl
          have y3 := B9.out.cell (i := 3) rfl
          have y4 := B9.out.cell (i := 4) rfl
          have y5 := B9.out.cell (i := 5) rfl
          have y6 := B9.out.cell (i := 6) rfl
          have fy0 := B9.out.frozen 0
          have fy1 := B9.out.frozen 1
          have fy2 := B9.out.frozen 2
          have fy3 := B9.out.frozen 3
          have fy4 := B9.out.frozen 4
          have fy5 := B9.out.frozen 5
          have fy6 := B9.out.frozen 6
          by_cases h3 : 3 < u
          · have d1 : decide (3 < u) = true := by simpa using h3
            have d2 : (u == 3) = false := by simp; omega
            go_wp2_with fail
            clear y0 y1 y2 y3 y4 y5 y6 fy0 fy1 fy2 fy3 fy4 fy5 fy6
            have T2 := hide T9.out
            have R2 := hide R9.out
            have B2 : Hid (Blk J9 G #[.int .i64 15, .int .i64 2, .int .i64 0, .int .i64 0, .int .i64 0, .int .i64 0, .int .i64 u] 36) := hide B9.out
            refine (pickW T2.out p0 (by omega) 4 (by omega) (by omega)).mono ?_
            rintro e9 v2 ⟨q, rfl, q0, q1, t9, g9⟩
            have U2 := hide t9
            have M2 := hide (R2.out.by2 g9 (by simp; omega))
            have N2 := hide (B2.out.by2 g9 (by simp; omega))
            clear t9 g9
            have y0 := N2.out.cell (i := 0) rfl
            have y1 := N2.out.cell (i := 1) rfl
            have y2 := N2.out.cell (i := 2) rfl
            have y3 := N2.out.cell (i := 3) rfl
            have y4 := N2.out.cell (i := 4) rfl
            have y5 := N2.out.cell (i := 5) rfl
            have y6 := N2.out.cell (i := 6) rfl
            have fy0 := N2.out.frozen 0
            have fy1 := N2.out.frozen 1
            have fy2 := N2.out.frozen 2
            have fy3 := N2.out.frozen 3
            have fy4 := N2.out.frozen 4
            have fy5 := N2.out.frozen 5
            have fy6 := N2.out.frozen 6
            go_wp2_with fail
            go_meet
            case rel => exact ⟨_, ⟨15, 2, q, 0, 0, 0, u⟩, rfl, (by refine ⟨?_, ?_, ?_, ?_, ?_, ?_, ?_, ?_, ?_, ?_, ?_, ?_, ?_, ?_⟩ <;> simp only <;> omega), ((U2.out.setNew h G 2 (.int .i64 q) (by omega))).more (by omega), (M2.out.other G 2 (.int .i64 q) (by omega)), (N2.out.set 2 (.int .i64 q))⟩
          · by_cases h4 : u = 3
            · have d1 : decide (3 < u) = false := by simpa using h3
              have d2 : (u == 3) = true := by simpa using h4
              go_wp2_with fail
              clear y0 y1 y2 y3 y4 y5 y6 fy0 fy1 fy2 fy3 fy4 fy5 fy6
              have T2 := hide T9.out
              have R2 := hide R9.out
              have B2 : Hid (Blk J9 G #[.int .i64 15, .int .i64 2, .int .i64 0, .int .i64 0, .int .i64 0, .int .i64 0, .int .i64 u] 36) := hide B9.out
              refine (amongW T2.out p0 (by omega) [0, 256, 512, 1023] 0 1023 (by intro x hx; simp at hx; omega) 4 4 rfl (by omega) (by omega)).mono ?_
              rintro e9 v2 ⟨x9, rfl, x90, x91, t9, g9⟩
              have U2 := hide t9
              have M2 := hide (R2.out.by2 g9 (by simp; omega))
              have N2 := hide (B2.out.by2 g9 (by simp; omega))
              clear t9 g9
              have y0 := N2.out.cell (i := 0) rfl
              have y1 := N2.out.cell (i := 1) rfl
              have y2 := N2.out.cell (i := 2) rfl
              have y3 := N2.out.cell (i := 3) rfl
              have y4 := N2.out.cell (i := 4) rfl
              have y5 := N2.out.cell (i := 5) rfl
              have y6 := N2.out.cell (i := 6) rfl
              have fy0 := N2.out.frozen 0
              have fy1 := N2.out.frozen 1
              have fy2 := N2.out.frozen 2
              have fy3 := N2.out.frozen 3
              have fy4 := N2.out.frozen 4
              have fy5 := N2.out.frozen 5
              have fy6 := N2.out.frozen 6
              go_wp2_with fail
              go_meet
              case rel => exact ⟨_, ⟨15, 2, 0, 7, 0, x9, u⟩, rfl, (by refine ⟨?_, ?_, ?_, ?_, ?_, ?_, ?_, ?_, ?_, ?_, ?_, ?_, ?_, ?_⟩ <;> simp only <;> omega), ((((U2.out.setNew h G 3 (.int .i64 7) (by omega)).setNew h G 4 (.int .i64 0) (by omega)).setNew h G 5 (.int .i64 x9) (by omega))).more (by omega), (((M2.out.other G 3 (.int .i64 7) (by omega)).other G 4 (.int .i64 0) (by omega)).other G 5 (.int .i64 x9) (by omega)), (((N2.out.set 3 (.int .i64 7)).set 4 (.int .i64 0)).set 5 (.int .i64 x9))⟩
            · have d1 : decide (3 < u) = false := by simpa using h3
              have d2 : (u == 3) = false := by simpa using h4
              go_wp2_with fail
              go_meet
              case rel => exact ⟨_, ⟨15, 2, 0, 0, 0, 0, u⟩, rfl, (by refine ⟨?_, ?_, ?_, ?_, ?_, ?_, ?_, ?_, ?_, ?_, ?_, ?_, ?_, ?_⟩ <;> simp only <;> omega), (T9.out).more (by omega), R9.out, B9.out⟩
        · have y0 := B.out.cell (i := 0) rfl
          have y1 := B.out.cell (i := 1) rfl
          have y2 := B.out.cell (i := 2) rfl
          have y3 := B.out.cell (i := 3) rfl
          have y4 := B.out.cell (i := 4) rfl
          have y5 := B.out.cell (i := 5) rfl
          have y6 := B.out.cell (i := 6) rfl
          have fy0 := B.out.frozen 0
          have fy1 := B.out.frozen 1
          have fy2 := B.out.frozen 2
          have fy3 := B.out.frozen 3
          have fy4 := B.out.frozen 4
          have fy5 := B.out.frozen 5
          have fy6 := B.out.frozen 6
          go_wp2_with fail
          go_meet
          case rel => exact ⟨_, ⟨16, 2, r, m, k, e, 0⟩, rfl, (by refine ⟨?_, ?_, ?_, ?_, ?_, ?_, ?_, ?_, ?_, ?_, ?_, ?_, ?_, ?_⟩ <;> simp only <;> omega), ((T.out.setNew h G 1 (.int .i64 2) (by omega))).more (by omega), (R.out.other G 1 (.int .i64 2) (by omega)), (B.out.set 1 (.int .i64 2))⟩
        · have y0 := B.out.cell (i := 0) rfl
          have y1 := B.out.cell (i := 1) rfl
          have y2 := B.out.cell (i := 2) rfl
          have y3 := B.out.cell (i := 3) rfl
          have y4 := B.out.cell (i := 4) rfl
          have y5 := B.out.cell (i := 5) rfl
          have y6 := B.out.cell (i := 6) rfl
          have fy0 := B.out.frozen 0
          have fy1 := B.out.frozen 1
          have fy2 := B.out.frozen 2
          have fy3 := B.out.frozen 3
          have fy4 := B.out.frozen 4
          have fy5 := B.out.frozen 5
          have fy6 := B.out.frozen 6
          go_wp2_with fail
          go_meet
          case rel => exact ⟨_, ⟨17, 2, r, m, k, e, 0⟩, rfl, (by refine ⟨?_, ?_, ?_, ?_, ?_, ?_, ?_, ?_, ?_, ?_, ?_, ?_, ?_, ?_⟩ <;> simp only <;> omega), ((T.out.setNew h G 1 (.int .i64 2) (by omega))).more (by omega), (R.out.other G 1 (.int .i64 2) (by omega)), (B.out.set 1 (.int .i64 2))⟩
        · have y0 := B.out.cell (i := 0) rfl
          have y1 := B.out.cell (i := 1) rfl
          have y2 := B.out.cell (i := 2) rfl
          have y3 := B.out.cell (i := 3) rfl
          have y4 := B.out.cell (i := 4) rfl
          have y5 := B.out.cell (i := 5) rfl
          have y6 := B.out.cell (i := 6) rfl
          have fy0 := B.out.frozen 0
          have fy1 := B.out.frozen 1
          have fy2 := B.out.frozen 2
          have fy3 := B.out.frozen 3
          have fy4 := B.out.frozen 4
          have fy5 := B.out.frozen 5
          have fy6 := B.out.frozen 6
          go_wp2_with fail
          clear y0 y1 y2 y3 y4 y5 y6 fy0 fy1 fy2 fy3 fy4 fy5 fy6
          have TD := hide (wentD T.out)
          have RD : Hid (Blk V.drew w.heap.size #[.int .i64 0, .int .i64 0, .int .i64 0, .int .i64 0, .int .i64 0, .int .i64 0, .int .i64 0] 36) := hide R.out
          have BD : Hid (Blk V.drew G #[.int .i64 18, .int .i64 z, .int .i64 r, .int .i64 m, .int .i64 k, .int .i64 e, .int .i64 0] 36) := hide B.out
          have yd : V.drew.cell? ⟨G, 0, none⟩ = some (.int .i64 18) := BD.out.cell (i := 0) rfl
          have yv : V.cell? ⟨G, 0, none⟩ = some (.int .i64 18) := B.out.cell (i := 0) rfl
          go_region_held3 (fun w' => w'.cell? ⟨G, 0, none⟩ = some (.int .i64 18)) (first | with_reducible exact yb | with_reducible exact ya | with_reducible exact yd | (show World.cell? _ _ = _; rw [World.cell?_setCell_other _ _ _ _ (by simp)]; exact yb) | go_keep) (first | (go_at_call 25; have z9 := U1; refine (pickW U1.out p0 (by omega) 7 (by omega) (by omega)).mono ?_; rintro e9 v2 ⟨u, rfl, u0, u1, t9, g9⟩; have U2 := hide t9; have M2 := hide (M1.out.by2 g9 (by simp; omega)); have N2 : Hid (Blk v2 G #[.int .i64 18, .int .i64 z, .int .i64 r, .int .i64 m, .int .i64 k, .int .i64 e, .int .i64 0] 36) := hide (N1.out.by2 g9 (by simp; omega)); have yb : v2.cell? ⟨G, 0, none⟩ = some (.int .i64 18) := N2.out.cell (i := 0) rfl; have yc : v2.cell? ⟨G, 6, none⟩ = some (.int .i64 0) := N2.out.cell (i := 6) rfl; have yf := N2.out.frozen 6; have pr : 0 ≤ t * (1 + u) ∧ t * (1 + u) ≤ 7 := small_mul t0 t1 u0 u1; have hp0 := pr.1; have hp1 := pr.2; have hx := wrap_small hp0 hp1; clear t9 g9 pr) | (go_at_call 25; refine (pickW TD.out p0 (by omega) 2 (by omega) (by omega)).mono ?_; rintro e9 v1 ⟨t, rfl, t0, t1, t9, g9⟩; have U1 := hide t9; have M1 := hide (RD.out.by2 g9 (by simp; omega)); have N1 : Hid (Blk v1 G #[.int .i64 18, .int .i64 z, .int .i64 r, .int .i64 m, .int .i64 k, .int .i64 e, .int .i64 0] 36) := hide (BD.out.by2 g9 (by simp; omega)); have ya : v1.cell? ⟨G, 0, none⟩ = some (.int .i64 18) := N1.out.cell (i := 0) rfl; clear t9 g9) | (go_at_call 56; refine (l1FlagD _ _ _).mono ?_; rintro e9 w' ⟨rfl, hw⟩; have hw2 := hw.symm; clear hw; subst hw2))
          obtain ⟨sv, hsv⟩ : ∃ sv : Int, sv = IntKind.i64.wrap (t * IntKind.i64.wrap (1 + IntKind.i64.wrap (u * Pl.fl1 false 1))) := ⟨_, rfl⟩
          obtain ⟨sv0, sv1⟩ : 0 ≤ sv ∧ sv ≤ 7 := by rw [hsv]; exact sub_small false t0 t1 u0 u1
          rw [← hsv]
          clear hsv hp0 hp1 hx yc yf yb ya yd yv
          have h8 := Pl.and7 sv
          have T3 := hide (U2.out.setNew h G 6 (.int .i64 sv) (by omega))
          have R3 := hide (M2.out.other G 6 (.int .i64 sv) (by omega))
          have B3 : Hid (Blk (v2.setCell ⟨G, 6, none⟩ (.int .i64 sv)) G #[.int .i64 18, .int .i64 z, .int .i64 r, .int .i64 m, .int .i64 k, .int .i64 e, .int .i64 sv] 36) := hide (N2.out.set 6 (.int .i64 sv))
          obtain ⟨J, hJ⟩ : ∃ X : World, X = v2.setCell ⟨G, 6, none⟩ (.int .i64 sv) := ⟨_, rfl⟩
          rw [← hJ] at T3 R3 B3 ⊢
          clear hJ
          have y0 := B3.out.cell (i := 0) rfl
          have y1 := B3.out.cell (i := 1) rfl
          have y2 := B3.out.cell (i := 2) rfl
          have y3 := B3.out.cell (i := 3) rfl
          have y4 := B3.out.cell (i := 4) rfl
          have y5 := B3.out.cell (i := 5) rfl
          have y6 := B3.out.cell (i := 6) rfl
          have fy0 := B3.out.frozen 0
          have fy1 := B3.out.frozen 1
          have fy2 := B3.out.frozen 2
          have fy3 := B3.out.frozen 3
          have fy4 := B3.out.frozen 4
          have fy5 := B3.out.frozen 5
          have fy6 := B3.out.frozen 6
          go_wp2_with fail
          clear y0 y1 y2 y3 y4 y5 y6 fy0 fy1 fy2 fy3 fy4 fy5 fy6
          have T6 := hide (T3.out.setNew h G 6 (.int .i64 (sv % 8)) (by omega))
          have R6 := hide (R3.out.other G 6 (.int .i64 (sv % 8)) (by omega))
          have B6 : Hid (Blk (J.setCell ⟨G, 6, none⟩ (.int .i64 (sv % 8))) G #[.int .i64 18, .int .i64 z, .int .i64 r, .int .i64 m, .int .i64 k, .int .i64 e, .int .i64 (sv % 8)] 36) := hide (B3.out.set 6 (.int .i64 (sv % 8)))
          refine (pickW T6.out p0 (by omega) 4 (by omega) (by omega)).mono ?_
          rintro e9 v6 ⟨q, rfl, q0, q1, t9, g9⟩
          have U6 := hide t9
          have M6 := hide (R6.out.by2 g9 (by simp; omega))
          have N6 := hide (B6.out.by2 g9 (by simp; omega))
          clear t9 g9
          have y0 := N6.out.cell (i := 0) rfl
          have y1 := N6.out.cell (i := 1) rfl
          have y2 := N6.out.cell (i := 2) rfl
          have y3 := N6.out.cell (i := 3) rfl
          have y4 := N6.out.cell (i := 4) rfl
          have y5 := N6.out.cell (i := 5) rfl
          have y6 := N6.out.cell (i := 6) rfl
          have fy0 := N6.out.frozen 0
          have fy1 := N6.out.frozen 1
          have fy2 := N6.out.frozen 2
          have fy3 := N6.out.frozen 3
          have fy4 := N6.out.frozen 4
          have fy5 := N6.out.frozen 5
          have fy6 := N6.out.frozen 6
          go_wp2_with fail
          go_meet
          case rel => exact ⟨_, ⟨18, 1, r, 0, q, 0, (sv % 8)⟩, rfl, (by refine ⟨?_, ?_, ?_, ?_, ?_, ?_, ?_, ?_, ?_, ?_, ?_, ?_, ?_, ?_⟩ <;> simp only <;> omega), (((((U6.out.setNew h G 3 (.int .i64 0) (by omega)).setNew h G 4 (.int .i64 q) (by omega)).setNew h G 5 (.int .i64 0) (by omega)).setNew h G 1 (.int .i64 1) (by omega))).more (by omega), ((((M6.out.other G 3 (.int .i64 0) (by omega)).other G 4 (.int .i64 q) (by omega)).other G 5 (.int .i64 0) (by omega)).other G 1 (.int .i64 1) (by omega)), ((((N6.out.set 3 (.int .i64 0)).set 4 (.int .i64 q)).set 5 (.int .i64 0)).set 1 (.int .i64 1))⟩
        · have y0 := B.out.cell (i := 0) rfl
          have y1 := B.out.cell (i := 1) rfl
          have y2 := B.out.cell (i := 2) rfl
          have y3 := B.out.cell (i := 3) rfl
          have y4 := B.out.cell (i := 4) rfl
          have y5 := B.out.cell (i := 5) rfl
          have y6 := B.out.cell (i := 6) rfl
          have fy0 := B.out.frozen 0
          have fy1 := B.out.frozen 1
          have fy2 := B.out.frozen 2
          have fy3 := B.out.frozen 3
          have fy4 := B.out.frozen 4
          have fy5 := B.out.frozen 5
          have fy6 := B.out.frozen 6
          go_wp2_with fail
          clear y0 y1 y2 y3 y4 y5 y6 fy0 fy1 fy2 fy3 fy4 fy5 fy6
          refine (amongW T.out p0 (by omega) [0, 256, 480, 768, 31] 0 768 (by intro x hx; simp at hx; omega) 5 5 rfl (by omega) (by omega)).mono ?_
          rintro e9 v1 ⟨u, rfl, u0, u1, t9, g9⟩
          have U1 := hide t9
          have M1 := hide (R.out.by2 g9 (by simp; omega))
          have N1 := hide (B.out.by2 g9 (by simp; omega))
          clear t9 g9
          have y0 := N1.out.cell (i := 0) rfl
          have y1 := N1.out.cell (i := 1) rfl
          have y2 := N1.out.cell (i := 2) rfl
          have y3 := N1.out.cell (i := 3) rfl
          have y4 := N1.out.cell (i := 4) rfl
          have y5 := N1.out.cell (i := 5) rfl
          have y6 := N1.out.cell (i := 6) rfl
          have fy0 := N1.out.frozen 0
          have fy1 := N1.out.frozen 1
          have fy2 := N1.out.frozen 2
          have fy3 := N1.out.frozen 3
          have fy4 := N1.out.frozen 4
          have fy5 := N1.out.frozen 5
          have fy6 := N1.out.frozen 6
          go_wp2_with fail
          clear y0 y1 y2 y3 y4 y5 y6 fy0 fy1 fy2 fy3 fy4 fy5 fy6
          have T2 := hide (((((((U1.out.setNew h G 0 (.int .i64 19) (by omega)).setNew h G 1 (.int .i64 2) (by omega)).setNew h G 2 (.int .i64 0) (by omega)).setNew h G 3 (.int .i64 7) (by omega)).setNew h G 4 (.int .i64 0) (by omega)).setNew h G 5 (.int .i64 u) (by omega)).setNew h G 6 (.int .i64 0) (by omega))
          have R2 := hide (((((((M1.out.other G 0 (.int .i64 19) (by omega)).other G 1 (.int .i64 2) (by omega)).other G 2 (.int .i64 0) (by omega)).other G 3 (.int .i64 7) (by omega)).other G 4 (.int .i64 0) (by omega)).other G 5 (.int .i64 u) (by omega)).other G 6 (.int .i64 0) (by omega))
          have B2 : Hid (Blk (((((((v1.setCell ⟨G, 0, none⟩ (.int .i64 19)).setCell ⟨G, 1, none⟩ (.int .i64 2)).setCell ⟨G, 2, none⟩ (.int .i64 0)).setCell ⟨G, 3, none⟩ (.int .i64 7)).setCell ⟨G, 4, none⟩ (.int .i64 0)).setCell ⟨G, 5, none⟩ (.int .i64 u)).setCell ⟨G, 6, none⟩ (.int .i64 0)) G #[.int .i64 19, .int .i64 2, .int .i64 0, .int .i64 7, .int .i64 0, .int .i64 u, .int .i64 0] 36) := hide (((((((N1.out.set 0 (.int .i64 19)).set 1 (.int .i64 2)).set 2 (.int .i64 0)).set 3 (.int .i64 7)).set 4 (.int .i64 0)).set 5 (.int .i64 u)).set 6 (.int .i64 0))
          obtain ⟨J2, hJ2⟩ : ∃ X : World, X = (((((((v1.setCell ⟨G, 0, none⟩ (.int .i64 19)).setCell ⟨G, 1, none⟩ (.int .i64 2)).setCell ⟨G, 2, none⟩ (.int .i64 0)).setCell ⟨G, 3, none⟩ (.int .i64 7)).setCell ⟨G, 4, none⟩ (.int .i64 0)).setCell ⟨G, 5, none⟩ (.int .i64 u)).setCell ⟨G, 6, none⟩ (.int .i64 0)) := ⟨_, rfl⟩
          rw [← hJ2] at T2 R2 B2 ⊢
          clear hJ2
          refine (oneW T2.out p0 (by omega) 2 (by omega) (by omega)).mono ?_
          rintro e9 v2 ⟨on, rfl, t9, g9⟩
          have U2 := hide t9
          have M2 := hide (R2.out.by2 g9 (by simp; omega))
          have N2 := hide (B2.out.by2 g9 (by simp; omega))
          clear t9 g9
          cases on
          · have y0 := N2.out.cell (i := 0) rfl
            have y1 := N2.out.cell (i := 1) rfl
            have y2 := N2.out.cell (i := 2) rfl
            have y3 := N2.out.cell (i := 3) rfl
            have y4 := N2.out.cell (i := 4) rfl
            have y5 := N2.out.cell (i := 5) rfl
            have y6 := N2.out.cell (i := 6) rfl
            have fy0 := N2.out.frozen 0
            have fy1 := N2.out.frozen 1
            have fy2 := N2.out.frozen 2
            have fy3 := N2.out.frozen 3
            have fy4 := N2.out.frozen 4
            have fy5 := N2.out.frozen 5
            have fy6 := N2.out.frozen 6
            go_wp2_with fail
            go_meet
            case rel => exact ⟨_, ⟨19, 2, 0, 7, 0, u, 0⟩, rfl, (by refine ⟨?_, ?_, ?_, ?_, ?_, ?_, ?_, ?_, ?_, ?_, ?_, ?_, ?_, ?_⟩ <;> simp only <;> omega), (U2.out).more (by omega), M2.out, N2.out⟩
          · go_wp2_with fail
            have T3 := hide U2.out
            have R3 := hide M2.out
            have B3 : Hid (Blk v2 G #[.int .i64 19, .int .i64 2, .int .i64 0, .int .i64 7, .int .i64 0, .int .i64 u, .int .i64 0] 36) := hide N2.out
            refine (pickW T3.out p0 (by omega) 4 (by omega) (by omega)).mono ?_
            rintro e9 v3 ⟨q, rfl, q0, q1, t9, g9⟩
            have U3 := hide t9
            have M3 := hide (R3.out.by2 g9 (by simp; omega))
            have N3 := hide (B3.out.by2 g9 (by simp; omega))
            clear t9 g9
            have y0 := N3.out.cell (i := 0) rfl
            have y1 := N3.out.cell (i := 1) rfl
            have y2 := N3.out.cell (i := 2) rfl
            have y3 := N3.out.cell (i := 3) rfl
            have y4 := N3.out.cell (i := 4) rfl
            have y5 := N3.out.cell (i := 5) rfl
            have y6 := N3.out.cell (i := 6) rfl
            have fy0 := N3.out.frozen 0
            have fy1 := N3.out.frozen 1
            have fy2 := N3.out.frozen 2
            have fy3 := N3.out.frozen 3
            have fy4 := N3.out.frozen 4
            have fy5 := N3.out.frozen 5
            have fy6 := N3.out.frozen 6
            go_wp2_with fail
            go_meet
            case rel => exact ⟨_, ⟨19, 2, q, 0, 0, 0, 1⟩, rfl, (by refine ⟨?_, ?_, ?_, ?_, ?_, ?_, ?_, ?_, ?_, ?_, ?_, ?_, ?_, ?_⟩ <;> simp only <;> omega), ((((((((U3.out.setNew h G 0 (.int .i64 19) (by omega)).setNew h G 1 (.int .i64 2) (by omega)).setNew h G 2 (.int .i64 q) (by omega)).setNew h G 3 (.int .i64 0) (by omega)).setNew h G 4 (.int .i64 0) (by omega)).setNew h G 5 (.int .i64 0) (by omega)).setNew h G 6 (.int .i64 1) (by omega))).more (by omega), (((((((M3.out.other G 0 (.int .i64 19) (by omega)).other G 1 (.int .i64 2) (by omega)).other G 2 (.int .i64 q) (by omega)).other G 3 (.int .i64 0) (by omega)).other G 4 (.int .i64 0) (by omega)).other G 5 (.int .i64 0) (by omega)).other G 6 (.int .i64 1) (by omega)), (((((((N3.out.set 0 (.int .i64 19)).set 1 (.int .i64 2)).set 2 (.int .i64 q)).set 3 (.int .i64 0)).set 4 (.int .i64 0)).set 5 (.int .i64 0)).set 6 (.int .i64 1))⟩
      case rest =>
        obtain ⟨w5, X, hw5, sx, hT, hR, hB⟩ := hcut
        subst hw5
        obtain ⟨xo, xz, xr, xm, xk, xe, xs9⟩ := X
        obtain ⟨so0, so1, sz0, sz1, sr0, sr1, sm0, sm1, sk0, sk1, se0, se1, ss0, ss1⟩ := sx
        simp only at so0 so1 sz0 sz1 sr0 sr1 sm0 sm1 sk0 sk1 se0 se1 ss0 ss1
        have T := hide hT
        have R := hide hR
        have B : Hid (Blk w5 G #[.int .i64 xo, .int .i64 xz, .int .i64 xr, .int .i64 xm, .int .i64 xk, .int .i64 xe, .int .i64 xs9] 36) := hide hB
        clear hT hR hB
        have hA := Pl.and255 xe
        have y0 := B.out.cell (i := 0) rfl
        have y1 := B.out.cell (i := 1) rfl
        have y2 := B.out.cell (i := 2) rfl
        have y3 := B.out.cell (i := 3) rfl
        have y4 := B.out.cell (i := 4) rfl
        have y5 := B.out.cell (i := 5) rfl
        have y6 := B.out.cell (i := 6) rfl
        have fy0 := B.out.frozen 0
        have fy1 := B.out.frozen 1
        have fy2 := B.out.frozen 2
        have fy3 := B.out.frozen 3
        have fy4 := B.out.frozen 4
        have fy5 := B.out.frozen 5
        have fy6 := B.out.frozen 6
        cases q1 : (xz == 1)
        · go_wp2_with fail
          clear y0 y1 y2 y3 y4 y5 y6 fy0 fy1 fy2 fy3 fy4 fy5 fy6
          refine (specGoodIns _ xo xz xr xm xk xe xs9).mono ?_
          rintro e9 w6 ⟨rfl, k6⟩
          obtain ⟨ok, hok⟩ : ∃ ok, ok = Pl.inOk ⟨xo, xz, xr, xm, xk, xe, xs9⟩ := ⟨_, rfl⟩
          rw [← hok]
          clear hok
          have B6 := hide (B.out.kept0 k6)
          have R6 := hide (R.out.kept0 k6)
          have T6 := hide (wentK T.out k6)
          clear k6
          have lr := R6.out.lt
          cases ok
          · go_wp2_with fail
            go_roundw
            case rel => exact ⟨j + 1, by omega, by go_num, T6.out.more (by omega), R6.out⟩
            case measure => simp [intOf]; omega
          · have y0 := B6.out.cell (i := 0) rfl
            have y1 := B6.out.cell (i := 1) rfl
            have y2 := B6.out.cell (i := 2) rfl
            have y3 := B6.out.cell (i := 3) rfl
            have y4 := B6.out.cell (i := 4) rfl
            have y5 := B6.out.cell (i := 5) rfl
            have y6 := B6.out.cell (i := 6) rfl
            have fy0 := B6.out.frozen 0
            have fy1 := B6.out.frozen 1
            have fy2 := B6.out.frozen 2
            have fy3 := B6.out.frozen 3
            have fy4 := B6.out.frozen 4
            have fy5 := B6.out.frozen 5
            have fy6 := B6.out.frozen 6
            have z0 := R6.out.cell (i := 0) rfl
            have z1 := R6.out.cell (i := 1) rfl
            have z2 := R6.out.cell (i := 2) rfl
            have z3 := R6.out.cell (i := 3) rfl
            have z4 := R6.out.cell (i := 4) rfl
            have z5 := R6.out.cell (i := 5) rfl
            have z6 := R6.out.cell (i := 6) rfl
            have fz0 := R6.out.frozen 0
            have fz1 := R6.out.frozen 1
            have fz2 := R6.out.frozen 2
            have fz3 := R6.out.frozen 3
            have fz4 := R6.out.frozen 4
            have fz5 := R6.out.frozen 5
            have fz6 := R6.out.frozen 6
            go_wp2_with fail
            refine bodyPost_ret (v := .agg #[.int .i64 xo, .int .i64 xz, .int .i64 xr, .int .i64 xm, .int .i64 xk, .int .i64 xe, .int .i64 xs9]) ?_ rfl ⟨⟨xo, xz, xr, xm, xk, xe, xs9⟩, rfl, (by refine ⟨?_, ?_, ?_, ?_, ?_, ?_, ?_, ?_, ?_, ?_, ?_, ?_, ?_, ?_⟩ <;> simp only <;> omega), ?_⟩
            · rw [results_one rfl]; go_simp
            · exact ((((((((T6.out.setNew h w.heap.size _ _ (Nat.le_refl _)).setNew h w.heap.size _ _ (Nat.le_refl _)).setNew h w.heap.size _ _ (Nat.le_refl _)).setNew h w.heap.size _ _ (Nat.le_refl _)).setNew h w.heap.size _ _ (Nat.le_refl _)).setNew h w.heap.size _ _ (Nat.le_refl _)).setNew h w.heap.size _ _ (Nat.le_refl _))).more (by omega)
        · cases q2 : (xm == 7)
          · go_wp2_with fail
            clear y0 y1 y2 y3 y4 y5 y6 fy0 fy1 fy2 fy3 fy4 fy5 fy6
            refine (specGoodIns _ xo xz xr xm xk xe xs9).mono ?_
            rintro e9 w6 ⟨rfl, k6⟩
            obtain ⟨ok, hok⟩ : ∃ ok, ok = Pl.inOk ⟨xo, xz, xr, xm, xk, xe, xs9⟩ := ⟨_, rfl⟩
            rw [← hok]
            clear hok
            have B6 := hide (B.out.kept0 k6)
            have R6 := hide (R.out.kept0 k6)
            have T6 := hide (wentK T.out k6)
            clear k6
            have lr := R6.out.lt
            cases ok
            · go_wp2_with fail
              go_roundw
              case rel => exact ⟨j + 1, by omega, by go_num, T6.out.more (by omega), R6.out⟩
              case measure => simp [intOf]; omega
            · have y0 := B6.out.cell (i := 0) rfl
              have y1 := B6.out.cell (i := 1) rfl
              have y2 := B6.out.cell (i := 2) rfl
              have y3 := B6.out.cell (i := 3) rfl
              have y4 := B6.out.cell (i := 4) rfl
              have y5 := B6.out.cell (i := 5) rfl
              have y6 := B6.out.cell (i := 6) rfl
              have fy0 := B6.out.frozen 0
              have fy1 := B6.out.frozen 1
              have fy2 := B6.out.frozen 2
              have fy3 := B6.out.frozen 3
              have fy4 := B6.out.frozen 4
              have fy5 := B6.out.frozen 5
              have fy6 := B6.out.frozen 6
              have z0 := R6.out.cell (i := 0) rfl
              have z1 := R6.out.cell (i := 1) rfl
              have z2 := R6.out.cell (i := 2) rfl
              have z3 := R6.out.cell (i := 3) rfl
              have z4 := R6.out.cell (i := 4) rfl
              have z5 := R6.out.cell (i := 5) rfl
              have z6 := R6.out.cell (i := 6) rfl
              have fz0 := R6.out.frozen 0
              have fz1 := R6.out.frozen 1
              have fz2 := R6.out.frozen 2
              have fz3 := R6.out.frozen 3
              have fz4 := R6.out.frozen 4
              have fz5 := R6.out.frozen 5
              have fz6 := R6.out.frozen 6
              go_wp2_with fail
              refine bodyPost_ret (v := .agg #[.int .i64 xo, .int .i64 xz, .int .i64 xr, .int .i64 xm, .int .i64 xk, .int .i64 xe, .int .i64 xs9]) ?_ rfl ⟨⟨xo, xz, xr, xm, xk, xe, xs9⟩, rfl, (by refine ⟨?_, ?_, ?_, ?_, ?_, ?_, ?_, ?_, ?_, ?_, ?_, ?_, ?_, ?_⟩ <;> simp only <;> omega), ?_⟩
              · rw [results_one rfl]; go_simp
              · exact ((((((((T6.out.setNew h w.heap.size _ _ (Nat.le_refl _)).setNew h w.heap.size _ _ (Nat.le_refl _)).setNew h w.heap.size _ _ (Nat.le_refl _)).setNew h w.heap.size _ _ (Nat.le_refl _)).setNew h w.heap.size _ _ (Nat.le_refl _)).setNew h w.heap.size _ _ (Nat.le_refl _)).setNew h w.heap.size _ _ (Nat.le_refl _))).more (by omega)
          · go_wp2_with fail
            clear y0 y1 y2 y3 y4 y5 y6 fy0 fy1 fy2 fy3 fy4 fy5 fy6
            have T7 := hide (T.out.setNew h G 5 (.int .i64 (xe % 256)) (by omega))
            have R7 := hide (R.out.other G 5 (.int .i64 (xe % 256)) (by omega))
            have B7 : Hid (Blk (w5.setCell ⟨G, 5, none⟩ (.int .i64 (xe % 256))) G #[.int .i64 xo, .int .i64 xz, .int .i64 xr, .int .i64 xm, .int .i64 xk, .int .i64 (xe % 256), .int .i64 xs9] 36) := hide (B.out.set 5 (.int .i64 (xe % 256)))
            refine (specGoodIns _ xo xz xr xm xk (xe % 256) xs9).mono ?_
            rintro e9 w6 ⟨rfl, k6⟩
            obtain ⟨ok, hok⟩ : ∃ ok, ok = Pl.inOk ⟨xo, xz, xr, xm, xk, (xe % 256), xs9⟩ := ⟨_, rfl⟩
            rw [← hok]
            clear hok
            have B6 := hide (B7.out.kept0 k6)
            have R6 := hide (R7.out.kept0 k6)
            have T6 := hide (wentK T7.out k6)
            clear k6
            have lr := R6.out.lt
            cases ok
            · go_wp2_with fail
              go_roundw
              case rel => exact ⟨j + 1, by omega, by go_num, T6.out.more (by omega), R6.out⟩
              case measure => simp [intOf]; omega
            · have y0 := B6.out.cell (i := 0) rfl
              have y1 := B6.out.cell (i := 1) rfl
              have y2 := B6.out.cell (i := 2) rfl
              have y3 := B6.out.cell (i := 3) rfl
              have y4 := B6.out.cell (i := 4) rfl
              have y5 := B6.out.cell (i := 5) rfl
              have y6 := B6.out.cell (i := 6) rfl
              have fy0 := B6.out.frozen 0
              have fy1 := B6.out.frozen 1
              have fy2 := B6.out.frozen 2
              have fy3 := B6.out.frozen 3
              have fy4 := B6.out.frozen 4
              have fy5 := B6.out.frozen 5
              have fy6 := B6.out.frozen 6
              have z0 := R6.out.cell (i := 0) rfl
              have z1 := R6.out.cell (i := 1) rfl
              have z2 := R6.out.cell (i := 2) rfl
              have z3 := R6.out.cell (i := 3) rfl
              have z4 := R6.out.cell (i := 4) rfl
              have z5 := R6.out.cell (i := 5) rfl
              have z6 := R6.out.cell (i := 6) rfl
              have fz0 := R6.out.frozen 0
              have fz1 := R6.out.frozen 1
              have fz2 := R6.out.frozen 2
              have fz3 := R6.out.frozen 3
              have fz4 := R6.out.frozen 4
              have fz5 := R6.out.frozen 5
              have fz6 := R6.out.frozen 6
              go_wp2_with fail
              refine bodyPost_ret (v := .agg #[.int .i64 xo, .int .i64 xz, .int .i64 xr, .int .i64 xm, .int .i64 xk, .int .i64 (xe % 256), .int .i64 xs9]) ?_ rfl ⟨⟨xo, xz, xr, xm, xk, (xe % 256), xs9⟩, rfl, (by refine ⟨?_, ?_, ?_, ?_, ?_, ?_, ?_, ?_, ?_, ?_, ?_, ?_, ?_, ?_⟩ <;> simp only <;> omega), ?_⟩
              · rw [results_one rfl]; go_simp
              · exact ((((((((T6.out.setNew h w.heap.size _ _ (Nat.le_refl _)).setNew h w.heap.size _ _ (Nat.le_refl _)).setNew h w.heap.size _ _ (Nat.le_refl _)).setNew h w.heap.size _ _ (Nat.le_refl _)).setNew h w.heap.size _ _ (Nat.le_refl _)).setNew h w.heap.size _ _ (Nat.le_refl _)).setNew h w.heap.size _ _ (Nat.le_refl _))).more (by omega)
    · have dj : decide ((j : Int) < 6) = false := by simp; omega
      have lr := R1.out.lt
      have z0 := R1.out.cell (i := 0) rfl
      have z1 := R1.out.cell (i := 1) rfl
      have z2 := R1.out.cell (i := 2) rfl
      have z3 := R1.out.cell (i := 3) rfl
      have z4 := R1.out.cell (i := 4) rfl
      have z5 := R1.out.cell (i := 5) rfl
      have z6 := R1.out.cell (i := 6) rfl
      have fz0 := R1.out.frozen 0
      have fz1 := R1.out.frozen 1
      have fz2 := R1.out.frozen 2
      have fz3 := R1.out.frozen 3
      have fz4 := R1.out.frozen 4
      have fz5 := R1.out.frozen 5
      have fz6 := R1.out.frozen 6
      go_wp2_with fail
      refine bodyPost_ret (v := .agg #[.int .i64 15, .int .i64 2, .int .i64 0, .int .i64 0, .int .i64 0, .int .i64 0, .int .i64 2]) ?_ rfl ⟨⟨15, 2, 0, 0, 0, 0, 2⟩, rfl, (by refine ⟨?_, ?_, ?_, ?_, ?_, ?_, ?_, ?_, ?_, ?_, ?_, ?_, ?_, ?_⟩ <;> simp only <;> omega), ?_⟩
      · rw [results_one rfl]; go_simp
      · exact ((((((((T1.out.setNew h w.heap.size _ _ (Nat.le_refl _)).setNew h w.heap.size _ _ (Nat.le_refl _)).setNew h w.heap.size _ _ (Nat.le_refl _)).setNew h w.heap.size _ _ (Nat.le_refl _)).setNew h w.heap.size _ _ (Nat.le_refl _)).setNew h w.heap.size _ _ (Nat.le_refl _)).setNew h w.heap.size _ _ (Nat.le_refl _))).more (by omega)
end Go.Proofs.YtndphgidmlmkoaaDoor

