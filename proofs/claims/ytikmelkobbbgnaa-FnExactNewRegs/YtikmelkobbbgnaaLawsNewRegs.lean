/- The law on NewRegs: its Go function returns true, and no block that was there has turned. -/
import Derived.Test.YtikmelkobbbgnaaRegsFns
import Derived.Test.YtikmelkobbbgnaaSpecReg7
import Derived.Test.YtikmelkobbbgnaaImplRegF
import Derived.Test.YtikmelkobbbgnaaRegLen
namespace Go.Proofs.Ytikmelkobbbgnaa
open Go.RowKit
set_option linter.unusedVariables false
set_option maxRecDepth 100000 in
set_option maxHeartbeats 16000000 in
theorem lawNewRegs (w : World) :
    Calls Try.prog 3 #[] w fun e w' => e = .returned (.bool true) ∧ Below w.heap.size w w' := by
  have Bel := hide (Below.refl w.heap.size w)
  have bD : Pl.rgNew.xs.length ≤ 2000000 := by decide
  have bE : Pl.rgNew.ys.length ≤ 2000000 := by decide
  generalize hDD : Pl.rgNew = D at bD bE
  have HDD := hide hDD
  clear hDD
  go_enter Try.func3, Try.ntmps3
  go_wp2_with fail
  refine (specNewRegs _).mono ?_
  rw [HDD.out]
  rintro e w3 ⟨a0, b0, ca0, cb0, rfl, ⟨s, t, hd0⟩, k⟩
  have Beln := hide (below_kept Bel.out k (by omega))
  clear Bel
  have Bel := Beln
  clear Beln
  have nw3 := k.size
  have S0 := hide s
  have T0 := hide t
  clear k s t
  clear hd0
  have ka := kept_alloc w3 (.cells #[.slice a0 D.xs.length ca0, .slice b0 D.ys.length cb0, .int .i64 D.o, .int .i64 D.p, .int .i64 D.f, .int .i64 D.m, .bool D.s, .bool D.t] 24)
  have Beln := hide (below_kept Bel.out ka (by omega))
  have S0n := hide (S0.out.kept ka (by omega))
  have T0n := hide (T0.out.kept ka (by omega))
  clear Bel S0 T0
  have Bel := Beln
  have S0 := S0n
  have T0 := T0n
  clear Beln S0n T0n
  have W0 := hide (Blk.new w3 #[.slice a0 D.xs.length ca0, .slice b0 D.ys.length cb0, .int .i64 D.o, .int .i64 D.p, .int .i64 D.f, .int .i64 D.m, .bool D.s, .bool D.t] 24)
  obtain ⟨X3, hX3⟩ : ∃ X : World, X = w3.alloc (.cells #[.slice a0 D.xs.length ca0, .slice b0 D.ys.length cb0, .int .i64 D.o, .int .i64 D.p, .int .i64 D.f, .int .i64 D.m, .bool D.s, .bool D.t] 24) := ⟨_, rfl⟩
  have nX3 : w3.heap.size < X3.heap.size := by rw [hX3]; simp
  rw [← hX3] at Bel S0 T0 W0
  go_wp2_with fail
  rw [← hX3]
  clear ka hX3 
  refine (implNewRegs _).mono ?_
  rw [HDD.out]
  rintro e w5 ⟨a1, b1, ca1, cb1, rfl, ⟨s, t, hd1⟩, k⟩
  have Beln := hide (below_kept Bel.out k (by omega))
  have S0n := hide (S0.out.kept k (by omega))
  have T0n := hide (T0.out.kept k (by omega))
  have W0n := hide (W0.out.kept k (by omega))
  clear Bel S0 T0 W0
  have Bel := Beln
  have S0 := S0n
  have T0 := T0n
  have W0 := W0n
  clear Beln S0n T0n W0n
  have nw5 := k.size
  have S1 := hide s
  have T1 := hide t
  clear k s t
  have HD1 := hide hd1
  clear hd1
  have ka := kept_alloc w5 (.cells #[.slice a1 D.xs.length ca1, .slice b1 D.ys.length cb1, .int .i64 D.o, .int .i64 D.p, .int .i64 D.f, .int .i64 D.m, .bool D.s, .bool D.t] 24)
  have Beln := hide (below_kept Bel.out ka (by omega))
  have S0n := hide (S0.out.kept ka (by omega))
  have T0n := hide (T0.out.kept ka (by omega))
  have W0n := hide (W0.out.kept ka (by omega))
  have S1n := hide (S1.out.kept ka (by omega))
  have T1n := hide (T1.out.kept ka (by omega))
  clear Bel S0 T0 W0 S1 T1
  have Bel := Beln
  have S0 := S0n
  have T0 := T0n
  have W0 := W0n
  have S1 := S1n
  have T1 := T1n
  clear Beln S0n T0n W0n S1n T1n
  have W1 := hide (Blk.new w5 #[.slice a1 D.xs.length ca1, .slice b1 D.ys.length cb1, .int .i64 D.o, .int .i64 D.p, .int .i64 D.f, .int .i64 D.m, .bool D.s, .bool D.t] 24)
  obtain ⟨X5, hX5⟩ : ∃ X : World, X = w5.alloc (.cells #[.slice a1 D.xs.length ca1, .slice b1 D.ys.length cb1, .int .i64 D.o, .int .i64 D.p, .int .i64 D.f, .int .i64 D.m, .bool D.s, .bool D.t] 24) := ⟨_, rfl⟩
  have nX5 : w5.heap.size < X5.heap.size := by rw [hX5]; simp
  rw [← hX5] at Bel S0 T0 W0 S1 T1 W1
  have r00 := W1.out.cell (i := 0) rfl
  rw [hX5] at r00
  have r01 := W1.out.cell (i := 1) rfl
  rw [hX5] at r01
  have r02 := W1.out.cell (i := 2) rfl
  rw [hX5] at r02
  have r03 := W1.out.cell (i := 3) rfl
  rw [hX5] at r03
  have r04 := W1.out.cell (i := 4) rfl
  rw [hX5] at r04
  have r05 := W1.out.cell (i := 5) rfl
  rw [hX5] at r05
  have r06 := W1.out.cell (i := 6) rfl
  rw [hX5] at r06
  have r07 := W1.out.cell (i := 7) rfl
  rw [hX5] at r07
  have r10 := W0.out.cell (i := 0) rfl
  rw [hX5] at r10
  have s10 := (World.cell?_alloc_lt w5 (.cells #[.slice a1 D.xs.length ca1, .slice b1 D.ys.length cb1, .int .i64 D.o, .int .i64 D.p, .int .i64 D.f, .int .i64 D.m, .bool D.s, .bool D.t] 24) ⟨w3.heap.size, 0, none⟩ (by show w3.heap.size < _; omega)).symm.trans r10
  have r11 := W0.out.cell (i := 1) rfl
  rw [hX5] at r11
  have s11 := (World.cell?_alloc_lt w5 (.cells #[.slice a1 D.xs.length ca1, .slice b1 D.ys.length cb1, .int .i64 D.o, .int .i64 D.p, .int .i64 D.f, .int .i64 D.m, .bool D.s, .bool D.t] 24) ⟨w3.heap.size, 1, none⟩ (by show w3.heap.size < _; omega)).symm.trans r11
  have r12 := W0.out.cell (i := 2) rfl
  rw [hX5] at r12
  have s12 := (World.cell?_alloc_lt w5 (.cells #[.slice a1 D.xs.length ca1, .slice b1 D.ys.length cb1, .int .i64 D.o, .int .i64 D.p, .int .i64 D.f, .int .i64 D.m, .bool D.s, .bool D.t] 24) ⟨w3.heap.size, 2, none⟩ (by show w3.heap.size < _; omega)).symm.trans r12
  have r13 := W0.out.cell (i := 3) rfl
  rw [hX5] at r13
  have s13 := (World.cell?_alloc_lt w5 (.cells #[.slice a1 D.xs.length ca1, .slice b1 D.ys.length cb1, .int .i64 D.o, .int .i64 D.p, .int .i64 D.f, .int .i64 D.m, .bool D.s, .bool D.t] 24) ⟨w3.heap.size, 3, none⟩ (by show w3.heap.size < _; omega)).symm.trans r13
  have r14 := W0.out.cell (i := 4) rfl
  rw [hX5] at r14
  have s14 := (World.cell?_alloc_lt w5 (.cells #[.slice a1 D.xs.length ca1, .slice b1 D.ys.length cb1, .int .i64 D.o, .int .i64 D.p, .int .i64 D.f, .int .i64 D.m, .bool D.s, .bool D.t] 24) ⟨w3.heap.size, 4, none⟩ (by show w3.heap.size < _; omega)).symm.trans r14
  have r15 := W0.out.cell (i := 5) rfl
  rw [hX5] at r15
  have s15 := (World.cell?_alloc_lt w5 (.cells #[.slice a1 D.xs.length ca1, .slice b1 D.ys.length cb1, .int .i64 D.o, .int .i64 D.p, .int .i64 D.f, .int .i64 D.m, .bool D.s, .bool D.t] 24) ⟨w3.heap.size, 5, none⟩ (by show w3.heap.size < _; omega)).symm.trans r15
  have r16 := W0.out.cell (i := 6) rfl
  rw [hX5] at r16
  have s16 := (World.cell?_alloc_lt w5 (.cells #[.slice a1 D.xs.length ca1, .slice b1 D.ys.length cb1, .int .i64 D.o, .int .i64 D.p, .int .i64 D.f, .int .i64 D.m, .bool D.s, .bool D.t] 24) ⟨w3.heap.size, 6, none⟩ (by show w3.heap.size < _; omega)).symm.trans r16
  have r17 := W0.out.cell (i := 7) rfl
  rw [hX5] at r17
  have s17 := (World.cell?_alloc_lt w5 (.cells #[.slice a1 D.xs.length ca1, .slice b1 D.ys.length cb1, .int .i64 D.o, .int .i64 D.p, .int .i64 D.f, .int .i64 D.m, .bool D.s, .bool D.t] 24) ⟨w3.heap.size, 7, none⟩ (by show w3.heap.size < _; omega)).symm.trans r17
  go_wp2_with fail
  rw [← hX5]
  clear ka hX5 r00 r01 r02 r03 r04 r05 r06 r07 r10 s10 r11 s11 r12 s12 r13 s13 r14 s14 r15 s15 r16 s16 r17 s17
  refine (eqRegs _ D.o D.p D.f D.m D.s D.t a1 b1 a0 b0 _ _ _ _ D.xs D.ys S1.out.row T1.out.row S0.out.row T0.out.row bD bE).mono ?_
  rintro e w6 ⟨rfl, k⟩
  have Beln := hide (below_kept Bel.out k (by omega))
  have S0n := hide (S0.out.kept k (by omega))
  have T0n := hide (T0.out.kept k (by omega))
  have W0n := hide (W0.out.kept k (by omega))
  have S1n := hide (S1.out.kept k (by omega))
  have T1n := hide (T1.out.kept k (by omega))
  have W1n := hide (W1.out.kept k (by omega))
  clear Bel S0 T0 W0 S1 T1 W1
  have Bel := Beln
  have S0 := S0n
  have T0 := T0n
  have W0 := W0n
  have S1 := S1n
  have T1 := T1n
  have W1 := W1n
  clear Beln S0n T0n W0n S1n T1n W1n
  have nw6 := k.size
  clear k
  have p00 := W1.out.cell (i := 0) rfl
  have p01 := W1.out.cell (i := 1) rfl
  have p02 := W1.out.cell (i := 2) rfl
  have p03 := W1.out.cell (i := 3) rfl
  have p04 := W1.out.cell (i := 4) rfl
  have p05 := W1.out.cell (i := 5) rfl
  have p06 := W1.out.cell (i := 6) rfl
  have p07 := W1.out.cell (i := 7) rfl
  go_wp2_with fail
  clear p00 p01 p02 p03 p04 p05 p06 p07
  refine (markRegs _ X3.heap.size w5.heap.size D.o D.p D.f D.m D.s D.t a1 b1 _ _ D.xs D.ys 1 S1.out T1.out HD1.out (by omega) bD bE (by decide) (by decide)).mono ?_
  rintro e w11 ⟨rfl, s, t, k⟩
  clear S1 T1
  have Beln := hide (below_kept Bel.out k (by omega))
  have S0n := hide (S0.out.kept k (by omega))
  have T0n := hide (T0.out.kept k (by omega))
  have W0n := hide (W0.out.kept k (by omega))
  have W1n := hide (W1.out.kept k (by omega))
  clear Bel S0 T0 W0 W1
  have Bel := Beln
  have S0 := S0n
  have T0 := T0n
  have W0 := W0n
  have W1 := W1n
  clear Beln S0n T0n W0n W1n
  have M1 := hide s
  have M2 := hide t
  have n11 := k.size
  clear k s t
  have p00 := W1.out.cell (i := 0) rfl
  have p01 := W1.out.cell (i := 1) rfl
  have p02 := W1.out.cell (i := 2) rfl
  have p03 := W1.out.cell (i := 3) rfl
  have p04 := W1.out.cell (i := 4) rfl
  have p05 := W1.out.cell (i := 5) rfl
  have p06 := W1.out.cell (i := 6) rfl
  have p07 := W1.out.cell (i := 7) rfl
  go_wp2_with fail
  clear p00 p01 p02 p03 p04 p05 p06 p07
  refine (heldRegs _ D.o D.p D.f D.m D.s D.t a1 b1 _ _ D.xs.length D.ys.length 1 M1.out.row M2.out.row bD bE (by decide) (by decide)).mono ?_
  rintro e w12 ⟨rfl, k⟩
  have Beln := hide (below_kept Bel.out k (by omega))
  have S0n := hide (S0.out.kept k (by omega))
  have T0n := hide (T0.out.kept k (by omega))
  have W0n := hide (W0.out.kept k (by omega))
  have W1n := hide (W1.out.kept k (by omega))
  have M1n := hide (M1.out.kept k (by omega))
  have M2n := hide (M2.out.kept k (by omega))
  clear Bel S0 T0 W0 W1 M1 M2
  have Bel := Beln
  have S0 := S0n
  have T0 := T0n
  have W0 := W0n
  have W1 := W1n
  have M1 := M1n
  have M2 := M2n
  clear Beln S0n T0n W0n W1n M1n M2n
  have nw12 := k.size
  clear k
  go_wp2_with fail
  refine (implNewRegs _).mono ?_
  rw [HDD.out]
  rintro e w14 ⟨a2, b2, ca2, cb2, rfl, ⟨s, t, hd2⟩, k⟩
  have Beln := hide (below_kept Bel.out k (by omega))
  have S0n := hide (S0.out.kept k (by omega))
  have T0n := hide (T0.out.kept k (by omega))
  have W0n := hide (W0.out.kept k (by omega))
  have W1n := hide (W1.out.kept k (by omega))
  have M1n := hide (M1.out.kept k (by omega))
  have M2n := hide (M2.out.kept k (by omega))
  clear Bel S0 T0 W0 W1 M1 M2
  have Bel := Beln
  have S0 := S0n
  have T0 := T0n
  have W0 := W0n
  have W1 := W1n
  have M1 := M1n
  have M2 := M2n
  clear Beln S0n T0n W0n W1n M1n M2n
  have nw14 := k.size
  have S2 := hide s
  have T2 := hide t
  clear k s t
  clear hd2
  have ka := kept_alloc w14 (.cells #[.slice a2 D.xs.length ca2, .slice b2 D.ys.length cb2, .int .i64 D.o, .int .i64 D.p, .int .i64 D.f, .int .i64 D.m, .bool D.s, .bool D.t] 24)
  have Beln := hide (below_kept Bel.out ka (by omega))
  have S0n := hide (S0.out.kept ka (by omega))
  have T0n := hide (T0.out.kept ka (by omega))
  have W0n := hide (W0.out.kept ka (by omega))
  have W1n := hide (W1.out.kept ka (by omega))
  have M1n := hide (M1.out.kept ka (by omega))
  have M2n := hide (M2.out.kept ka (by omega))
  have S2n := hide (S2.out.kept ka (by omega))
  have T2n := hide (T2.out.kept ka (by omega))
  clear Bel S0 T0 W0 W1 M1 M2 S2 T2
  have Bel := Beln
  have S0 := S0n
  have T0 := T0n
  have W0 := W0n
  have W1 := W1n
  have M1 := M1n
  have M2 := M2n
  have S2 := S2n
  have T2 := T2n
  clear Beln S0n T0n W0n W1n M1n M2n S2n T2n
  have W2 := hide (Blk.new w14 #[.slice a2 D.xs.length ca2, .slice b2 D.ys.length cb2, .int .i64 D.o, .int .i64 D.p, .int .i64 D.f, .int .i64 D.m, .bool D.s, .bool D.t] 24)
  obtain ⟨X14, hX14⟩ : ∃ X : World, X = w14.alloc (.cells #[.slice a2 D.xs.length ca2, .slice b2 D.ys.length cb2, .int .i64 D.o, .int .i64 D.p, .int .i64 D.f, .int .i64 D.m, .bool D.s, .bool D.t] 24) := ⟨_, rfl⟩
  have nX14 : w14.heap.size < X14.heap.size := by rw [hX14]; simp
  rw [← hX14] at Bel S0 T0 W0 W1 M1 M2 S2 T2 W2
  have r00 := W2.out.cell (i := 0) rfl
  rw [hX14] at r00
  have r01 := W2.out.cell (i := 1) rfl
  rw [hX14] at r01
  have r02 := W2.out.cell (i := 2) rfl
  rw [hX14] at r02
  have r03 := W2.out.cell (i := 3) rfl
  rw [hX14] at r03
  have r04 := W2.out.cell (i := 4) rfl
  rw [hX14] at r04
  have r05 := W2.out.cell (i := 5) rfl
  rw [hX14] at r05
  have r06 := W2.out.cell (i := 6) rfl
  rw [hX14] at r06
  have r07 := W2.out.cell (i := 7) rfl
  rw [hX14] at r07
  have r10 := W0.out.cell (i := 0) rfl
  rw [hX14] at r10
  have s10 := (World.cell?_alloc_lt w14 (.cells #[.slice a2 D.xs.length ca2, .slice b2 D.ys.length cb2, .int .i64 D.o, .int .i64 D.p, .int .i64 D.f, .int .i64 D.m, .bool D.s, .bool D.t] 24) ⟨w3.heap.size, 0, none⟩ (by show w3.heap.size < _; omega)).symm.trans r10
  have r11 := W0.out.cell (i := 1) rfl
  rw [hX14] at r11
  have s11 := (World.cell?_alloc_lt w14 (.cells #[.slice a2 D.xs.length ca2, .slice b2 D.ys.length cb2, .int .i64 D.o, .int .i64 D.p, .int .i64 D.f, .int .i64 D.m, .bool D.s, .bool D.t] 24) ⟨w3.heap.size, 1, none⟩ (by show w3.heap.size < _; omega)).symm.trans r11
  have r12 := W0.out.cell (i := 2) rfl
  rw [hX14] at r12
  have s12 := (World.cell?_alloc_lt w14 (.cells #[.slice a2 D.xs.length ca2, .slice b2 D.ys.length cb2, .int .i64 D.o, .int .i64 D.p, .int .i64 D.f, .int .i64 D.m, .bool D.s, .bool D.t] 24) ⟨w3.heap.size, 2, none⟩ (by show w3.heap.size < _; omega)).symm.trans r12
  have r13 := W0.out.cell (i := 3) rfl
  rw [hX14] at r13
  have s13 := (World.cell?_alloc_lt w14 (.cells #[.slice a2 D.xs.length ca2, .slice b2 D.ys.length cb2, .int .i64 D.o, .int .i64 D.p, .int .i64 D.f, .int .i64 D.m, .bool D.s, .bool D.t] 24) ⟨w3.heap.size, 3, none⟩ (by show w3.heap.size < _; omega)).symm.trans r13
  have r14 := W0.out.cell (i := 4) rfl
  rw [hX14] at r14
  have s14 := (World.cell?_alloc_lt w14 (.cells #[.slice a2 D.xs.length ca2, .slice b2 D.ys.length cb2, .int .i64 D.o, .int .i64 D.p, .int .i64 D.f, .int .i64 D.m, .bool D.s, .bool D.t] 24) ⟨w3.heap.size, 4, none⟩ (by show w3.heap.size < _; omega)).symm.trans r14
  have r15 := W0.out.cell (i := 5) rfl
  rw [hX14] at r15
  have s15 := (World.cell?_alloc_lt w14 (.cells #[.slice a2 D.xs.length ca2, .slice b2 D.ys.length cb2, .int .i64 D.o, .int .i64 D.p, .int .i64 D.f, .int .i64 D.m, .bool D.s, .bool D.t] 24) ⟨w3.heap.size, 5, none⟩ (by show w3.heap.size < _; omega)).symm.trans r15
  have r16 := W0.out.cell (i := 6) rfl
  rw [hX14] at r16
  have s16 := (World.cell?_alloc_lt w14 (.cells #[.slice a2 D.xs.length ca2, .slice b2 D.ys.length cb2, .int .i64 D.o, .int .i64 D.p, .int .i64 D.f, .int .i64 D.m, .bool D.s, .bool D.t] 24) ⟨w3.heap.size, 6, none⟩ (by show w3.heap.size < _; omega)).symm.trans r16
  have r17 := W0.out.cell (i := 7) rfl
  rw [hX14] at r17
  have s17 := (World.cell?_alloc_lt w14 (.cells #[.slice a2 D.xs.length ca2, .slice b2 D.ys.length cb2, .int .i64 D.o, .int .i64 D.p, .int .i64 D.f, .int .i64 D.m, .bool D.s, .bool D.t] 24) ⟨w3.heap.size, 7, none⟩ (by show w3.heap.size < _; omega)).symm.trans r17
  go_wp2_with fail
  rw [← hX14]
  clear ka hX14 r00 r01 r02 r03 r04 r05 r06 r07 r10 s10 r11 s11 r12 s12 r13 s13 r14 s14 r15 s15 r16 s16 r17 s17
  refine (eqRegs _ D.o D.p D.f D.m D.s D.t a2 b2 a0 b0 _ _ _ _ D.xs D.ys S2.out.row T2.out.row S0.out.row T0.out.row bD bE).mono ?_
  rintro e w15 ⟨rfl, k⟩
  have Beln := hide (below_kept Bel.out k (by omega))
  have S0n := hide (S0.out.kept k (by omega))
  have T0n := hide (T0.out.kept k (by omega))
  have W0n := hide (W0.out.kept k (by omega))
  have W1n := hide (W1.out.kept k (by omega))
  have M1n := hide (M1.out.kept k (by omega))
  have M2n := hide (M2.out.kept k (by omega))
  have S2n := hide (S2.out.kept k (by omega))
  have T2n := hide (T2.out.kept k (by omega))
  have W2n := hide (W2.out.kept k (by omega))
  clear Bel S0 T0 W0 W1 M1 M2 S2 T2 W2
  have Bel := Beln
  have S0 := S0n
  have T0 := T0n
  have W0 := W0n
  have W1 := W1n
  have M1 := M1n
  have M2 := M2n
  have S2 := S2n
  have T2 := T2n
  have W2 := W2n
  clear Beln S0n T0n W0n W1n M1n M2n S2n T2n W2n
  have nw15 := k.size
  clear k
  have p00 := W1.out.cell (i := 0) rfl
  have p01 := W1.out.cell (i := 1) rfl
  have p02 := W1.out.cell (i := 2) rfl
  have p03 := W1.out.cell (i := 3) rfl
  have p04 := W1.out.cell (i := 4) rfl
  have p05 := W1.out.cell (i := 5) rfl
  have p06 := W1.out.cell (i := 6) rfl
  have p07 := W1.out.cell (i := 7) rfl
  go_wp2_with fail
  clear p00 p01 p02 p03 p04 p05 p06 p07
  refine (heldRegs _ D.o D.p D.f D.m D.s D.t a1 b1 _ _ D.xs.length D.ys.length 1 M1.out.row M2.out.row bD bE (by decide) (by decide)).mono ?_
  rintro e w16 ⟨rfl, k⟩
  have Beln := hide (below_kept Bel.out k (by omega))
  have S0n := hide (S0.out.kept k (by omega))
  have T0n := hide (T0.out.kept k (by omega))
  have W0n := hide (W0.out.kept k (by omega))
  have W1n := hide (W1.out.kept k (by omega))
  have M1n := hide (M1.out.kept k (by omega))
  have M2n := hide (M2.out.kept k (by omega))
  have S2n := hide (S2.out.kept k (by omega))
  have T2n := hide (T2.out.kept k (by omega))
  have W2n := hide (W2.out.kept k (by omega))
  clear Bel S0 T0 W0 W1 M1 M2 S2 T2 W2
  have Bel := Beln
  have S0 := S0n
  have T0 := T0n
  have W0 := W0n
  have W1 := W1n
  have M1 := M1n
  have M2 := M2n
  have S2 := S2n
  have T2 := T2n
  have W2 := W2n
  clear Beln S0n T0n W0n W1n M1n M2n S2n T2n W2n
  have nw16 := k.size
  clear k
  go_wp2_with fail
  go_ret
  exact ⟨rfl, Bel.out⟩
end Go.Proofs.Ytikmelkobbbgnaa
