/- What the laws' toCpu does: a copy, each list in a new block of its own. What the model's tests of words and operands answer. What the models of chapter 6 answer that make nothing: tests of registers and operands, the status. 'append([]int{}, xs...)': a list of numbers copied into a row of the call's own, whatever the list: nil, empty, cut or not. What the models of chapter 6 answer that make registers: NewRegs, l6Own. -/
import Derived.Test.YtblddehlkaolbaaJU2
import Derived.BigQuiet
import Derived.Deep.QuietTactic
import Derived.Test.YtblddehlkaolbaaJU1
import Derived.Deep.AppendLies
namespace Go.Proofs.Ytblddehlkaolbaa
open Go.RowKit
set_option linter.unusedVariables false
set_option maxRecDepth 100000 in
set_option maxHeartbeats 8000000 in
theorem toCpu (w : World) (c : Pl.Cp) (a b e q : Option Addr) (ca cb ce cq : Nat) (ha : IRow w a c.r.xs) (hb : IRow w b c.r.ys) (he : IRow w e c.bx) (hq : IRow w q c.bl) (lx : c.r.xs.length ≤ 2000000) (ly : c.r.ys.length ≤ 2000000) (lb : c.bx.length ≤ 2000000) (ll : c.bl.length = 5 * c.bm) (lm : c.bm ≤ 2000000) :
    Calls Try.prog 18 #[.agg #[.slice a c.r.xs.length ca, .slice b c.r.ys.length cb, .int .i64 c.r.o, .int .i64 c.r.p, .int .i64 c.r.f, .int .i64 c.r.m, .bool c.r.s, .bool c.r.t, .slice e c.bx.length ce, .slice q c.bm cq, .bool c.st, .bool c.ha]] w fun r w' => ∃ g1 g2 g3 g4 : Nat, r = .returned (.agg #[.slice (some ⟨g1, 0, none⟩) c.r.xs.length c.r.xs.length, .slice (some ⟨g2, 0, none⟩) c.r.ys.length c.r.ys.length, .int .i64 c.r.o, .int .i64 c.r.p, .int .i64 c.r.f, .int .i64 c.r.m, .bool c.r.s, .bool c.r.t, .slice (some ⟨g3, 0, none⟩) c.bx.length c.bx.length, .slice (some ⟨g4, 0, none⟩) c.bm c.bm, .bool c.st, .bool c.ha]) ∧ CpSl w' w.heap.size w'.heap.size c (some ⟨g1, 0, none⟩) (some ⟨g2, 0, none⟩) (some ⟨g3, 0, none⟩) (some ⟨g4, 0, none⟩) ∧ Kept 0 0 w w' := by
  have k0 : Kept 0 0 w (((w.alloc (.cells #[.slice a c.r.xs.length ca, .slice b c.r.ys.length cb, .int .i64 c.r.o, .int .i64 c.r.p, .int .i64 c.r.f, .int .i64 c.r.m, .bool c.r.s, .bool c.r.t, .slice e c.bx.length ce, .slice q c.bm cq, .bool c.st, .bool c.ha] 43)).alloc (.cells #[.slice none 0 0, .slice none 0 0, .int .i64 0, .int .i64 0, .int .i64 0, .int .i64 0, .bool false, .bool false, .slice none 0 0, .slice none 0 0, .bool false, .bool false] 29)).alloc (.cells #[.slice none 0 0, .slice none 0 0, .int .i64 0, .int .i64 0, .int .i64 0, .int .i64 0, .bool false, .bool false, .slice none 0 0, .slice none 0 0, .bool false, .bool false] 29)) := kept_new (kept_new (kept_alloc _ _) _) _
  have BA := ((Blk.new w #[.slice a c.r.xs.length ca, .slice b c.r.ys.length cb, .int .i64 c.r.o, .int .i64 c.r.p, .int .i64 c.r.f, .int .i64 c.r.m, .bool c.r.s, .bool c.r.t, .slice e c.bx.length ce, .slice q c.bm cq, .bool c.st, .bool c.ha] 43).alloc (.cells #[.slice none 0 0, .slice none 0 0, .int .i64 0, .int .i64 0, .int .i64 0, .int .i64 0, .bool false, .bool false, .slice none 0 0, .slice none 0 0, .bool false, .bool false] 29)).alloc (.cells #[.slice none 0 0, .slice none 0 0, .int .i64 0, .int .i64 0, .int .i64 0, .int .i64 0, .bool false, .bool false, .slice none 0 0, .slice none 0 0, .bool false, .bool false] 29)
  have BR := (Blk.new (w.alloc (.cells #[.slice a c.r.xs.length ca, .slice b c.r.ys.length cb, .int .i64 c.r.o, .int .i64 c.r.p, .int .i64 c.r.f, .int .i64 c.r.m, .bool c.r.s, .bool c.r.t, .slice e c.bx.length ce, .slice q c.bm cq, .bool c.st, .bool c.ha] 43)) #[.slice none 0 0, .slice none 0 0, .int .i64 0, .int .i64 0, .int .i64 0, .int .i64 0, .bool false, .bool false, .slice none 0 0, .slice none 0 0, .bool false, .bool false] 29).alloc (.cells #[.slice none 0 0, .slice none 0 0, .int .i64 0, .int .i64 0, .int .i64 0, .int .i64 0, .bool false, .bool false, .slice none 0 0, .slice none 0 0, .bool false, .bool false] 29)
  have BO := Blk.new ((w.alloc (.cells #[.slice a c.r.xs.length ca, .slice b c.r.ys.length cb, .int .i64 c.r.o, .int .i64 c.r.p, .int .i64 c.r.f, .int .i64 c.r.m, .bool c.r.s, .bool c.r.t, .slice e c.bx.length ce, .slice q c.bm cq, .bool c.st, .bool c.ha] 43)).alloc (.cells #[.slice none 0 0, .slice none 0 0, .int .i64 0, .int .i64 0, .int .i64 0, .int .i64 0, .bool false, .bool false, .slice none 0 0, .slice none 0 0, .bool false, .bool false] 29)) #[.slice none 0 0, .slice none 0 0, .int .i64 0, .int .i64 0, .int .i64 0, .int .i64 0, .bool false, .bool false, .slice none 0 0, .slice none 0 0, .bool false, .bool false] 29
  simp only [World.size_alloc] at BR BO
  obtain ⟨X, hX⟩ : ∃ X : World, (((w.alloc (.cells #[.slice a c.r.xs.length ca, .slice b c.r.ys.length cb, .int .i64 c.r.o, .int .i64 c.r.p, .int .i64 c.r.f, .int .i64 c.r.m, .bool c.r.s, .bool c.r.t, .slice e c.bx.length ce, .slice q c.bm cq, .bool c.st, .bool c.ha] 43)).alloc (.cells #[.slice none 0 0, .slice none 0 0, .int .i64 0, .int .i64 0, .int .i64 0, .int .i64 0, .bool false, .bool false, .slice none 0 0, .slice none 0 0, .bool false, .bool false] 29)).alloc (.cells #[.slice none 0 0, .slice none 0 0, .int .i64 0, .int .i64 0, .int .i64 0, .int .i64 0, .bool false, .bool false, .slice none 0 0, .slice none 0 0, .bool false, .bool false] 29)) = X := ⟨_, rfl⟩
  rw [hX] at k0 BA BR BO
  have n0 := BO.lt
  have K0 := hide k0
  have HBA := hide BA
  have HBR := hide BR
  have HBO := hide BO
  have HA := hide (ha.keptS k0)
  have HB := hide (hb.keptS k0)
  have HE := hide he
  have HQ := hide hq
  have HL := hide ll
  have i0 := BA.cell (i := 0) rfl
  have i1 := BA.cell (i := 1) rfl
  have i2 := BA.cell (i := 2) rfl
  have i3 := BA.cell (i := 3) rfl
  have i4 := BA.cell (i := 4) rfl
  have i5 := BA.cell (i := 5) rfl
  have i6 := BA.cell (i := 6) rfl
  have i7 := BA.cell (i := 7) rfl
  have i8 := BA.cell (i := 8) rfl
  have i9 := BA.cell (i := 9) rfl
  have i10 := BA.cell (i := 10) rfl
  have i11 := BA.cell (i := 11) rfl
  clear k0 BA BR BO ha hb he hq ll
  go_enter Try.func18, Try.ntmps18
  go_wp2_with fail
  refine (toRegs _ c.r.o c.r.p c.r.f c.r.m c.r.s c.r.t a b ca cb c.r.xs c.r.ys HA.out HB.out lx ly).mono ?_
  rintro e9 w1 ⟨g1, g2, rfl, o1, o2, l1, l2, l3, k⟩
  have HA1 := hide (HBA.out.kept0 k)
  have HR1 := hide (HBR.out.kept0 k)
  have HO1 := hide (HBO.out.kept0 k)
  have K1 := hide (K0.out.trans k)
  have k1s := k.size
  have OW1 := hide o1
  have OW2 := hide o2
  clear k o1 o2 i0 i1 i2 i3 i4 i5 i6 i7 i8 i9 i10 i11
  have o0 := HO1.out.cell (i := 0) rfl
  have of0 := HO1.out.frozen 0
  have o1 := HO1.out.cell (i := 1) rfl
  have of1 := HO1.out.frozen 1
  have o2 := HO1.out.cell (i := 2) rfl
  have of2 := HO1.out.frozen 2
  have o3 := HO1.out.cell (i := 3) rfl
  have of3 := HO1.out.frozen 3
  have o4 := HO1.out.cell (i := 4) rfl
  have of4 := HO1.out.frozen 4
  have o5 := HO1.out.cell (i := 5) rfl
  have of5 := HO1.out.frozen 5
  have o6 := HO1.out.cell (i := 6) rfl
  have of6 := HO1.out.frozen 6
  have o7 := HO1.out.cell (i := 7) rfl
  have of7 := HO1.out.frozen 7
  have K2 : Kept 0 0 w ((((((((w1.setCell ⟨w.heap.size + 2, 0, none⟩ (.slice (some ⟨g1, 0, none⟩) c.r.xs.length c.r.xs.length)).setCell ⟨w.heap.size + 2, 1, none⟩ (.slice (some ⟨g2, 0, none⟩) c.r.ys.length c.r.ys.length)).setCell ⟨w.heap.size + 2, 2, none⟩ (.int .i64 c.r.o)).setCell ⟨w.heap.size + 2, 3, none⟩ (.int .i64 c.r.p)).setCell ⟨w.heap.size + 2, 4, none⟩ (.int .i64 c.r.f)).setCell ⟨w.heap.size + 2, 5, none⟩ (.int .i64 c.r.m)).setCell ⟨w.heap.size + 2, 6, none⟩ (.bool c.r.s)).setCell ⟨w.heap.size + 2, 7, none⟩ (.bool c.r.t)) := (kept_set (kept_set (kept_set (kept_set (kept_set (kept_set (kept_set (kept_set K1.out _ _ _ (.inr (by omega))) _ _ _ (.inr (by omega))) _ _ _ (.inr (by omega))) _ _ _ (.inr (by omega))) _ _ _ (.inr (by omega))) _ _ _ (.inr (by omega))) _ _ _ (.inr (by omega))) _ _ _ (.inr (by omega)))
  have HO2_0 : Blk (w1.setCell ⟨w.heap.size + 2, 0, none⟩ (.slice (some ⟨g1, 0, none⟩) c.r.xs.length c.r.xs.length)) (w.heap.size + 2) #[.slice (some ⟨g1, 0, none⟩) c.r.xs.length c.r.xs.length, .slice none 0 0, .int .i64 0, .int .i64 0, .int .i64 0, .int .i64 0, .bool false, .bool false, .slice none 0 0, .slice none 0 0, .bool false, .bool false] 29 := HO1.out.set 0 (.slice (some ⟨g1, 0, none⟩) c.r.xs.length c.r.xs.length)
  have HO2_1 : Blk ((w1.setCell ⟨w.heap.size + 2, 0, none⟩ (.slice (some ⟨g1, 0, none⟩) c.r.xs.length c.r.xs.length)).setCell ⟨w.heap.size + 2, 1, none⟩ (.slice (some ⟨g2, 0, none⟩) c.r.ys.length c.r.ys.length)) (w.heap.size + 2) #[.slice (some ⟨g1, 0, none⟩) c.r.xs.length c.r.xs.length, .slice (some ⟨g2, 0, none⟩) c.r.ys.length c.r.ys.length, .int .i64 0, .int .i64 0, .int .i64 0, .int .i64 0, .bool false, .bool false, .slice none 0 0, .slice none 0 0, .bool false, .bool false] 29 := HO2_0.set 1 (.slice (some ⟨g2, 0, none⟩) c.r.ys.length c.r.ys.length)
  have HO2_2 : Blk (((w1.setCell ⟨w.heap.size + 2, 0, none⟩ (.slice (some ⟨g1, 0, none⟩) c.r.xs.length c.r.xs.length)).setCell ⟨w.heap.size + 2, 1, none⟩ (.slice (some ⟨g2, 0, none⟩) c.r.ys.length c.r.ys.length)).setCell ⟨w.heap.size + 2, 2, none⟩ (.int .i64 c.r.o)) (w.heap.size + 2) #[.slice (some ⟨g1, 0, none⟩) c.r.xs.length c.r.xs.length, .slice (some ⟨g2, 0, none⟩) c.r.ys.length c.r.ys.length, .int .i64 c.r.o, .int .i64 0, .int .i64 0, .int .i64 0, .bool false, .bool false, .slice none 0 0, .slice none 0 0, .bool false, .bool false] 29 := HO2_1.set 2 (.int .i64 c.r.o)
  have HO2_3 : Blk ((((w1.setCell ⟨w.heap.size + 2, 0, none⟩ (.slice (some ⟨g1, 0, none⟩) c.r.xs.length c.r.xs.length)).setCell ⟨w.heap.size + 2, 1, none⟩ (.slice (some ⟨g2, 0, none⟩) c.r.ys.length c.r.ys.length)).setCell ⟨w.heap.size + 2, 2, none⟩ (.int .i64 c.r.o)).setCell ⟨w.heap.size + 2, 3, none⟩ (.int .i64 c.r.p)) (w.heap.size + 2) #[.slice (some ⟨g1, 0, none⟩) c.r.xs.length c.r.xs.length, .slice (some ⟨g2, 0, none⟩) c.r.ys.length c.r.ys.length, .int .i64 c.r.o, .int .i64 c.r.p, .int .i64 0, .int .i64 0, .bool false, .bool false, .slice none 0 0, .slice none 0 0, .bool false, .bool false] 29 := HO2_2.set 3 (.int .i64 c.r.p)
  have HO2_4 : Blk (((((w1.setCell ⟨w.heap.size + 2, 0, none⟩ (.slice (some ⟨g1, 0, none⟩) c.r.xs.length c.r.xs.length)).setCell ⟨w.heap.size + 2, 1, none⟩ (.slice (some ⟨g2, 0, none⟩) c.r.ys.length c.r.ys.length)).setCell ⟨w.heap.size + 2, 2, none⟩ (.int .i64 c.r.o)).setCell ⟨w.heap.size + 2, 3, none⟩ (.int .i64 c.r.p)).setCell ⟨w.heap.size + 2, 4, none⟩ (.int .i64 c.r.f)) (w.heap.size + 2) #[.slice (some ⟨g1, 0, none⟩) c.r.xs.length c.r.xs.length, .slice (some ⟨g2, 0, none⟩) c.r.ys.length c.r.ys.length, .int .i64 c.r.o, .int .i64 c.r.p, .int .i64 c.r.f, .int .i64 0, .bool false, .bool false, .slice none 0 0, .slice none 0 0, .bool false, .bool false] 29 := HO2_3.set 4 (.int .i64 c.r.f)
  have HO2_5 : Blk ((((((w1.setCell ⟨w.heap.size + 2, 0, none⟩ (.slice (some ⟨g1, 0, none⟩) c.r.xs.length c.r.xs.length)).setCell ⟨w.heap.size + 2, 1, none⟩ (.slice (some ⟨g2, 0, none⟩) c.r.ys.length c.r.ys.length)).setCell ⟨w.heap.size + 2, 2, none⟩ (.int .i64 c.r.o)).setCell ⟨w.heap.size + 2, 3, none⟩ (.int .i64 c.r.p)).setCell ⟨w.heap.size + 2, 4, none⟩ (.int .i64 c.r.f)).setCell ⟨w.heap.size + 2, 5, none⟩ (.int .i64 c.r.m)) (w.heap.size + 2) #[.slice (some ⟨g1, 0, none⟩) c.r.xs.length c.r.xs.length, .slice (some ⟨g2, 0, none⟩) c.r.ys.length c.r.ys.length, .int .i64 c.r.o, .int .i64 c.r.p, .int .i64 c.r.f, .int .i64 c.r.m, .bool false, .bool false, .slice none 0 0, .slice none 0 0, .bool false, .bool false] 29 := HO2_4.set 5 (.int .i64 c.r.m)
  have HO2_6 : Blk (((((((w1.setCell ⟨w.heap.size + 2, 0, none⟩ (.slice (some ⟨g1, 0, none⟩) c.r.xs.length c.r.xs.length)).setCell ⟨w.heap.size + 2, 1, none⟩ (.slice (some ⟨g2, 0, none⟩) c.r.ys.length c.r.ys.length)).setCell ⟨w.heap.size + 2, 2, none⟩ (.int .i64 c.r.o)).setCell ⟨w.heap.size + 2, 3, none⟩ (.int .i64 c.r.p)).setCell ⟨w.heap.size + 2, 4, none⟩ (.int .i64 c.r.f)).setCell ⟨w.heap.size + 2, 5, none⟩ (.int .i64 c.r.m)).setCell ⟨w.heap.size + 2, 6, none⟩ (.bool c.r.s)) (w.heap.size + 2) #[.slice (some ⟨g1, 0, none⟩) c.r.xs.length c.r.xs.length, .slice (some ⟨g2, 0, none⟩) c.r.ys.length c.r.ys.length, .int .i64 c.r.o, .int .i64 c.r.p, .int .i64 c.r.f, .int .i64 c.r.m, .bool c.r.s, .bool false, .slice none 0 0, .slice none 0 0, .bool false, .bool false] 29 := HO2_5.set 6 (.bool c.r.s)
  have HO2 : Blk ((((((((w1.setCell ⟨w.heap.size + 2, 0, none⟩ (.slice (some ⟨g1, 0, none⟩) c.r.xs.length c.r.xs.length)).setCell ⟨w.heap.size + 2, 1, none⟩ (.slice (some ⟨g2, 0, none⟩) c.r.ys.length c.r.ys.length)).setCell ⟨w.heap.size + 2, 2, none⟩ (.int .i64 c.r.o)).setCell ⟨w.heap.size + 2, 3, none⟩ (.int .i64 c.r.p)).setCell ⟨w.heap.size + 2, 4, none⟩ (.int .i64 c.r.f)).setCell ⟨w.heap.size + 2, 5, none⟩ (.int .i64 c.r.m)).setCell ⟨w.heap.size + 2, 6, none⟩ (.bool c.r.s)).setCell ⟨w.heap.size + 2, 7, none⟩ (.bool c.r.t)) (w.heap.size + 2) #[.slice (some ⟨g1, 0, none⟩) c.r.xs.length c.r.xs.length, .slice (some ⟨g2, 0, none⟩) c.r.ys.length c.r.ys.length, .int .i64 c.r.o, .int .i64 c.r.p, .int .i64 c.r.f, .int .i64 c.r.m, .bool c.r.s, .bool c.r.t, .slice none 0 0, .slice none 0 0, .bool false, .bool false] 29 := HO2_6.set 7 (.bool c.r.t)
  have HA2 : Blk ((((((((w1.setCell ⟨w.heap.size + 2, 0, none⟩ (.slice (some ⟨g1, 0, none⟩) c.r.xs.length c.r.xs.length)).setCell ⟨w.heap.size + 2, 1, none⟩ (.slice (some ⟨g2, 0, none⟩) c.r.ys.length c.r.ys.length)).setCell ⟨w.heap.size + 2, 2, none⟩ (.int .i64 c.r.o)).setCell ⟨w.heap.size + 2, 3, none⟩ (.int .i64 c.r.p)).setCell ⟨w.heap.size + 2, 4, none⟩ (.int .i64 c.r.f)).setCell ⟨w.heap.size + 2, 5, none⟩ (.int .i64 c.r.m)).setCell ⟨w.heap.size + 2, 6, none⟩ (.bool c.r.s)).setCell ⟨w.heap.size + 2, 7, none⟩ (.bool c.r.t)) w.heap.size #[.slice a c.r.xs.length ca, .slice b c.r.ys.length cb, .int .i64 c.r.o, .int .i64 c.r.p, .int .i64 c.r.f, .int .i64 c.r.m, .bool c.r.s, .bool c.r.t, .slice e c.bx.length ce, .slice q c.bm cq, .bool c.st, .bool c.ha] 43 := ((((((((HA1.out.other _ _ _ (by omega)).other _ _ _ (by omega)).other _ _ _ (by omega)).other _ _ _ (by omega)).other _ _ _ (by omega)).other _ _ _ (by omega)).other _ _ _ (by omega)).other _ _ _ (by omega))
  have HR2 : Blk ((((((((w1.setCell ⟨w.heap.size + 2, 0, none⟩ (.slice (some ⟨g1, 0, none⟩) c.r.xs.length c.r.xs.length)).setCell ⟨w.heap.size + 2, 1, none⟩ (.slice (some ⟨g2, 0, none⟩) c.r.ys.length c.r.ys.length)).setCell ⟨w.heap.size + 2, 2, none⟩ (.int .i64 c.r.o)).setCell ⟨w.heap.size + 2, 3, none⟩ (.int .i64 c.r.p)).setCell ⟨w.heap.size + 2, 4, none⟩ (.int .i64 c.r.f)).setCell ⟨w.heap.size + 2, 5, none⟩ (.int .i64 c.r.m)).setCell ⟨w.heap.size + 2, 6, none⟩ (.bool c.r.s)).setCell ⟨w.heap.size + 2, 7, none⟩ (.bool c.r.t)) (w.heap.size + 1) #[.slice none 0 0, .slice none 0 0, .int .i64 0, .int .i64 0, .int .i64 0, .int .i64 0, .bool false, .bool false, .slice none 0 0, .slice none 0 0, .bool false, .bool false] 29 := ((((((((HR1.out.other _ _ _ (by omega)).other _ _ _ (by omega)).other _ _ _ (by omega)).other _ _ _ (by omega)).other _ _ _ (by omega)).other _ _ _ (by omega)).other _ _ _ (by omega)).other _ _ _ (by omega))
  have P1 : Own ((((((((w1.setCell ⟨w.heap.size + 2, 0, none⟩ (.slice (some ⟨g1, 0, none⟩) c.r.xs.length c.r.xs.length)).setCell ⟨w.heap.size + 2, 1, none⟩ (.slice (some ⟨g2, 0, none⟩) c.r.ys.length c.r.ys.length)).setCell ⟨w.heap.size + 2, 2, none⟩ (.int .i64 c.r.o)).setCell ⟨w.heap.size + 2, 3, none⟩ (.int .i64 c.r.p)).setCell ⟨w.heap.size + 2, 4, none⟩ (.int .i64 c.r.f)).setCell ⟨w.heap.size + 2, 5, none⟩ (.int .i64 c.r.m)).setCell ⟨w.heap.size + 2, 6, none⟩ (.bool c.r.s)).setCell ⟨w.heap.size + 2, 7, none⟩ (.bool c.r.t)) g1 c.r.xs := ((((((((OW1.out.setOther _ _ _ (by omega)).setOther _ _ _ (by omega)).setOther _ _ _ (by omega)).setOther _ _ _ (by omega)).setOther _ _ _ (by omega)).setOther _ _ _ (by omega)).setOther _ _ _ (by omega)).setOther _ _ _ (by omega))
  have P2 : Own ((((((((w1.setCell ⟨w.heap.size + 2, 0, none⟩ (.slice (some ⟨g1, 0, none⟩) c.r.xs.length c.r.xs.length)).setCell ⟨w.heap.size + 2, 1, none⟩ (.slice (some ⟨g2, 0, none⟩) c.r.ys.length c.r.ys.length)).setCell ⟨w.heap.size + 2, 2, none⟩ (.int .i64 c.r.o)).setCell ⟨w.heap.size + 2, 3, none⟩ (.int .i64 c.r.p)).setCell ⟨w.heap.size + 2, 4, none⟩ (.int .i64 c.r.f)).setCell ⟨w.heap.size + 2, 5, none⟩ (.int .i64 c.r.m)).setCell ⟨w.heap.size + 2, 6, none⟩ (.bool c.r.s)).setCell ⟨w.heap.size + 2, 7, none⟩ (.bool c.r.t)) g2 c.r.ys := ((((((((OW2.out.setOther _ _ _ (by omega)).setOther _ _ _ (by omega)).setOther _ _ _ (by omega)).setOther _ _ _ (by omega)).setOther _ _ _ (by omega)).setOther _ _ _ (by omega)).setOther _ _ _ (by omega)).setOther _ _ _ (by omega))
  have szY : ((((((((w1.setCell ⟨w.heap.size + 2, 0, none⟩ (.slice (some ⟨g1, 0, none⟩) c.r.xs.length c.r.xs.length)).setCell ⟨w.heap.size + 2, 1, none⟩ (.slice (some ⟨g2, 0, none⟩) c.r.ys.length c.r.ys.length)).setCell ⟨w.heap.size + 2, 2, none⟩ (.int .i64 c.r.o)).setCell ⟨w.heap.size + 2, 3, none⟩ (.int .i64 c.r.p)).setCell ⟨w.heap.size + 2, 4, none⟩ (.int .i64 c.r.f)).setCell ⟨w.heap.size + 2, 5, none⟩ (.int .i64 c.r.m)).setCell ⟨w.heap.size + 2, 6, none⟩ (.bool c.r.s)).setCell ⟨w.heap.size + 2, 7, none⟩ (.bool c.r.t)).heap.size = w1.heap.size := by simp [World.setCell]
  obtain ⟨Y, hY⟩ : ∃ Y : World, ((((((((w1.setCell ⟨w.heap.size + 2, 0, none⟩ (.slice (some ⟨g1, 0, none⟩) c.r.xs.length c.r.xs.length)).setCell ⟨w.heap.size + 2, 1, none⟩ (.slice (some ⟨g2, 0, none⟩) c.r.ys.length c.r.ys.length)).setCell ⟨w.heap.size + 2, 2, none⟩ (.int .i64 c.r.o)).setCell ⟨w.heap.size + 2, 3, none⟩ (.int .i64 c.r.p)).setCell ⟨w.heap.size + 2, 4, none⟩ (.int .i64 c.r.f)).setCell ⟨w.heap.size + 2, 5, none⟩ (.int .i64 c.r.m)).setCell ⟨w.heap.size + 2, 6, none⟩ (.bool c.r.s)).setCell ⟨w.heap.size + 2, 7, none⟩ (.bool c.r.t)) = Y := ⟨_, rfl⟩
  rw [hY] at K2 HO2 HA2 HR2 P1 P2 szY
  replace K2 := hide K2
  clear HO2_0 HO2_1 HO2_2 HO2_3 HO2_4 HO2_5 HO2_6
  replace HO2 := hide HO2
  replace HA2 := hide HA2
  replace HR2 := hide HR2
  replace P1 := hide P1
  replace P2 := hide P2
  have i8 := HA2.out.cell (i := 8) rfl
  have i9 := HA2.out.cell (i := 9) rfl
  go_wp2_with fail
  clear hX hY o0 of0 o1 of1 o2 of2 o3 of3 o4 of4 o5 of5 o6 of6 o7 of7 i8 i9
  refine (toBus _ e q ce cq c.bm c.bx c.bl (HE.out.keptS K2.out) (HQ.out.keptS K2.out) lb HL.out lm).mono ?_
  rintro e9 w2 ⟨g3, g4, rfl, o3, o4, l4, l5, l6, k⟩
  have EA := hide (HA2.out.kept0 k)
  have ER := hide (HR2.out.kept0 k)
  have EO := hide (HO2.out.kept0 k)
  have K3 := hide (K2.out.trans k)
  have k3s := k.size
  have P3 := hide (P1.out.keptS k (by omega))
  have P4 := hide (P2.out.keptS k (by omega))
  have P5 := hide o3
  have P6 := hide o4
  clear k o3 o4
  have o8 := EO.out.cell (i := 8) rfl
  have of8 := EO.out.frozen 8
  have o9 := EO.out.cell (i := 9) rfl
  have of9 := EO.out.frozen 9
  have o10 := EO.out.cell (i := 10) rfl
  have of10 := EO.out.frozen 10
  have o11 := EO.out.cell (i := 11) rfl
  have of11 := EO.out.frozen 11
  have i10 := EA.out.cell (i := 10) rfl
  have i11 := EA.out.cell (i := 11) rfl
  have K4 : Kept 0 0 w ((((w2.setCell ⟨w.heap.size + 2, 8, none⟩ (.slice (some ⟨g3, 0, none⟩) c.bx.length c.bx.length)).setCell ⟨w.heap.size + 2, 9, none⟩ (.slice (some ⟨g4, 0, none⟩) c.bm c.bm)).setCell ⟨w.heap.size + 2, 10, none⟩ (.bool c.st)).setCell ⟨w.heap.size + 2, 11, none⟩ (.bool c.ha)) := (kept_set (kept_set (kept_set (kept_set K3.out _ _ _ (.inr (by omega))) _ _ _ (.inr (by omega))) _ _ _ (.inr (by omega))) _ _ _ (.inr (by omega)))
  have FO_0 : Blk (w2.setCell ⟨w.heap.size + 2, 8, none⟩ (.slice (some ⟨g3, 0, none⟩) c.bx.length c.bx.length)) (w.heap.size + 2) #[.slice (some ⟨g1, 0, none⟩) c.r.xs.length c.r.xs.length, .slice (some ⟨g2, 0, none⟩) c.r.ys.length c.r.ys.length, .int .i64 c.r.o, .int .i64 c.r.p, .int .i64 c.r.f, .int .i64 c.r.m, .bool c.r.s, .bool c.r.t, .slice (some ⟨g3, 0, none⟩) c.bx.length c.bx.length, .slice none 0 0, .bool false, .bool false] 29 := EO.out.set 8 (.slice (some ⟨g3, 0, none⟩) c.bx.length c.bx.length)
  have FO_1 : Blk ((w2.setCell ⟨w.heap.size + 2, 8, none⟩ (.slice (some ⟨g3, 0, none⟩) c.bx.length c.bx.length)).setCell ⟨w.heap.size + 2, 9, none⟩ (.slice (some ⟨g4, 0, none⟩) c.bm c.bm)) (w.heap.size + 2) #[.slice (some ⟨g1, 0, none⟩) c.r.xs.length c.r.xs.length, .slice (some ⟨g2, 0, none⟩) c.r.ys.length c.r.ys.length, .int .i64 c.r.o, .int .i64 c.r.p, .int .i64 c.r.f, .int .i64 c.r.m, .bool c.r.s, .bool c.r.t, .slice (some ⟨g3, 0, none⟩) c.bx.length c.bx.length, .slice (some ⟨g4, 0, none⟩) c.bm c.bm, .bool false, .bool false] 29 := FO_0.set 9 (.slice (some ⟨g4, 0, none⟩) c.bm c.bm)
  have FO_2 : Blk (((w2.setCell ⟨w.heap.size + 2, 8, none⟩ (.slice (some ⟨g3, 0, none⟩) c.bx.length c.bx.length)).setCell ⟨w.heap.size + 2, 9, none⟩ (.slice (some ⟨g4, 0, none⟩) c.bm c.bm)).setCell ⟨w.heap.size + 2, 10, none⟩ (.bool c.st)) (w.heap.size + 2) #[.slice (some ⟨g1, 0, none⟩) c.r.xs.length c.r.xs.length, .slice (some ⟨g2, 0, none⟩) c.r.ys.length c.r.ys.length, .int .i64 c.r.o, .int .i64 c.r.p, .int .i64 c.r.f, .int .i64 c.r.m, .bool c.r.s, .bool c.r.t, .slice (some ⟨g3, 0, none⟩) c.bx.length c.bx.length, .slice (some ⟨g4, 0, none⟩) c.bm c.bm, .bool c.st, .bool false] 29 := FO_1.set 10 (.bool c.st)
  have FO : Blk ((((w2.setCell ⟨w.heap.size + 2, 8, none⟩ (.slice (some ⟨g3, 0, none⟩) c.bx.length c.bx.length)).setCell ⟨w.heap.size + 2, 9, none⟩ (.slice (some ⟨g4, 0, none⟩) c.bm c.bm)).setCell ⟨w.heap.size + 2, 10, none⟩ (.bool c.st)).setCell ⟨w.heap.size + 2, 11, none⟩ (.bool c.ha)) (w.heap.size + 2) #[.slice (some ⟨g1, 0, none⟩) c.r.xs.length c.r.xs.length, .slice (some ⟨g2, 0, none⟩) c.r.ys.length c.r.ys.length, .int .i64 c.r.o, .int .i64 c.r.p, .int .i64 c.r.f, .int .i64 c.r.m, .bool c.r.s, .bool c.r.t, .slice (some ⟨g3, 0, none⟩) c.bx.length c.bx.length, .slice (some ⟨g4, 0, none⟩) c.bm c.bm, .bool c.st, .bool c.ha] 29 := FO_2.set 11 (.bool c.ha)
  have FR : Blk ((((w2.setCell ⟨w.heap.size + 2, 8, none⟩ (.slice (some ⟨g3, 0, none⟩) c.bx.length c.bx.length)).setCell ⟨w.heap.size + 2, 9, none⟩ (.slice (some ⟨g4, 0, none⟩) c.bm c.bm)).setCell ⟨w.heap.size + 2, 10, none⟩ (.bool c.st)).setCell ⟨w.heap.size + 2, 11, none⟩ (.bool c.ha)) (w.heap.size + 1) #[.slice none 0 0, .slice none 0 0, .int .i64 0, .int .i64 0, .int .i64 0, .int .i64 0, .bool false, .bool false, .slice none 0 0, .slice none 0 0, .bool false, .bool false] 29 := ((((ER.out.other _ _ _ (by omega)).other _ _ _ (by omega)).other _ _ _ (by omega)).other _ _ _ (by omega))
  have Q1 : Own ((((w2.setCell ⟨w.heap.size + 2, 8, none⟩ (.slice (some ⟨g3, 0, none⟩) c.bx.length c.bx.length)).setCell ⟨w.heap.size + 2, 9, none⟩ (.slice (some ⟨g4, 0, none⟩) c.bm c.bm)).setCell ⟨w.heap.size + 2, 10, none⟩ (.bool c.st)).setCell ⟨w.heap.size + 2, 11, none⟩ (.bool c.ha)) g1 c.r.xs := ((((P3.out.setOther _ _ _ (by omega)).setOther _ _ _ (by omega)).setOther _ _ _ (by omega)).setOther _ _ _ (by omega))
  have Q2 : Own ((((w2.setCell ⟨w.heap.size + 2, 8, none⟩ (.slice (some ⟨g3, 0, none⟩) c.bx.length c.bx.length)).setCell ⟨w.heap.size + 2, 9, none⟩ (.slice (some ⟨g4, 0, none⟩) c.bm c.bm)).setCell ⟨w.heap.size + 2, 10, none⟩ (.bool c.st)).setCell ⟨w.heap.size + 2, 11, none⟩ (.bool c.ha)) g2 c.r.ys := ((((P4.out.setOther _ _ _ (by omega)).setOther _ _ _ (by omega)).setOther _ _ _ (by omega)).setOther _ _ _ (by omega))
  have Q3 : Own ((((w2.setCell ⟨w.heap.size + 2, 8, none⟩ (.slice (some ⟨g3, 0, none⟩) c.bx.length c.bx.length)).setCell ⟨w.heap.size + 2, 9, none⟩ (.slice (some ⟨g4, 0, none⟩) c.bm c.bm)).setCell ⟨w.heap.size + 2, 10, none⟩ (.bool c.st)).setCell ⟨w.heap.size + 2, 11, none⟩ (.bool c.ha)) g3 c.bx := ((((P5.out.setOther _ _ _ (by omega)).setOther _ _ _ (by omega)).setOther _ _ _ (by omega)).setOther _ _ _ (by omega))
  have Q4 : Own ((((w2.setCell ⟨w.heap.size + 2, 8, none⟩ (.slice (some ⟨g3, 0, none⟩) c.bx.length c.bx.length)).setCell ⟨w.heap.size + 2, 9, none⟩ (.slice (some ⟨g4, 0, none⟩) c.bm c.bm)).setCell ⟨w.heap.size + 2, 10, none⟩ (.bool c.st)).setCell ⟨w.heap.size + 2, 11, none⟩ (.bool c.ha)) g4 c.bl := ((((P6.out.setOther _ _ _ (by omega)).setOther _ _ _ (by omega)).setOther _ _ _ (by omega)).setOther _ _ _ (by omega))
  have szV : ((((w2.setCell ⟨w.heap.size + 2, 8, none⟩ (.slice (some ⟨g3, 0, none⟩) c.bx.length c.bx.length)).setCell ⟨w.heap.size + 2, 9, none⟩ (.slice (some ⟨g4, 0, none⟩) c.bm c.bm)).setCell ⟨w.heap.size + 2, 10, none⟩ (.bool c.st)).setCell ⟨w.heap.size + 2, 11, none⟩ (.bool c.ha)).heap.size = w2.heap.size := by simp [World.setCell]
  obtain ⟨V, hV⟩ : ∃ V : World, ((((w2.setCell ⟨w.heap.size + 2, 8, none⟩ (.slice (some ⟨g3, 0, none⟩) c.bx.length c.bx.length)).setCell ⟨w.heap.size + 2, 9, none⟩ (.slice (some ⟨g4, 0, none⟩) c.bm c.bm)).setCell ⟨w.heap.size + 2, 10, none⟩ (.bool c.st)).setCell ⟨w.heap.size + 2, 11, none⟩ (.bool c.ha)) = V := ⟨_, rfl⟩
  rw [hV] at K4 FO FR Q1 Q2 Q3 Q4 szV
  replace K4 := hide K4
  clear FO_0 FO_1 FO_2
  replace FO := hide FO
  replace FR := hide FR
  replace Q1 := hide Q1
  replace Q2 := hide Q2
  replace Q3 := hide Q3
  replace Q4 := hide Q4
  have m0 := FO.out.cell (i := 0) rfl
  have m1 := FO.out.cell (i := 1) rfl
  have m2 := FO.out.cell (i := 2) rfl
  have m3 := FO.out.cell (i := 3) rfl
  have m4 := FO.out.cell (i := 4) rfl
  have m5 := FO.out.cell (i := 5) rfl
  have m6 := FO.out.cell (i := 6) rfl
  have m7 := FO.out.cell (i := 7) rfl
  have m8 := FO.out.cell (i := 8) rfl
  have m9 := FO.out.cell (i := 9) rfl
  have m10 := FO.out.cell (i := 10) rfl
  have m11 := FO.out.cell (i := 11) rfl
  have r0 := FR.out.cell (i := 0) rfl
  have rf0 := FR.out.frozen 0
  have r1 := FR.out.cell (i := 1) rfl
  have rf1 := FR.out.frozen 1
  have r2 := FR.out.cell (i := 2) rfl
  have rf2 := FR.out.frozen 2
  have r3 := FR.out.cell (i := 3) rfl
  have rf3 := FR.out.frozen 3
  have r4 := FR.out.cell (i := 4) rfl
  have rf4 := FR.out.frozen 4
  have r5 := FR.out.cell (i := 5) rfl
  have rf5 := FR.out.frozen 5
  have r6 := FR.out.cell (i := 6) rfl
  have rf6 := FR.out.frozen 6
  have r7 := FR.out.cell (i := 7) rfl
  have rf7 := FR.out.frozen 7
  have r8 := FR.out.cell (i := 8) rfl
  have rf8 := FR.out.frozen 8
  have r9 := FR.out.cell (i := 9) rfl
  have rf9 := FR.out.frozen 9
  have r10 := FR.out.cell (i := 10) rfl
  have rf10 := FR.out.frozen 10
  have r11 := FR.out.cell (i := 11) rfl
  have rf11 := FR.out.frozen 11
  go_wp2_with fail
  clear hV
  have FF_0 : Blk (V.setCell ⟨w.heap.size + 1, 0, none⟩ (.slice (some ⟨g1, 0, none⟩) c.r.xs.length c.r.xs.length)) (w.heap.size + 1) #[.slice (some ⟨g1, 0, none⟩) c.r.xs.length c.r.xs.length, .slice none 0 0, .int .i64 0, .int .i64 0, .int .i64 0, .int .i64 0, .bool false, .bool false, .slice none 0 0, .slice none 0 0, .bool false, .bool false] 29 := FR.out.set 0 (.slice (some ⟨g1, 0, none⟩) c.r.xs.length c.r.xs.length)
  have FF_1 : Blk ((V.setCell ⟨w.heap.size + 1, 0, none⟩ (.slice (some ⟨g1, 0, none⟩) c.r.xs.length c.r.xs.length)).setCell ⟨w.heap.size + 1, 1, none⟩ (.slice (some ⟨g2, 0, none⟩) c.r.ys.length c.r.ys.length)) (w.heap.size + 1) #[.slice (some ⟨g1, 0, none⟩) c.r.xs.length c.r.xs.length, .slice (some ⟨g2, 0, none⟩) c.r.ys.length c.r.ys.length, .int .i64 0, .int .i64 0, .int .i64 0, .int .i64 0, .bool false, .bool false, .slice none 0 0, .slice none 0 0, .bool false, .bool false] 29 := FF_0.set 1 (.slice (some ⟨g2, 0, none⟩) c.r.ys.length c.r.ys.length)
  have FF_2 : Blk (((V.setCell ⟨w.heap.size + 1, 0, none⟩ (.slice (some ⟨g1, 0, none⟩) c.r.xs.length c.r.xs.length)).setCell ⟨w.heap.size + 1, 1, none⟩ (.slice (some ⟨g2, 0, none⟩) c.r.ys.length c.r.ys.length)).setCell ⟨w.heap.size + 1, 2, none⟩ (.int .i64 c.r.o)) (w.heap.size + 1) #[.slice (some ⟨g1, 0, none⟩) c.r.xs.length c.r.xs.length, .slice (some ⟨g2, 0, none⟩) c.r.ys.length c.r.ys.length, .int .i64 c.r.o, .int .i64 0, .int .i64 0, .int .i64 0, .bool false, .bool false, .slice none 0 0, .slice none 0 0, .bool false, .bool false] 29 := FF_1.set 2 (.int .i64 c.r.o)
  have FF_3 : Blk ((((V.setCell ⟨w.heap.size + 1, 0, none⟩ (.slice (some ⟨g1, 0, none⟩) c.r.xs.length c.r.xs.length)).setCell ⟨w.heap.size + 1, 1, none⟩ (.slice (some ⟨g2, 0, none⟩) c.r.ys.length c.r.ys.length)).setCell ⟨w.heap.size + 1, 2, none⟩ (.int .i64 c.r.o)).setCell ⟨w.heap.size + 1, 3, none⟩ (.int .i64 c.r.p)) (w.heap.size + 1) #[.slice (some ⟨g1, 0, none⟩) c.r.xs.length c.r.xs.length, .slice (some ⟨g2, 0, none⟩) c.r.ys.length c.r.ys.length, .int .i64 c.r.o, .int .i64 c.r.p, .int .i64 0, .int .i64 0, .bool false, .bool false, .slice none 0 0, .slice none 0 0, .bool false, .bool false] 29 := FF_2.set 3 (.int .i64 c.r.p)
  have FF_4 : Blk (((((V.setCell ⟨w.heap.size + 1, 0, none⟩ (.slice (some ⟨g1, 0, none⟩) c.r.xs.length c.r.xs.length)).setCell ⟨w.heap.size + 1, 1, none⟩ (.slice (some ⟨g2, 0, none⟩) c.r.ys.length c.r.ys.length)).setCell ⟨w.heap.size + 1, 2, none⟩ (.int .i64 c.r.o)).setCell ⟨w.heap.size + 1, 3, none⟩ (.int .i64 c.r.p)).setCell ⟨w.heap.size + 1, 4, none⟩ (.int .i64 c.r.f)) (w.heap.size + 1) #[.slice (some ⟨g1, 0, none⟩) c.r.xs.length c.r.xs.length, .slice (some ⟨g2, 0, none⟩) c.r.ys.length c.r.ys.length, .int .i64 c.r.o, .int .i64 c.r.p, .int .i64 c.r.f, .int .i64 0, .bool false, .bool false, .slice none 0 0, .slice none 0 0, .bool false, .bool false] 29 := FF_3.set 4 (.int .i64 c.r.f)
  have FF_5 : Blk ((((((V.setCell ⟨w.heap.size + 1, 0, none⟩ (.slice (some ⟨g1, 0, none⟩) c.r.xs.length c.r.xs.length)).setCell ⟨w.heap.size + 1, 1, none⟩ (.slice (some ⟨g2, 0, none⟩) c.r.ys.length c.r.ys.length)).setCell ⟨w.heap.size + 1, 2, none⟩ (.int .i64 c.r.o)).setCell ⟨w.heap.size + 1, 3, none⟩ (.int .i64 c.r.p)).setCell ⟨w.heap.size + 1, 4, none⟩ (.int .i64 c.r.f)).setCell ⟨w.heap.size + 1, 5, none⟩ (.int .i64 c.r.m)) (w.heap.size + 1) #[.slice (some ⟨g1, 0, none⟩) c.r.xs.length c.r.xs.length, .slice (some ⟨g2, 0, none⟩) c.r.ys.length c.r.ys.length, .int .i64 c.r.o, .int .i64 c.r.p, .int .i64 c.r.f, .int .i64 c.r.m, .bool false, .bool false, .slice none 0 0, .slice none 0 0, .bool false, .bool false] 29 := FF_4.set 5 (.int .i64 c.r.m)
  have FF_6 : Blk (((((((V.setCell ⟨w.heap.size + 1, 0, none⟩ (.slice (some ⟨g1, 0, none⟩) c.r.xs.length c.r.xs.length)).setCell ⟨w.heap.size + 1, 1, none⟩ (.slice (some ⟨g2, 0, none⟩) c.r.ys.length c.r.ys.length)).setCell ⟨w.heap.size + 1, 2, none⟩ (.int .i64 c.r.o)).setCell ⟨w.heap.size + 1, 3, none⟩ (.int .i64 c.r.p)).setCell ⟨w.heap.size + 1, 4, none⟩ (.int .i64 c.r.f)).setCell ⟨w.heap.size + 1, 5, none⟩ (.int .i64 c.r.m)).setCell ⟨w.heap.size + 1, 6, none⟩ (.bool c.r.s)) (w.heap.size + 1) #[.slice (some ⟨g1, 0, none⟩) c.r.xs.length c.r.xs.length, .slice (some ⟨g2, 0, none⟩) c.r.ys.length c.r.ys.length, .int .i64 c.r.o, .int .i64 c.r.p, .int .i64 c.r.f, .int .i64 c.r.m, .bool c.r.s, .bool false, .slice none 0 0, .slice none 0 0, .bool false, .bool false] 29 := FF_5.set 6 (.bool c.r.s)
  have FF_7 : Blk ((((((((V.setCell ⟨w.heap.size + 1, 0, none⟩ (.slice (some ⟨g1, 0, none⟩) c.r.xs.length c.r.xs.length)).setCell ⟨w.heap.size + 1, 1, none⟩ (.slice (some ⟨g2, 0, none⟩) c.r.ys.length c.r.ys.length)).setCell ⟨w.heap.size + 1, 2, none⟩ (.int .i64 c.r.o)).setCell ⟨w.heap.size + 1, 3, none⟩ (.int .i64 c.r.p)).setCell ⟨w.heap.size + 1, 4, none⟩ (.int .i64 c.r.f)).setCell ⟨w.heap.size + 1, 5, none⟩ (.int .i64 c.r.m)).setCell ⟨w.heap.size + 1, 6, none⟩ (.bool c.r.s)).setCell ⟨w.heap.size + 1, 7, none⟩ (.bool c.r.t)) (w.heap.size + 1) #[.slice (some ⟨g1, 0, none⟩) c.r.xs.length c.r.xs.length, .slice (some ⟨g2, 0, none⟩) c.r.ys.length c.r.ys.length, .int .i64 c.r.o, .int .i64 c.r.p, .int .i64 c.r.f, .int .i64 c.r.m, .bool c.r.s, .bool c.r.t, .slice none 0 0, .slice none 0 0, .bool false, .bool false] 29 := FF_6.set 7 (.bool c.r.t)
  have FF_8 : Blk (((((((((V.setCell ⟨w.heap.size + 1, 0, none⟩ (.slice (some ⟨g1, 0, none⟩) c.r.xs.length c.r.xs.length)).setCell ⟨w.heap.size + 1, 1, none⟩ (.slice (some ⟨g2, 0, none⟩) c.r.ys.length c.r.ys.length)).setCell ⟨w.heap.size + 1, 2, none⟩ (.int .i64 c.r.o)).setCell ⟨w.heap.size + 1, 3, none⟩ (.int .i64 c.r.p)).setCell ⟨w.heap.size + 1, 4, none⟩ (.int .i64 c.r.f)).setCell ⟨w.heap.size + 1, 5, none⟩ (.int .i64 c.r.m)).setCell ⟨w.heap.size + 1, 6, none⟩ (.bool c.r.s)).setCell ⟨w.heap.size + 1, 7, none⟩ (.bool c.r.t)).setCell ⟨w.heap.size + 1, 8, none⟩ (.slice (some ⟨g3, 0, none⟩) c.bx.length c.bx.length)) (w.heap.size + 1) #[.slice (some ⟨g1, 0, none⟩) c.r.xs.length c.r.xs.length, .slice (some ⟨g2, 0, none⟩) c.r.ys.length c.r.ys.length, .int .i64 c.r.o, .int .i64 c.r.p, .int .i64 c.r.f, .int .i64 c.r.m, .bool c.r.s, .bool c.r.t, .slice (some ⟨g3, 0, none⟩) c.bx.length c.bx.length, .slice none 0 0, .bool false, .bool false] 29 := FF_7.set 8 (.slice (some ⟨g3, 0, none⟩) c.bx.length c.bx.length)
  have FF_9 : Blk ((((((((((V.setCell ⟨w.heap.size + 1, 0, none⟩ (.slice (some ⟨g1, 0, none⟩) c.r.xs.length c.r.xs.length)).setCell ⟨w.heap.size + 1, 1, none⟩ (.slice (some ⟨g2, 0, none⟩) c.r.ys.length c.r.ys.length)).setCell ⟨w.heap.size + 1, 2, none⟩ (.int .i64 c.r.o)).setCell ⟨w.heap.size + 1, 3, none⟩ (.int .i64 c.r.p)).setCell ⟨w.heap.size + 1, 4, none⟩ (.int .i64 c.r.f)).setCell ⟨w.heap.size + 1, 5, none⟩ (.int .i64 c.r.m)).setCell ⟨w.heap.size + 1, 6, none⟩ (.bool c.r.s)).setCell ⟨w.heap.size + 1, 7, none⟩ (.bool c.r.t)).setCell ⟨w.heap.size + 1, 8, none⟩ (.slice (some ⟨g3, 0, none⟩) c.bx.length c.bx.length)).setCell ⟨w.heap.size + 1, 9, none⟩ (.slice (some ⟨g4, 0, none⟩) c.bm c.bm)) (w.heap.size + 1) #[.slice (some ⟨g1, 0, none⟩) c.r.xs.length c.r.xs.length, .slice (some ⟨g2, 0, none⟩) c.r.ys.length c.r.ys.length, .int .i64 c.r.o, .int .i64 c.r.p, .int .i64 c.r.f, .int .i64 c.r.m, .bool c.r.s, .bool c.r.t, .slice (some ⟨g3, 0, none⟩) c.bx.length c.bx.length, .slice (some ⟨g4, 0, none⟩) c.bm c.bm, .bool false, .bool false] 29 := FF_8.set 9 (.slice (some ⟨g4, 0, none⟩) c.bm c.bm)
  have FF_10 : Blk (((((((((((V.setCell ⟨w.heap.size + 1, 0, none⟩ (.slice (some ⟨g1, 0, none⟩) c.r.xs.length c.r.xs.length)).setCell ⟨w.heap.size + 1, 1, none⟩ (.slice (some ⟨g2, 0, none⟩) c.r.ys.length c.r.ys.length)).setCell ⟨w.heap.size + 1, 2, none⟩ (.int .i64 c.r.o)).setCell ⟨w.heap.size + 1, 3, none⟩ (.int .i64 c.r.p)).setCell ⟨w.heap.size + 1, 4, none⟩ (.int .i64 c.r.f)).setCell ⟨w.heap.size + 1, 5, none⟩ (.int .i64 c.r.m)).setCell ⟨w.heap.size + 1, 6, none⟩ (.bool c.r.s)).setCell ⟨w.heap.size + 1, 7, none⟩ (.bool c.r.t)).setCell ⟨w.heap.size + 1, 8, none⟩ (.slice (some ⟨g3, 0, none⟩) c.bx.length c.bx.length)).setCell ⟨w.heap.size + 1, 9, none⟩ (.slice (some ⟨g4, 0, none⟩) c.bm c.bm)).setCell ⟨w.heap.size + 1, 10, none⟩ (.bool c.st)) (w.heap.size + 1) #[.slice (some ⟨g1, 0, none⟩) c.r.xs.length c.r.xs.length, .slice (some ⟨g2, 0, none⟩) c.r.ys.length c.r.ys.length, .int .i64 c.r.o, .int .i64 c.r.p, .int .i64 c.r.f, .int .i64 c.r.m, .bool c.r.s, .bool c.r.t, .slice (some ⟨g3, 0, none⟩) c.bx.length c.bx.length, .slice (some ⟨g4, 0, none⟩) c.bm c.bm, .bool c.st, .bool false] 29 := FF_9.set 10 (.bool c.st)
  have FF : Blk ((((((((((((V.setCell ⟨w.heap.size + 1, 0, none⟩ (.slice (some ⟨g1, 0, none⟩) c.r.xs.length c.r.xs.length)).setCell ⟨w.heap.size + 1, 1, none⟩ (.slice (some ⟨g2, 0, none⟩) c.r.ys.length c.r.ys.length)).setCell ⟨w.heap.size + 1, 2, none⟩ (.int .i64 c.r.o)).setCell ⟨w.heap.size + 1, 3, none⟩ (.int .i64 c.r.p)).setCell ⟨w.heap.size + 1, 4, none⟩ (.int .i64 c.r.f)).setCell ⟨w.heap.size + 1, 5, none⟩ (.int .i64 c.r.m)).setCell ⟨w.heap.size + 1, 6, none⟩ (.bool c.r.s)).setCell ⟨w.heap.size + 1, 7, none⟩ (.bool c.r.t)).setCell ⟨w.heap.size + 1, 8, none⟩ (.slice (some ⟨g3, 0, none⟩) c.bx.length c.bx.length)).setCell ⟨w.heap.size + 1, 9, none⟩ (.slice (some ⟨g4, 0, none⟩) c.bm c.bm)).setCell ⟨w.heap.size + 1, 10, none⟩ (.bool c.st)).setCell ⟨w.heap.size + 1, 11, none⟩ (.bool c.ha)) (w.heap.size + 1) #[.slice (some ⟨g1, 0, none⟩) c.r.xs.length c.r.xs.length, .slice (some ⟨g2, 0, none⟩) c.r.ys.length c.r.ys.length, .int .i64 c.r.o, .int .i64 c.r.p, .int .i64 c.r.f, .int .i64 c.r.m, .bool c.r.s, .bool c.r.t, .slice (some ⟨g3, 0, none⟩) c.bx.length c.bx.length, .slice (some ⟨g4, 0, none⟩) c.bm c.bm, .bool c.st, .bool c.ha] 29 := FF_10.set 11 (.bool c.ha)
  refine bodyPost_ret (v := .agg #[.slice (some ⟨g1, 0, none⟩) c.r.xs.length c.r.xs.length, .slice (some ⟨g2, 0, none⟩) c.r.ys.length c.r.ys.length, .int .i64 c.r.o, .int .i64 c.r.p, .int .i64 c.r.f, .int .i64 c.r.m, .bool c.r.s, .bool c.r.t, .slice (some ⟨g3, 0, none⟩) c.bx.length c.bx.length, .slice (some ⟨g4, 0, none⟩) c.bm c.bm, .bool c.st, .bool c.ha]) ?_ rfl ⟨g1, g2, g3, g4, rfl, ⟨.inr ⟨g1, rfl, by omega, ?_, ?_⟩, .inr ⟨g2, rfl, by omega, ?_, ?_⟩, .inr ⟨g3, rfl, by omega, ?_, ?_⟩, .inr ⟨g4, rfl, by omega, ?_, ?_⟩, ?_, ?_, ?_, ?_, ?_, ?_⟩, ?_⟩
  · exact results_cell_row rfl _ _ _ _ _ (0, 0) _ rfl FF Try.underlying29 rfl (by kernel_rfl)
  · simp [World.setCell]; omega
  · exact ((((((((((((Q1.out.setOther _ _ _ (by omega)).setOther _ _ _ (by omega)).setOther _ _ _ (by omega)).setOther _ _ _ (by omega)).setOther _ _ _ (by omega)).setOther _ _ _ (by omega)).setOther _ _ _ (by omega)).setOther _ _ _ (by omega)).setOther _ _ _ (by omega)).setOther _ _ _ (by omega)).setOther _ _ _ (by omega)).setOther _ _ _ (by omega))
  · simp [World.setCell]; omega
  · exact ((((((((((((Q2.out.setOther _ _ _ (by omega)).setOther _ _ _ (by omega)).setOther _ _ _ (by omega)).setOther _ _ _ (by omega)).setOther _ _ _ (by omega)).setOther _ _ _ (by omega)).setOther _ _ _ (by omega)).setOther _ _ _ (by omega)).setOther _ _ _ (by omega)).setOther _ _ _ (by omega)).setOther _ _ _ (by omega)).setOther _ _ _ (by omega))
  · simp [World.setCell]; omega
  · exact ((((((((((((Q3.out.setOther _ _ _ (by omega)).setOther _ _ _ (by omega)).setOther _ _ _ (by omega)).setOther _ _ _ (by omega)).setOther _ _ _ (by omega)).setOther _ _ _ (by omega)).setOther _ _ _ (by omega)).setOther _ _ _ (by omega)).setOther _ _ _ (by omega)).setOther _ _ _ (by omega)).setOther _ _ _ (by omega)).setOther _ _ _ (by omega))
  · simp [World.setCell]; omega
  · exact ((((((((((((Q4.out.setOther _ _ _ (by omega)).setOther _ _ _ (by omega)).setOther _ _ _ (by omega)).setOther _ _ _ (by omega)).setOther _ _ _ (by omega)).setOther _ _ _ (by omega)).setOther _ _ _ (by omega)).setOther _ _ _ (by omega)).setOther _ _ _ (by omega)).setOther _ _ _ (by omega)).setOther _ _ _ (by omega)).setOther _ _ _ (by omega))
  · intro g h1 h2; simp [blk] at h1 h2; omega
  · intro g h1 h2; simp [blk] at h1 h2; omega
  · intro g h1 h2; simp [blk] at h1 h2; omega
  · intro g h1 h2; simp [blk] at h1 h2; omega
  · intro g h1 h2; simp [blk] at h1 h2; omega
  · intro g h1 h2; simp [blk] at h1 h2; omega
  · exact (kept_set (kept_set (kept_set (kept_set (kept_set (kept_set (kept_set (kept_set (kept_set (kept_set (kept_set (kept_set K4.out _ _ _ (.inr (by omega))) _ _ _ (.inr (by omega))) _ _ _ (.inr (by omega))) _ _ _ (.inr (by omega))) _ _ _ (.inr (by omega))) _ _ _ (.inr (by omega))) _ _ _ (.inr (by omega))) _ _ _ (.inr (by omega))) _ _ _ (.inr (by omega))) _ _ _ (.inr (by omega))) _ _ _ (.inr (by omega))) _ _ _ (.inr (by omega)))
end Go.Proofs.Ytblddehlkaolbaa

namespace Go.Proofs.Ytblddehlkaolbaa
open Go.RowKit
set_option linter.unusedVariables false
theorem specWord (n : Int) (w : World) : Calls Try.prog 27 #[.int .i64 n] w fun e w' => e = .returned (.bool (Pl.wordOk n)) ∧ w' = w := by
  go_enter Try.func27, Try.ntmps27
  go_wp2_with (go_at_call 63; refine (l1In _ _ _ _).mono ?_; rintro e w' ⟨rfl, hw⟩; have hw2 := hw.symm; clear hw; subst hw2)
  go_ret
  exact ⟨rfl, rfl⟩
end Go.Proofs.Ytblddehlkaolbaa

namespace Go.Proofs.Ytblddehlkaolbaa
open Go.RowKit
set_option linter.unusedVariables false

theorem specFlags (n : Int) (w : World) : Calls Try.prog 75 #[.int .i64 n] w fun e w' => e = .returned (.bool (Pl.within n 0 31)) ∧ w' = w := by
  go_enter Try.func75, Try.ntmps75
  go_wp2_with (go_at_call 63; refine (l1In _ _ _ _).mono ?_; rintro e w' ⟨rfl, hw⟩; have hw2 := hw.symm; clear hw; subst hw2)
  go_ret
  exact ⟨rfl, rfl⟩
theorem specFour (w : World) (a : Option Addr) (ca : Nat) (xs : List Int) (ha : IRow w a xs) (lx : xs.length ≤ 2000000) :
    Calls Try.prog 74 #[.slice a xs.length ca] w fun e w' => e = .returned (.bool (Pl.fourOk xs)) ∧ w' = w := by
  have HA := hide ha
  clear ha
  go_enter Try.func74, Try.ntmps74
  go_wp2
  go_loop [4, 7] (fun _ j => ∃ k : Nat, k ≤ xs.length ∧ j = .int .i64 k ∧ ∀ i, i < k → Pl.wordOk (el xs i) = true) (fun _ j => xs.length - (intOf j).toNat)
  case atStart => exact ⟨0, Nat.zero_le _, rfl, fun i hi => absurd hi (Nat.not_lt_zero i)⟩
  case round =>
    obtain ⟨k, hk, rfl, heq⟩ := hrel
    have HE := hide heq
    clear heq
    by_cases hlt : k < xs.length
    · obtain ⟨g1, o1, rfl, hc1⟩ := HA.out k hlt
      rw [show xs[k]?.getD 0 = el xs k from rfl] at hc1
      cases hb : Pl.wordOk (el xs k)
      · go_wp2_with (go_at_call 27; refine (specWord _ _).mono ?_; rintro e w' ⟨rfl, rfl⟩; rw [hb])
        go_ret
        exact ⟨rB (Pl.all_no hlt hb).symm, rfl⟩
      · go_wp2_with (go_at_call 27; refine (specWord _ _).mono ?_; rintro e w' ⟨rfl, rfl⟩; rw [hb])
        go_round
        case rel => exact ⟨k + 1, by omega, by go_num, snoc_all HE.out hb⟩
        case measure => simp [intOf]; omega
    · have E : Hid (Pl.fourOk xs = decide ((xs.length : Int) = 4)) := hide (Pl.all_of (fun i hi => HE.out i (by omega)))
      cases h4 : ((xs.length : Int) == 4)
      all_goals
        go_wp2
        go_ret
        exact ⟨rB (by rw [E.out]; simp at h4; simp [h4]), rfl⟩
set_option maxHeartbeats 4000000 in
theorem specGoodRegs (w : World) (r : Pl.Rg) (a b : Option Addr) (ca cb : Nat) (ha : IRow w a r.xs) (hb : IRow w b r.ys) (lx : r.xs.length ≤ 2000000) (ly : r.ys.length ≤ 2000000) :
    Calls Try.prog 40 #[.agg #[.slice a r.xs.length ca, .slice b r.ys.length cb, .int .i64 r.o, .int .i64 r.p, .int .i64 r.f, .int .i64 r.m, .bool r.s, .bool r.t]] w fun e w' => e = .returned (.bool (Pl.rgOk r)) ∧ Kept 0 0 w w' := by
  have HA := hide ha
  have HB := hide hb
  have HK := hide (kept_alloc w (.cells #[.slice a r.xs.length ca, .slice b r.ys.length cb, .int .i64 r.o, .int .i64 r.p, .int .i64 r.f, .int .i64 r.m, .bool r.s, .bool r.t] 24))
  clear ha hb
  have G : Hid (Pl.rgOk r = (Pl.fourOk r.xs && (Pl.fourOk r.ys && (Pl.wordOk r.o && (Pl.wordOk r.p && (Pl.within r.f 0 31 && Pl.within r.m 0 7)))))) := hide rfl
  cases h1 : Pl.fourOk r.xs
  · go_enter Try.func40, Try.ntmps40
    go_wp2_with (first | (go_at_call 74; refine (specFour _ a ca r.xs (HA.out.keptS HK.out) lx).mono ?_; rintro e w' ⟨rfl, hw⟩; have hw2 := hw.symm; clear hw; subst hw2; rw [h1]; have Z1 : True := trivial))
    go_ret
    exact ⟨rB (by rw [G.out, h1]; simp), HK.out⟩
  · cases h2 : Pl.fourOk r.ys
    · go_enter Try.func40, Try.ntmps40
      go_wp2_with (first | (go_at_call 74; have z := Z1; refine (specFour _ b cb r.ys (HB.out.keptS HK.out) ly).mono ?_; rintro e w' ⟨rfl, hw⟩; have hw2 := hw.symm; clear hw; subst hw2; rw [h2]) | (go_at_call 74; refine (specFour _ a ca r.xs (HA.out.keptS HK.out) lx).mono ?_; rintro e w' ⟨rfl, hw⟩; have hw2 := hw.symm; clear hw; subst hw2; rw [h1]; have Z1 : True := trivial))
      go_ret
      exact ⟨rB (by rw [G.out, h1, h2]; simp), HK.out⟩
    · cases h3 : Pl.wordOk r.o
      · go_enter Try.func40, Try.ntmps40
        go_wp2_with (first | (go_at_call 74; have z := Z1; refine (specFour _ b cb r.ys (HB.out.keptS HK.out) ly).mono ?_; rintro e w' ⟨rfl, hw⟩; have hw2 := hw.symm; clear hw; subst hw2; rw [h2]) | (go_at_call 74; refine (specFour _ a ca r.xs (HA.out.keptS HK.out) lx).mono ?_; rintro e w' ⟨rfl, hw⟩; have hw2 := hw.symm; clear hw; subst hw2; rw [h1]; have Z1 : True := trivial) | (go_at_call 27; refine (specWord r.o _).mono ?_; rintro e w' ⟨rfl, hw⟩; have hw2 := hw.symm; clear hw; subst hw2; rw [h3]; have Z3 : True := trivial))
        go_ret
        exact ⟨rB (by rw [G.out, h1, h2, h3]; simp), HK.out⟩
      · cases h4 : Pl.wordOk r.p
        · go_enter Try.func40, Try.ntmps40
          go_wp2_with (first | (go_at_call 74; have z := Z1; refine (specFour _ b cb r.ys (HB.out.keptS HK.out) ly).mono ?_; rintro e w' ⟨rfl, hw⟩; have hw2 := hw.symm; clear hw; subst hw2; rw [h2]) | (go_at_call 74; refine (specFour _ a ca r.xs (HA.out.keptS HK.out) lx).mono ?_; rintro e w' ⟨rfl, hw⟩; have hw2 := hw.symm; clear hw; subst hw2; rw [h1]; have Z1 : True := trivial) | (go_at_call 27; have z := Z3; refine (specWord r.p _).mono ?_; rintro e w' ⟨rfl, hw⟩; have hw2 := hw.symm; clear hw; subst hw2; rw [h4]) | (go_at_call 27; refine (specWord r.o _).mono ?_; rintro e w' ⟨rfl, hw⟩; have hw2 := hw.symm; clear hw; subst hw2; rw [h3]; have Z3 : True := trivial))
          go_ret
          exact ⟨rB (by rw [G.out, h1, h2, h3, h4]; simp), HK.out⟩
        · cases h5 : Pl.within r.f 0 31
          · go_enter Try.func40, Try.ntmps40
            go_wp2_with (first | (go_at_call 74; have z := Z1; refine (specFour _ b cb r.ys (HB.out.keptS HK.out) ly).mono ?_; rintro e w' ⟨rfl, hw⟩; have hw2 := hw.symm; clear hw; subst hw2; rw [h2]) | (go_at_call 74; refine (specFour _ a ca r.xs (HA.out.keptS HK.out) lx).mono ?_; rintro e w' ⟨rfl, hw⟩; have hw2 := hw.symm; clear hw; subst hw2; rw [h1]; have Z1 : True := trivial) | (go_at_call 27; have z := Z3; refine (specWord r.p _).mono ?_; rintro e w' ⟨rfl, hw⟩; have hw2 := hw.symm; clear hw; subst hw2; rw [h4]) | (go_at_call 27; refine (specWord r.o _).mono ?_; rintro e w' ⟨rfl, hw⟩; have hw2 := hw.symm; clear hw; subst hw2; rw [h3]; have Z3 : True := trivial) | (go_at_call 75; refine (specFlags _ _).mono ?_; rintro e w' ⟨rfl, hw⟩; have hw2 := hw.symm; clear hw; subst hw2; rw [h5]))
            go_ret
            exact ⟨rB (by rw [G.out, h1, h2, h3, h4, h5]; simp), HK.out⟩
          · cases h6 : Pl.within r.m 0 7
            · go_enter Try.func40, Try.ntmps40
              go_wp2_with (first | (go_at_call 74; have z := Z1; refine (specFour _ b cb r.ys (HB.out.keptS HK.out) ly).mono ?_; rintro e w' ⟨rfl, hw⟩; have hw2 := hw.symm; clear hw; subst hw2; rw [h2]) | (go_at_call 74; refine (specFour _ a ca r.xs (HA.out.keptS HK.out) lx).mono ?_; rintro e w' ⟨rfl, hw⟩; have hw2 := hw.symm; clear hw; subst hw2; rw [h1]; have Z1 : True := trivial) | (go_at_call 27; have z := Z3; refine (specWord r.p _).mono ?_; rintro e w' ⟨rfl, hw⟩; have hw2 := hw.symm; clear hw; subst hw2; rw [h4]) | (go_at_call 27; refine (specWord r.o _).mono ?_; rintro e w' ⟨rfl, hw⟩; have hw2 := hw.symm; clear hw; subst hw2; rw [h3]; have Z3 : True := trivial) | (go_at_call 75; refine (specFlags _ _).mono ?_; rintro e w' ⟨rfl, hw⟩; have hw2 := hw.symm; clear hw; subst hw2; rw [h5]) | (go_at_call 63; refine (l1In _ _ _ _).mono ?_; rintro e w' ⟨rfl, hw⟩; have hw2 := hw.symm; clear hw; subst hw2; rw [show (decide (0 ≤ r.m) && decide (r.m ≤ 7)) = Pl.within r.m 0 7 from rfl, h6]))
              go_ret
              exact ⟨rB (by rw [G.out, h1, h2, h3, h4, h5, h6]; simp), HK.out⟩
            · go_enter Try.func40, Try.ntmps40
              go_wp2_with (first | (go_at_call 74; have z := Z1; refine (specFour _ b cb r.ys (HB.out.keptS HK.out) ly).mono ?_; rintro e w' ⟨rfl, hw⟩; have hw2 := hw.symm; clear hw; subst hw2; rw [h2]) | (go_at_call 74; refine (specFour _ a ca r.xs (HA.out.keptS HK.out) lx).mono ?_; rintro e w' ⟨rfl, hw⟩; have hw2 := hw.symm; clear hw; subst hw2; rw [h1]; have Z1 : True := trivial) | (go_at_call 27; have z := Z3; refine (specWord r.p _).mono ?_; rintro e w' ⟨rfl, hw⟩; have hw2 := hw.symm; clear hw; subst hw2; rw [h4]) | (go_at_call 27; refine (specWord r.o _).mono ?_; rintro e w' ⟨rfl, hw⟩; have hw2 := hw.symm; clear hw; subst hw2; rw [h3]; have Z3 : True := trivial) | (go_at_call 75; refine (specFlags _ _).mono ?_; rintro e w' ⟨rfl, hw⟩; have hw2 := hw.symm; clear hw; subst hw2; rw [h5]) | (go_at_call 63; refine (l1In _ _ _ _).mono ?_; rintro e w' ⟨rfl, hw⟩; have hw2 := hw.symm; clear hw; subst hw2; rw [show (decide (0 ≤ r.m) && decide (r.m ≤ 7)) = Pl.within r.m 0 7 from rfl, h6]))
              go_ret
              exact ⟨rB (by rw [G.out, h1, h2, h3, h4, h5, h6]; simp), HK.out⟩
end Go.Proofs.Ytblddehlkaolbaa

namespace Go.Proofs.Ytblddehlkaolbaa
open Go.RowKit
set_option linter.unusedVariables false

theorem own_empty1 {w : World} {g base size : Nat} {e : TypeId} (h : Blk w g #[] e) (hb : base ≤ g) : w.ownsRow base e size (.slice (some ⟨g, 0, none⟩) 0 0) 0 [] :=
  ⟨by simp, .inr ⟨g, 0, #[], rfl, hb, h, Nat.le_refl _, Nat.zero_le _, by simp, by simp⟩⟩
theorem copy_ints {ops : Array Oper} {rest : List Oper} {o : Oper} {a : Act} {w : World} {Q : Exit → Act → World → Prop} (hgd : o.guard = none) (s x : Operand)
    (ho : o.op = .call { callee := .builtin .append, args := #[s, x], argTypes := #[22, 22] }) (base g : Nat) (hs : a.eval s = .slice (some ⟨g, 0, none⟩) 0 0) (hg : Blk w g #[] 3) (hbg : base ≤ g)
    (sp : Option Addr) (n c : Nat) (xs : List Int) (hx : a.eval x = .slice sp n c) (hr : IRow w sp xs) (hn : xs.length = n) (bn : n ≤ 2000000) (H : Nat) (hH : w.heap.size = H)
    (h : ∀ (g' cap : Nat) (w' : World), w'.ownsRow base 3 1 (.slice (some ⟨g', 0, none⟩) n cap) n (xs.map (Value.int .i64)) → Kept g (g + 1) w w' → (g' = g ∨ g' = H) → g' < w'.heap.size → wpList Try.prog ops Q rest (a.put o.dst (.slice (some ⟨g', 0, none⟩) n cap)) w') :
    wpList Try.prog ops Q (o :: rest) a w := by
  obtain ⟨i, hi, hz0, hz1, hz2⟩ := info_parts Try.info3
  have hlt := hg.lt
  by_cases h0 : n = 0
  · subst h0
    obtain rfl : xs = [] := List.eq_nil_of_length_eq_zero hn
    have hl0 : ∀ (x : Addr), (loadCells x 0).run Try.prog w = .ok #[] w := fun x => by simpa using run_loadCells_list (P := Try.prog) w x [] (by simp)
    have hrun : (Builtin.append_ #[22, 22] o.type #[.slice (some ⟨g, 0, none⟩) 0 0, .slice sp 0 c]).run Try.prog w = .ok (.slice (some ⟨g, 0, none⟩) 0 0) w := by
      cases sp <;> simp [Builtin.append_, run_underlying Try.underlying22, Builtin.lenOf, Builtin.firstCells, sizeOf, typeInfo, hi, storeCells, hl0]
    refine wpList_plain hgd fun K hK => ?_
    unfold Oper.wp
    simp [execOp, ho, resolve, invoke, builtin, hs, hx, hrun, Result.andThen]
    exact hK _ _ (h g 0 w (own_empty1 hg hbg) (Kept.refl _ _ _) (.inl rfl) hlt)
  · obtain ⟨ga, oa, rfl, _⟩ := hr 0 (by omega)
    refine wpList_append_lies _ hgd s x 22 ho base 3 i (.int .i64 0) 1 8 Try.underlying22 hi hz0 hz1 hz2 rfl (by decide) (.slice (some ⟨g, 0, none⟩) 0 0) 0 [] hs (own_empty1 hg hbg) ⟨ga, oa, none⟩ n c (xs.map (Value.int .i64)) hx (by simp [hn]) (news_of hr) news_one (by omega) (by unfold maxLen; omega) (by omega) (by omega) H hH ?_
    intro g' cap w' h1 h2 h3 h4
    simp only [Nat.zero_add, List.nil_append] at h1 ⊢
    refine h g' cap w' h1 (kept_row h2 (by intro j hj; have h5 : g = j := Option.some.inj hj; omega)) ?_ h4
    rcases h3 with h3 | h3
    · exact .inl (Option.some.inj h3).symm
    · exact .inr h3
end Go.Proofs.Ytblddehlkaolbaa

namespace Go.Proofs.Ytblddehlkaolbaa
open Go.RowKit
set_option linter.unusedVariables false

/-- the lists of registers lie in new blocks, apart -/
def RegIn (w : World) (base : Nat) (r : Pl.Rg) (a b : Option Addr) : Prop := SlotIn w base w.heap.size a r.xs ∧ SlotIn w base w.heap.size b r.ys ∧ (∀ g, blk a = some g → blk b ≠ some g)
theorem RegIn.kept {w w' : World} {base : Nat} {r : Pl.Rg} {a b : Option Addr} (h : RegIn w base r a b) (k : Kept 0 0 w w') : RegIn w' base r a b :=
  ⟨(h.1.kept k (by omega)).wide (Nat.le_refl _) k.size, (h.2.1.kept k (by omega)).wide (Nat.le_refl _) k.size, h.2.2⟩
set_option maxHeartbeats 8000000 in
theorem specOwn (w : World) (r : Pl.Rg) (a b : Option Addr) (ca cb : Nat) (ha : IRow w a r.xs) (hb : IRow w b r.ys) (lx : r.xs.length ≤ 2000000) (ly : r.ys.length ≤ 2000000) :
    Calls Try.prog 96 #[.agg #[.slice a r.xs.length ca, .slice b r.ys.length cb, .int .i64 r.o, .int .i64 r.p, .int .i64 r.f, .int .i64 r.m, .bool r.s, .bool r.t]] w fun e w' => ∃ (a' b' : Option Addr) (ca' cb' : Nat), e = .returned (.agg #[.slice a' r.xs.length ca', .slice b' r.ys.length cb', .int .i64 r.o, .int .i64 r.p, .int .i64 r.f, .int .i64 r.m, .bool r.s, .bool r.t]) ∧ RegIn w' w.heap.size r a' b' ∧ Kept 0 0 w w' := by
  have HA := hide ha
  have HB := hide hb
  clear ha hb
  have K0 := hide (kept_new (kept_new (kept_alloc w (.cells #[.slice a r.xs.length ca, .slice b r.ys.length cb, .int .i64 r.o, .int .i64 r.p, .int .i64 r.f, .int .i64 r.m, .bool r.s, .bool r.t] 24)) (.cells #[.slice none 0 0, .slice none 0 0, .int .i64 0, .int .i64 0, .int .i64 0, .int .i64 0, .bool false, .bool false] 24)) (.cells #[] 3))
  have B0 := hide (((Blk.new w #[.slice a r.xs.length ca, .slice b r.ys.length cb, .int .i64 r.o, .int .i64 r.p, .int .i64 r.f, .int .i64 r.m, .bool r.s, .bool r.t] 24).alloc (.cells #[.slice none 0 0, .slice none 0 0, .int .i64 0, .int .i64 0, .int .i64 0, .int .i64 0, .bool false, .bool false] 24)).alloc (.cells #[] 3))
  have B1 := (Blk.new (w.alloc (.cells #[.slice a r.xs.length ca, .slice b r.ys.length cb, .int .i64 r.o, .int .i64 r.p, .int .i64 r.f, .int .i64 r.m, .bool r.s, .bool r.t] 24)) #[.slice none 0 0, .slice none 0 0, .int .i64 0, .int .i64 0, .int .i64 0, .int .i64 0, .bool false, .bool false] 24).alloc (.cells #[] 3)
  have B2 := Blk.new ((w.alloc (.cells #[.slice a r.xs.length ca, .slice b r.ys.length cb, .int .i64 r.o, .int .i64 r.p, .int .i64 r.f, .int .i64 r.m, .bool r.s, .bool r.t] 24)).alloc (.cells #[.slice none 0 0, .slice none 0 0, .int .i64 0, .int .i64 0, .int .i64 0, .int .i64 0, .bool false, .bool false] 24)) #[] 3
  simp only [World.size_alloc] at B1 B2
  replace B1 := hide B1
  replace B2 := hide B2
  go_enter Try.func96, Try.ntmps96
  go_wp2_with (at_builtin; refine copy_ints rfl (.tmp 3) (.tmp 5) rfl w.heap.size (w.heap.size + 1 + 1) rfl B2.out (by omega) a r.xs.length ca r.xs rfl (HA.out.keptS K0.out) rfl lx (w.heap.size + 1 + 1 + 1) (by simp) ?_)
  intro g1 c1 w1 o1 k1 hg1 l1
  have C0 := hide (B0.out.kept k1 (by omega))
  have C1 := hide (B1.out.kept k1 (by omega))
  have d3 := C0.out.cell (i := 0) rfl
  have f3 := C0.out.frozen 0
  have n0 := B2.out.lt
  have n1 := k1.size
  obtain ⟨p1, p2⟩ := o1.lt g1 rfl
  have D0 := hide ((C0.out.set 0 (.slice (some ⟨g1, 0, none⟩) r.xs.length c1)).alloc (.cells #[] 3))
  have D1 := hide ((C1.out.other w.heap.size 0 (.slice (some ⟨g1, 0, none⟩) r.xs.length c1) (by omega)).alloc (.cells #[] 3))
  have O1 := hide ((o1.kept (grownBy_set w1 w.heap.size 0 (.slice (some ⟨g1, 0, none⟩) r.xs.length c1)) (.inr (fun e => by have h3 : g1 = w.heap.size := Option.some.inj e; omega))).alloc (.cells #[] 3))
  have K1 := hide (kept_new (kept_set (kept_over K0.out k1 (by omega)) w.heap.size 0 (.slice (some ⟨g1, 0, none⟩) r.xs.length c1) (.inr (Nat.le_refl _))) (.cells #[] 3))
  have E2 := Blk.new (w1.setCell ⟨w.heap.size, 0, none⟩ (.slice (some ⟨g1, 0, none⟩) r.xs.length c1)) #[] 3
  simp only [World.size_setCell] at E2
  replace E2 := hide E2
  have q4 := D0.out.cell (i := 1) rfl
  clear o1 k1 B0 B1 B2 C0 C1
  go_wp2_with (at_builtin; refine copy_ints rfl (.tmp 8) (.tmp 10) rfl w.heap.size w1.heap.size rfl E2.out (by omega) b r.ys.length cb r.ys rfl (HB.out.keptS K1.out) rfl ly (w1.heap.size + 1) (by simp) ?_)
  intro g2 c2 w2 o2 k2 hg2 l2
  clear q4 d3 f3
  have F0 := D0.out.kept k2 (by omega)
  have F1 := D1.out.kept k2 (by omega)
  obtain ⟨p3, p4⟩ := o2.lt g2 rfl
  have n2 := k2.size
  simp only [World.size_alloc, World.size_setCell] at n2
  have P1 := hide (O1.out.kept (kept_by k2) (.inr (fun e => by have h3 : g1 = w1.heap.size := Option.some.inj e; omega)))
  have P2 := hide o2
  have K2 := hide (kept_over K1.out k2 (by omega))
  have x0 := F0.cell (i := 0) rfl
  have x1 := F0.cell (i := 1) rfl
  have x2 := F0.cell (i := 2) rfl
  have x3 := F0.cell (i := 3) rfl
  have x4 := F0.cell (i := 4) rfl
  have x5 := F0.cell (i := 5) rfl
  have x6 := F0.cell (i := 6) rfl
  have x7 := F0.cell (i := 7) rfl
  have v1' := F0.frozen 1
  have y0 := F1.cell (i := 0) rfl
  have u0 := F1.frozen 0
  have y1 := F1.cell (i := 1) rfl
  have u1 := F1.frozen 1
  have y2 := F1.cell (i := 2) rfl
  have u2 := F1.frozen 2
  have y3 := F1.cell (i := 3) rfl
  have u3 := F1.frozen 3
  have y4 := F1.cell (i := 4) rfl
  have u4 := F1.frozen 4
  have y5 := F1.cell (i := 5) rfl
  have u5 := F1.frozen 5
  have y6 := F1.cell (i := 6) rfl
  have u6 := F1.frozen 6
  have y7 := F1.cell (i := 7) rfl
  have u7 := F1.frozen 7
  have G1 := hide F1
  have hne : g1 ≠ g2 := by omega
  clear F0 F1 o2 k2
  go_wp2_with fail
  refine bodyPost_ret (v := .agg #[.slice (some ⟨g1, 0, none⟩) r.xs.length c1, .slice (some ⟨g2, 0, none⟩) r.ys.length c2, .int .i64 r.o, .int .i64 r.p, .int .i64 r.f, .int .i64 r.m, .bool r.s, .bool r.t]) ?_ rfl ?_
  · exact results_cell_row rfl _ _ _ _ _ (0, 0) _ rfl (((((((((G1.out.other _ _ _ (by omega)).set _ _).set _ _).set _ _).set _ _).set _ _).set _ _).set _ _).set _ _) Try.underlying24 rfl (by kernel_rfl)
  · refine ⟨some ⟨g1, 0, none⟩, some ⟨g2, 0, none⟩, c1, c2, rfl, ⟨.inr ⟨g1, rfl, by omega, by simp; omega, ?_⟩, .inr ⟨g2, rfl, by omega, by simp; omega, ?_⟩, ?_⟩, ?_⟩
    · exact ((((((((((own_of_row P1.out).setOther _ _ _ (by omega)).setOther _ _ _ (by omega)).setOther _ _ _ (by omega)).setOther _ _ _ (by omega)).setOther _ _ _ (by omega)).setOther _ _ _ (by omega)).setOther _ _ _ (by omega)).setOther _ _ _ (by omega)).setOther _ _ _ (by omega))
    · exact ((((((((((own_of_row P2.out).setOther _ _ _ (by omega)).setOther _ _ _ (by omega)).setOther _ _ _ (by omega)).setOther _ _ _ (by omega)).setOther _ _ _ (by omega)).setOther _ _ _ (by omega)).setOther _ _ _ (by omega)).setOther _ _ _ (by omega)).setOther _ _ _ (by omega))
    · intro g hg hh
      simp [blk] at hg hh
      omega
    · exact (kept_set (kept_set (kept_set (kept_set (kept_set (kept_set (kept_set (kept_set (kept_set K2.out _ _ _ (.inr (by omega))) _ _ _ (.inr (by omega))) _ _ _ (.inr (by omega))) _ _ _ (.inr (by omega))) _ _ _ (.inr (by omega))) _ _ _ (.inr (by omega))) _ _ _ (.inr (by omega))) _ _ _ (.inr (by omega))) _ _ _ (.inr (by omega)))
end Go.Proofs.Ytblddehlkaolbaa

