/- The program's registers as one value (fourteen cells): how they are laid out and read. -/
import Derived.Test.YtikmelkobbbgnaaImplRegB
import Derived.Test.YtikmelkobbbgnaaSpecReg3
import Derived.Laws.CopyOwn
import Derived.Laws.Rows
import Derived.Laws.Tables
namespace Go.Proofs.Ytikmelkobbbgnaa
open Go.RowKit
set_option linter.unusedVariables false
/-- the fourteen cells of registers in one value -/
def bkR (r : Pl.Rg) : Array Value := #[.int .i64 (el r.xs 0), .int .i64 (el r.xs 1), .int .i64 (el r.xs 2), .int .i64 (el r.xs 3), .int .i64 (el r.ys 0), .int .i64 (el r.ys 1), .int .i64 (el r.ys 2), .int .i64 (el r.ys 3), .int .i64 r.o, .int .i64 r.p, .int .i64 r.f, .int .i64 r.m, .bool r.s, .bool r.t]
theorem bkR_one (r : Pl.Rg) : (bkR r).all (·.oneCell') = true := by simp [bkR, Value.oneCell']
theorem bkR_info (r : Pl.Rg) : (Try.prog.info? 55).map (·.size) = some (bkR r).size := by
  have : (Try.prog.info? 55).map (·.size) = some 14 := by kernel_rfl
  exact this
theorem list4 {xs : List Int} (h : xs.length = 4) : xs = [el xs 0, el xs 1, el xs 2, el xs 3] := by
  match xs, h with
  | [a, b, c, d], _ => rfl

theorem mk4 (w : World) : (Instr.makeSlice 22 (.int .i64 4) (.int .i64 4)).run Try.prog w = .ok (.slice (some ⟨w.heap.size, 0, none⟩) 4 4) (w.alloc (.cells #[.int .i64 0, .int .i64 0, .int .i64 0, .int .i64 0] 3)) := by kernel_rfl
theorem listOf4 (x0 x1 x2 x3 : Int) (w : World) :
    Calls Try.prog 64 #[.agg #[.int .i64 x0, .int .i64 x1, .int .i64 x2, .int .i64 x3]] w fun e w' => e = .returned (.slice (some ⟨w.heap.size + 1, 0, none⟩) 4 4) ∧ Blk w' (w.heap.size + 1) (cellsOf [x0, x1, x2, x3]) 3 ∧ Kept 0 0 w w' := by
  have B0 : Blk ((w.alloc (.cells #[.int .i64 x0, .int .i64 x1, .int .i64 x2, .int .i64 x3] 53)).alloc (.cells #[.int .i64 0, .int .i64 0, .int .i64 0, .int .i64 0] 3)) w.heap.size (cellsOf [x0, x1, x2, x3]) 53 := (Blk.new w #[.int .i64 x0, .int .i64 x1, .int .i64 x2, .int .i64 x3] 53).alloc _
  have B1 := Blk.new (w.alloc (.cells #[.int .i64 x0, .int .i64 x1, .int .i64 x2, .int .i64 x3] 53)) #[.int .i64 0, .int .i64 0, .int .i64 0, .int .i64 0] 3
  simp only [World.size_alloc] at B1
  obtain ⟨W1, hcopy, C1, k1⟩ := copy_at _ (w.heap.size + 1) 0 4 4 4 (some ⟨w.heap.size, 0, none⟩) [x0, x1, x2, x3] [.int .i64 0, .int .i64 0, .int .i64 0, .int .i64 0] 3 B1 (own_of_blk B0).row (by simp) (by simp)
  have hc : (Builtin.copy_ #[22, 22] 3 #[.slice (some ⟨w.heap.size + 1, 0, none⟩) 4 4, .slice (some ⟨w.heap.size, 0, none⟩) 4 4]).run Try.prog ((w.alloc (.cells #[.int .i64 x0, .int .i64 x1, .int .i64 x2, .int .i64 x3] 53)).alloc (.cells #[.int .i64 0, .int .i64 0, .int .i64 0, .int .i64 0] 3)) = .ok (.int .i64 4) W1 := hcopy
  have C := hide (show Blk W1 (w.heap.size + 1) (cellsOf [x0, x1, x2, x3]) 3 from C1)
  have K := hide (kept_over (kept_new (kept_alloc w _) _) k1 (by omega))
  clear B0 B1 hcopy C1 k1
  have mk := mk4
  go_enter Try.func64, Try.ntmps64
  go_wp2
  go_ret
  exact ⟨rfl, C.out, K.out⟩
theorem bankOf (w : World) (d : Pl.Rg) (a b : Option Addr) (ca cb : Nat) (ha : IRow w a d.xs) (hb : IRow w b d.ys) (lx : d.xs.length = 4) (ly : d.ys.length = 4) :
    Calls Try.prog 53 #[.agg #[.slice a d.xs.length ca, .slice b d.ys.length cb, .int .i64 d.o, .int .i64 d.p, .int .i64 d.f, .int .i64 d.m, .bool d.s, .bool d.t]] w fun e w' => e = .returned (.agg (bkR d)) ∧ Kept 0 0 w w' := by
  rw [lx, ly]
  obtain ⟨W0, h0⟩ : ∃ W : World, W = ((w.alloc (.cells #[.slice a 4 ca, .slice b 4 cb, .int .i64 d.o, .int .i64 d.p, .int .i64 d.f, .int .i64 d.m, .bool d.s, .bool d.t] 24)).alloc (.cells #[.int .i64 0, .int .i64 0, .int .i64 0, .int .i64 0, .int .i64 0, .int .i64 0, .int .i64 0, .int .i64 0, .int .i64 0, .int .i64 0, .int .i64 0, .int .i64 0, .bool false, .bool false] 55)).alloc (.cells #[.int .i64 0, .int .i64 0, .int .i64 0, .int .i64 0, .int .i64 0, .int .i64 0, .int .i64 0, .int .i64 0, .int .i64 d.o, .int .i64 d.p, .int .i64 d.f, .int .i64 d.m, .bool d.s, .bool d.t] 55) := ⟨_, rfl⟩
  have R0 : Blk W0 w.heap.size #[.slice a 4 ca, .slice b 4 cb, .int .i64 d.o, .int .i64 d.p, .int .i64 d.f, .int .i64 d.m, .bool d.s, .bool d.t] 24 := by rw [h0]; exact ((Blk.new w _ _).alloc _).alloc _
  have Z0 : Blk W0 (w.heap.size + 1) #[.int .i64 0, .int .i64 0, .int .i64 0, .int .i64 0, .int .i64 0, .int .i64 0, .int .i64 0, .int .i64 0, .int .i64 0, .int .i64 0, .int .i64 0, .int .i64 0, .bool false, .bool false] 55 := by
    rw [h0]
    have := Blk.new (w.alloc (.cells #[.slice a 4 ca, .slice b 4 cb, .int .i64 d.o, .int .i64 d.p, .int .i64 d.f, .int .i64 d.m, .bool d.s, .bool d.t] 24)) #[.int .i64 0, .int .i64 0, .int .i64 0, .int .i64 0, .int .i64 0, .int .i64 0, .int .i64 0, .int .i64 0, .int .i64 0, .int .i64 0, .int .i64 0, .int .i64 0, .bool false, .bool false] 55
    simp only [World.size_alloc] at this
    exact this.alloc _
  have B0 : Blk W0.drew (w.heap.size + 1 + 1) #[.int .i64 0, .int .i64 0, .int .i64 0, .int .i64 0, .int .i64 0, .int .i64 0, .int .i64 0, .int .i64 0, .int .i64 d.o, .int .i64 d.p, .int .i64 d.f, .int .i64 d.m, .bool d.s, .bool d.t] 55 := by
    rw [h0]
    have := Blk.new ((w.alloc (.cells #[.slice a 4 ca, .slice b 4 cb, .int .i64 d.o, .int .i64 d.p, .int .i64 d.f, .int .i64 d.m, .bool d.s, .bool d.t] 24)).alloc (.cells #[.int .i64 0, .int .i64 0, .int .i64 0, .int .i64 0, .int .i64 0, .int .i64 0, .int .i64 0, .int .i64 0, .int .i64 0, .int .i64 0, .int .i64 0, .int .i64 0, .bool false, .bool false] 55)) #[.int .i64 0, .int .i64 0, .int .i64 0, .int .i64 0, .int .i64 0, .int .i64 0, .int .i64 0, .int .i64 0, .int .i64 d.o, .int .i64 d.p, .int .i64 d.f, .int .i64 d.m, .bool d.s, .bool d.t] 55
    simp only [World.size_alloc] at this
    exact this
  have K0 : Kept 0 0 w W0.drew := by rw [h0]; exact kept_drew (kept_new (kept_new (kept_alloc w _) _) _)
  have r00 := R0.cell (i := 0) rfl
  have r01 := R0.cell (i := 1) rfl
  obtain ⟨W1, hc1, B1, k1⟩ := copy_at W0.drew (w.heap.size + 1 + 1) 0 4 4 ca a d.xs _ _ B0 (ha.keptS K0) (by omega) (by rw [lx]; simp)
  have K1 : Kept 0 0 w W1.drew := kept_drew (kept_over K0 k1 (by omega))
  have R1 : Blk W1 w.heap.size #[.slice a 4 ca, .slice b 4 cb, .int .i64 d.o, .int .i64 d.p, .int .i64 d.f, .int .i64 d.m, .bool d.s, .bool d.t] 24 := Blk.kept (show Blk W0.drew _ _ _ from R0) k1 (by omega)
  have r11 := R1.cell (i := 1) rfl
  obtain ⟨W2, hc2, B2, k2⟩ := copy_at W1.drew (w.heap.size + 1 + 1) 4 4 4 cb b d.ys _ _ (show Blk W1.drew _ _ _ from B1) (hb.keptS K1) (by omega) (by rw [ly, length_splice _ _ _ (by simp [lx])]; simp)
  have Z1 := Blk.kept (show Blk W0.drew _ _ _ from Z0) k1 (by omega)
  have Z2 := hide (Blk.kept (show Blk W1.drew _ _ _ from Z1) k2 (by omega))
  have K2 := hide (kept_over K1 k2 (by omega))
  rw [lx] at hc1
  rw [ly] at hc2
  have D2 : Hid (Blk W2 (w.heap.size + 1 + 1) (bkR d) 55) := hide (by
    rw [list4 lx, list4 ly] at B2
    exact B2)
  clear B0 B1 B2 k1 k2 K0 K1 R0 Z0 R1 Z1
  go_enter Try.func53, Try.ntmps53
  go_wp2_with fail
  rw [← h0]
  clear h0
  go_region
  go_wp2_with fail
  go_region
  go_wp2_with (first | (refine wpList_load_row rfl 55 (.tmp 3) rfl (w.heap.size + 1 + 1) rfl 55 (bkR d) (0, 0) _ D2.out Try.underlying55 rfl (bkR_info d) ?_) | (refine wpList_store_row rfl 55 (.tmp 2) (.tmp 27) rfl (w.heap.size + 1) (bkR d) rfl rfl 55 _ Z2.out (bkR_info d) rfl (bkR_one d) ?_))
  refine bodyPost_ret (v := .agg (bkR d)) ?_ rfl ⟨rfl, kept_setRow K2.out _ _ (by omega)⟩
  exact results_cell_row rfl _ _ _ _ _ (0, 0) _ rfl Z2.out.setRow Try.underlying55 rfl (bkR_info d)
end Go.Proofs.Ytikmelkobbbgnaa
