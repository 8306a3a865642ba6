/- What the program's bank answers for the place of an operand: the register moved before. -/
import Derived.Test.YtikmelkobbbgnaaImplRegI
import Derived.Test.YtikmelkobbbgnaaImplRegE
import Derived.StillTailTactics
import Derived.BigQuiet
import Derived.Deep.QuietTactic
namespace Go.Proofs.Ytikmelkobbbgnaa
open Go.RowKit
set_option linter.unusedVariables false
set_option maxHeartbeats 4000000 in
set_option maxRecDepth 100000 in
theorem place4_0 (w : World) (g : Nat) (r : Pl.Rg) (z e : Int) (hB : Blk w g (bkR r) 55) (hg : Pl.Good r) (hz : z = 1 ∨ z = 2) (x0 : 0 ≤ e) (x1 : e ≤ 65535) :
    Calls Try.prog 54 #[.pointer (some ⟨g, 0, none⟩), .int .i64 z, .iface 85 (.agg #[.int .i64 0])] w fun e' w' => e' = .returned (.tuple #[.int .i64 (Pl.placeV r z 4 0 e), .bool true]) ∧ Blk w' g (bkR (Pl.placeR r z 4 0 e)) 55 ∧ Kept g (g + 1) w w' := by
  have t2 := ta42
  have t3 := ta43
  have t4 := ta44
  have t5 := ta45
  have t6 := ta46
  have b9 := hB.lt
  obtain ⟨y0, y1⟩ := hg.aw 0 (by decide)
  obtain ⟨nb0, nb1⟩ : 1 ≤ Pl.byN z 0 ∧ Pl.byN z 0 ≤ 2 := by unfold Pl.byN; split <;> omega
  have ew : IntKind.i64.wrap (el r.ys 0 - Pl.byN z 0) = el r.ys 0 - Pl.byN z 0 := by rw [IntKind.wrap_i64]; omega
  have EV : Hid ((el r.ys 0 - Pl.byN z 0) % 65536 = Pl.placeV r z 4 0 e) := hide (by simp [Pl.placeV])
  have ER : Hid (bkR (Pl.placeR r z 4 0 e) = (bkR r).setIfInBounds 4 (.int .i64 ((el r.ys 0 - Pl.byN z 0) % 65536))) := hide (by
    have q : Pl.placeR r z 4 0 e = { r with ys := r.ys.set 0 ((el r.ys 0 - Pl.byN z 0) % 65536) } := by simp [Pl.placeR]
    rw [q]; exact bkY hg.a4 (by decide) _)
  have HN := hide (Blk.new w #[.int .i64 0] 85)
  have HB1 := hide (hB.alloc (.cells #[.int .i64 0] 85))
  have HK := hide (kept_alloc w (.cells #[.int .i64 0] 85))
  clear hg hB
  go_enter Try.func54, Try.ntmps54
  go_wp2_with fail
  obtain ⟨X, hX⟩ : ∃ X : World, X = w.alloc (.cells #[.int .i64 0] 85) := ⟨_, rfl⟩
  rw [← hX] at HN HB1 HK ⊢
  clear hX t2 t3 t4 t5 t6
  refine wp_region_still_tail 18 (by kernel_rfl) (by kernel_rfl) ?_
  simp only [List.take_succ_cons, List.take_zero, List.drop_succ_cons, List.drop_zero]
  obtain ⟨Y, hY⟩ : ∃ Y : World, Y = { X with drawn := (X).drawn + 1 } := ⟨_, rfl⟩
  rw [← hY]
  have BY : Hid (Blk Y g (bkR r) 55) := hide (by rw [hY]; exact HB1.out)
  have NY : Hid (Blk Y w.heap.size #[.int .i64 0] 85) := hide (by rw [hY]; exact HN.out)
  have KY : Hid (Kept 0 0 w Y) := hide (by rw [hY]; exact kept_drew HK.out)
  clear hY HB1 HN HK
  obtain ⟨c0, c1, c2, c3, c4, c5, c6, c7, c8, c9, c10, c11, c12, c13⟩ := bkS BY.out
  clear c0 c1 c2 c3 c5 c6 c7 c8 c9 c10 c11 c12 c13
  have d4 := BY.out.frozen 4
  have n0 := NY.out.cell (i := 0) rfl
  iterate 13 still_step
  still_call (strideOf _ _ _ hz)
  iterate 1 still_step
  still_call (wrapWord _ _)
  iterate 2 still_step
  refine wpStill_nil ?_
  go_wp2_with fail
  go_region
  go_wp2_with fail
  go_ret2
  exact ⟨rIB EV.out rfl, by rw [ER.out]; exact Bd (BY.out.set _ _), kept_drew (kept_set KY.out.any _ _ _ (.inl ⟨by omega, by omega⟩))⟩
set_option maxHeartbeats 4000000 in
set_option maxRecDepth 100000 in
theorem place4_1 (w : World) (g : Nat) (r : Pl.Rg) (z e : Int) (hB : Blk w g (bkR r) 55) (hg : Pl.Good r) (hz : z = 1 ∨ z = 2) (x0 : 0 ≤ e) (x1 : e ≤ 65535) :
    Calls Try.prog 54 #[.pointer (some ⟨g, 0, none⟩), .int .i64 z, .iface 85 (.agg #[.int .i64 1])] w fun e' w' => e' = .returned (.tuple #[.int .i64 (Pl.placeV r z 4 1 e), .bool true]) ∧ Blk w' g (bkR (Pl.placeR r z 4 1 e)) 55 ∧ Kept g (g + 1) w w' := by
  have t2 := ta42
  have t3 := ta43
  have t4 := ta44
  have t5 := ta45
  have t6 := ta46
  have b9 := hB.lt
  obtain ⟨y0, y1⟩ := hg.aw 1 (by decide)
  obtain ⟨nb0, nb1⟩ : 1 ≤ Pl.byN z 1 ∧ Pl.byN z 1 ≤ 2 := by unfold Pl.byN; split <;> omega
  have ew : IntKind.i64.wrap (el r.ys 1 - Pl.byN z 1) = el r.ys 1 - Pl.byN z 1 := by rw [IntKind.wrap_i64]; omega
  have EV : Hid ((el r.ys 1 - Pl.byN z 1) % 65536 = Pl.placeV r z 4 1 e) := hide (by simp [Pl.placeV])
  have ER : Hid (bkR (Pl.placeR r z 4 1 e) = (bkR r).setIfInBounds 5 (.int .i64 ((el r.ys 1 - Pl.byN z 1) % 65536))) := hide (by
    have q : Pl.placeR r z 4 1 e = { r with ys := r.ys.set 1 ((el r.ys 1 - Pl.byN z 1) % 65536) } := by simp [Pl.placeR]
    rw [q]; exact bkY hg.a4 (by decide) _)
  have HN := hide (Blk.new w #[.int .i64 1] 85)
  have HB1 := hide (hB.alloc (.cells #[.int .i64 1] 85))
  have HK := hide (kept_alloc w (.cells #[.int .i64 1] 85))
  clear hg hB
  go_enter Try.func54, Try.ntmps54
  go_wp2_with fail
  obtain ⟨X, hX⟩ : ∃ X : World, X = w.alloc (.cells #[.int .i64 1] 85) := ⟨_, rfl⟩
  rw [← hX] at HN HB1 HK ⊢
  clear hX t2 t3 t4 t5 t6
  refine wp_region_still_tail 18 (by kernel_rfl) (by kernel_rfl) ?_
  simp only [List.take_succ_cons, List.take_zero, List.drop_succ_cons, List.drop_zero]
  obtain ⟨Y, hY⟩ : ∃ Y : World, Y = { X with drawn := (X).drawn + 1 } := ⟨_, rfl⟩
  rw [← hY]
  have BY : Hid (Blk Y g (bkR r) 55) := hide (by rw [hY]; exact HB1.out)
  have NY : Hid (Blk Y w.heap.size #[.int .i64 1] 85) := hide (by rw [hY]; exact HN.out)
  have KY : Hid (Kept 0 0 w Y) := hide (by rw [hY]; exact kept_drew HK.out)
  clear hY HB1 HN HK
  obtain ⟨c0, c1, c2, c3, c4, c5, c6, c7, c8, c9, c10, c11, c12, c13⟩ := bkS BY.out
  clear c0 c1 c2 c3 c4 c6 c7 c8 c9 c10 c11 c12 c13
  have d5 := BY.out.frozen 5
  have n0 := NY.out.cell (i := 0) rfl
  iterate 13 still_step
  still_call (strideOf _ _ _ hz)
  iterate 1 still_step
  still_call (wrapWord _ _)
  iterate 2 still_step
  refine wpStill_nil ?_
  go_wp2_with fail
  go_region
  go_wp2_with fail
  go_ret2
  exact ⟨rIB EV.out rfl, by rw [ER.out]; exact Bd (BY.out.set _ _), kept_drew (kept_set KY.out.any _ _ _ (.inl ⟨by omega, by omega⟩))⟩
set_option maxHeartbeats 4000000 in
set_option maxRecDepth 100000 in
theorem place4_2 (w : World) (g : Nat) (r : Pl.Rg) (z e : Int) (hB : Blk w g (bkR r) 55) (hg : Pl.Good r) (hz : z = 1 ∨ z = 2) (x0 : 0 ≤ e) (x1 : e ≤ 65535) :
    Calls Try.prog 54 #[.pointer (some ⟨g, 0, none⟩), .int .i64 z, .iface 85 (.agg #[.int .i64 2])] w fun e' w' => e' = .returned (.tuple #[.int .i64 (Pl.placeV r z 4 2 e), .bool true]) ∧ Blk w' g (bkR (Pl.placeR r z 4 2 e)) 55 ∧ Kept g (g + 1) w w' := by
  have t2 := ta42
  have t3 := ta43
  have t4 := ta44
  have t5 := ta45
  have t6 := ta46
  have b9 := hB.lt
  obtain ⟨y0, y1⟩ := hg.aw 2 (by decide)
  obtain ⟨nb0, nb1⟩ : 1 ≤ Pl.byN z 2 ∧ Pl.byN z 2 ≤ 2 := by unfold Pl.byN; split <;> omega
  have ew : IntKind.i64.wrap (el r.ys 2 - Pl.byN z 2) = el r.ys 2 - Pl.byN z 2 := by rw [IntKind.wrap_i64]; omega
  have EV : Hid ((el r.ys 2 - Pl.byN z 2) % 65536 = Pl.placeV r z 4 2 e) := hide (by simp [Pl.placeV])
  have ER : Hid (bkR (Pl.placeR r z 4 2 e) = (bkR r).setIfInBounds 6 (.int .i64 ((el r.ys 2 - Pl.byN z 2) % 65536))) := hide (by
    have q : Pl.placeR r z 4 2 e = { r with ys := r.ys.set 2 ((el r.ys 2 - Pl.byN z 2) % 65536) } := by simp [Pl.placeR]
    rw [q]; exact bkY hg.a4 (by decide) _)
  have HN := hide (Blk.new w #[.int .i64 2] 85)
  have HB1 := hide (hB.alloc (.cells #[.int .i64 2] 85))
  have HK := hide (kept_alloc w (.cells #[.int .i64 2] 85))
  clear hg hB
  go_enter Try.func54, Try.ntmps54
  go_wp2_with fail
  obtain ⟨X, hX⟩ : ∃ X : World, X = w.alloc (.cells #[.int .i64 2] 85) := ⟨_, rfl⟩
  rw [← hX] at HN HB1 HK ⊢
  clear hX t2 t3 t4 t5 t6
  refine wp_region_still_tail 18 (by kernel_rfl) (by kernel_rfl) ?_
  simp only [List.take_succ_cons, List.take_zero, List.drop_succ_cons, List.drop_zero]
  obtain ⟨Y, hY⟩ : ∃ Y : World, Y = { X with drawn := (X).drawn + 1 } := ⟨_, rfl⟩
  rw [← hY]
  have BY : Hid (Blk Y g (bkR r) 55) := hide (by rw [hY]; exact HB1.out)
  have NY : Hid (Blk Y w.heap.size #[.int .i64 2] 85) := hide (by rw [hY]; exact HN.out)
  have KY : Hid (Kept 0 0 w Y) := hide (by rw [hY]; exact kept_drew HK.out)
  clear hY HB1 HN HK
  obtain ⟨c0, c1, c2, c3, c4, c5, c6, c7, c8, c9, c10, c11, c12, c13⟩ := bkS BY.out
  clear c0 c1 c2 c3 c4 c5 c7 c8 c9 c10 c11 c12 c13
  have d6 := BY.out.frozen 6
  have n0 := NY.out.cell (i := 0) rfl
  iterate 13 still_step
  still_call (strideOf _ _ _ hz)
  iterate 1 still_step
  still_call (wrapWord _ _)
  iterate 2 still_step
  refine wpStill_nil ?_
  go_wp2_with fail
  go_region
  go_wp2_with fail
  go_ret2
  exact ⟨rIB EV.out rfl, by rw [ER.out]; exact Bd (BY.out.set _ _), kept_drew (kept_set KY.out.any _ _ _ (.inl ⟨by omega, by omega⟩))⟩
set_option maxHeartbeats 4000000 in
set_option maxRecDepth 100000 in
theorem place4_3 (w : World) (g : Nat) (r : Pl.Rg) (z e : Int) (hB : Blk w g (bkR r) 55) (hg : Pl.Good r) (hz : z = 1 ∨ z = 2) (x0 : 0 ≤ e) (x1 : e ≤ 65535) :
    Calls Try.prog 54 #[.pointer (some ⟨g, 0, none⟩), .int .i64 z, .iface 85 (.agg #[.int .i64 3])] w fun e' w' => e' = .returned (.tuple #[.int .i64 (Pl.placeV r z 4 3 e), .bool true]) ∧ Blk w' g (bkR (Pl.placeR r z 4 3 e)) 55 ∧ Kept g (g + 1) w w' := by
  have t2 := ta42
  have t3 := ta43
  have t4 := ta44
  have t5 := ta45
  have t6 := ta46
  have b9 := hB.lt
  obtain ⟨y0, y1⟩ := hg.aw 3 (by decide)
  obtain ⟨nb0, nb1⟩ : 1 ≤ Pl.byN z 3 ∧ Pl.byN z 3 ≤ 2 := by unfold Pl.byN; split <;> omega
  have ew : IntKind.i64.wrap (el r.ys 3 - Pl.byN z 3) = el r.ys 3 - Pl.byN z 3 := by rw [IntKind.wrap_i64]; omega
  have EV : Hid ((el r.ys 3 - Pl.byN z 3) % 65536 = Pl.placeV r z 4 3 e) := hide (by simp [Pl.placeV])
  have ER : Hid (bkR (Pl.placeR r z 4 3 e) = (bkR r).setIfInBounds 7 (.int .i64 ((el r.ys 3 - Pl.byN z 3) % 65536))) := hide (by
    have q : Pl.placeR r z 4 3 e = { r with ys := r.ys.set 3 ((el r.ys 3 - Pl.byN z 3) % 65536) } := by simp [Pl.placeR]
    rw [q]; exact bkY hg.a4 (by decide) _)
  have HN := hide (Blk.new w #[.int .i64 3] 85)
  have HB1 := hide (hB.alloc (.cells #[.int .i64 3] 85))
  have HK := hide (kept_alloc w (.cells #[.int .i64 3] 85))
  clear hg hB
  go_enter Try.func54, Try.ntmps54
  go_wp2_with fail
  obtain ⟨X, hX⟩ : ∃ X : World, X = w.alloc (.cells #[.int .i64 3] 85) := ⟨_, rfl⟩
  rw [← hX] at HN HB1 HK ⊢
  clear hX t2 t3 t4 t5 t6
  refine wp_region_still_tail 18 (by kernel_rfl) (by kernel_rfl) ?_
  simp only [List.take_succ_cons, List.take_zero, List.drop_succ_cons, List.drop_zero]
  obtain ⟨Y, hY⟩ : ∃ Y : World, Y = { X with drawn := (X).drawn + 1 } := ⟨_, rfl⟩
  rw [← hY]
  have BY : Hid (Blk Y g (bkR r) 55) := hide (by rw [hY]; exact HB1.out)
  have NY : Hid (Blk Y w.heap.size #[.int .i64 3] 85) := hide (by rw [hY]; exact HN.out)
  have KY : Hid (Kept 0 0 w Y) := hide (by rw [hY]; exact kept_drew HK.out)
  clear hY HB1 HN HK
  obtain ⟨c0, c1, c2, c3, c4, c5, c6, c7, c8, c9, c10, c11, c12, c13⟩ := bkS BY.out
  clear c0 c1 c2 c3 c4 c5 c6 c8 c9 c10 c11 c12 c13
  have d7 := BY.out.frozen 7
  have n0 := NY.out.cell (i := 0) rfl
  iterate 13 still_step
  still_call (strideOf _ _ _ hz)
  iterate 1 still_step
  still_call (wrapWord _ _)
  iterate 2 still_step
  refine wpStill_nil ?_
  go_wp2_with fail
  go_region
  go_wp2_with fail
  go_ret2
  exact ⟨rIB EV.out rfl, by rw [ER.out]; exact Bd (BY.out.set _ _), kept_drew (kept_set KY.out.any _ _ _ (.inl ⟨by omega, by omega⟩))⟩
end Go.Proofs.Ytikmelkobbbgnaa
