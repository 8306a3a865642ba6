/- What the program's bank answers for the place of an operand: ways that move no register. -/
import Derived.Test.YtikmelkobbbgnaaImplRegI
import Derived.Test.YtikmelkobbbgnaaImplRegE
import Derived.StillTailTactics
import Derived.BigQuiet
import Derived.Deep.QuietTactic
namespace Go.Proofs.Ytikmelkobbbgnaa
open Go.RowKit
set_option linter.unusedVariables false
set_option maxHeartbeats 4000000 in
set_option maxRecDepth 100000 in
theorem place2_0 (w : World) (g : Nat) (r : Pl.Rg) (z e : Int) (hB : Blk w g (bkR r) 55) (hg : Pl.Good r) (hz : z = 1 ∨ z = 2) (x0 : 0 ≤ e) (x1 : e ≤ 65535) :
    Calls Try.prog 54 #[.pointer (some ⟨g, 0, none⟩), .int .i64 z, .iface 83 (.agg #[.int .i64 0])] w fun e' w' => e' = .returned (.tuple #[.int .i64 (Pl.placeV r z 2 0 e), .bool true]) ∧ Blk w' g (bkR (Pl.placeR r z 2 0 e)) 55 ∧ Kept g (g + 1) w w' := by
  have t2 := ta22
  have t3 := ta23
  have t4 := ta24
  have t5 := ta25
  have t6 := ta26
  have b9 := hB.lt
  obtain ⟨y0, y1⟩ := hg.aw 0 (by decide)
  obtain ⟨nb0, nb1⟩ : 1 ≤ Pl.byN z 0 ∧ Pl.byN z 0 ≤ 2 := by unfold Pl.byN; split <;> omega
  have EV : Hid (el r.ys 0 = Pl.placeV r z 2 0 e) := hide (by simp [Pl.placeV])
  have ER : Hid (Pl.placeR r z 2 0 e = r) := hide (by simp [Pl.placeR])
  have HN := hide (Blk.new w #[.int .i64 0] 83)
  have HB1 := hide (hB.alloc (.cells #[.int .i64 0] 83))
  have HK := hide (kept_alloc w (.cells #[.int .i64 0] 83))
  clear hg hB
  go_enter Try.func54, Try.ntmps54
  go_wp2_with fail
  obtain ⟨X, hX⟩ : ∃ X : World, X = w.alloc (.cells #[.int .i64 0] 83) := ⟨_, rfl⟩
  rw [← hX] at HN HB1 HK ⊢
  clear hX t2 t3 t4 t5 t6
  obtain ⟨c0, c1, c2, c3, c4, c5, c6, c7, c8, c9, c10, c11, c12, c13⟩ := bkS HB1.out
  clear c0 c1 c2 c3 c5 c6 c7 c8 c9 c10 c11 c12 c13
  have d4 := HB1.out.frozen 4
  have n0 := HN.out.cell (i := 0) rfl
  go_region
  go_wp2_with fail
  go_ret2
  exact ⟨rIB EV.out rfl, by rw [ER.out]; exact Bd HB1.out, kept_drew HK.out.any⟩
set_option maxHeartbeats 4000000 in
set_option maxRecDepth 100000 in
theorem place2_1 (w : World) (g : Nat) (r : Pl.Rg) (z e : Int) (hB : Blk w g (bkR r) 55) (hg : Pl.Good r) (hz : z = 1 ∨ z = 2) (x0 : 0 ≤ e) (x1 : e ≤ 65535) :
    Calls Try.prog 54 #[.pointer (some ⟨g, 0, none⟩), .int .i64 z, .iface 83 (.agg #[.int .i64 1])] w fun e' w' => e' = .returned (.tuple #[.int .i64 (Pl.placeV r z 2 1 e), .bool true]) ∧ Blk w' g (bkR (Pl.placeR r z 2 1 e)) 55 ∧ Kept g (g + 1) w w' := by
  have t2 := ta22
  have t3 := ta23
  have t4 := ta24
  have t5 := ta25
  have t6 := ta26
  have b9 := hB.lt
  obtain ⟨y0, y1⟩ := hg.aw 1 (by decide)
  obtain ⟨nb0, nb1⟩ : 1 ≤ Pl.byN z 1 ∧ Pl.byN z 1 ≤ 2 := by unfold Pl.byN; split <;> omega
  have EV : Hid (el r.ys 1 = Pl.placeV r z 2 1 e) := hide (by simp [Pl.placeV])
  have ER : Hid (Pl.placeR r z 2 1 e = r) := hide (by simp [Pl.placeR])
  have HN := hide (Blk.new w #[.int .i64 1] 83)
  have HB1 := hide (hB.alloc (.cells #[.int .i64 1] 83))
  have HK := hide (kept_alloc w (.cells #[.int .i64 1] 83))
  clear hg hB
  go_enter Try.func54, Try.ntmps54
  go_wp2_with fail
  obtain ⟨X, hX⟩ : ∃ X : World, X = w.alloc (.cells #[.int .i64 1] 83) := ⟨_, rfl⟩
  rw [← hX] at HN HB1 HK ⊢
  clear hX t2 t3 t4 t5 t6
  obtain ⟨c0, c1, c2, c3, c4, c5, c6, c7, c8, c9, c10, c11, c12, c13⟩ := bkS HB1.out
  clear c0 c1 c2 c3 c4 c6 c7 c8 c9 c10 c11 c12 c13
  have d5 := HB1.out.frozen 5
  have n0 := HN.out.cell (i := 0) rfl
  go_region
  go_wp2_with fail
  go_ret2
  exact ⟨rIB EV.out rfl, by rw [ER.out]; exact Bd HB1.out, kept_drew HK.out.any⟩
set_option maxHeartbeats 4000000 in
set_option maxRecDepth 100000 in
theorem place2_2 (w : World) (g : Nat) (r : Pl.Rg) (z e : Int) (hB : Blk w g (bkR r) 55) (hg : Pl.Good r) (hz : z = 1 ∨ z = 2) (x0 : 0 ≤ e) (x1 : e ≤ 65535) :
    Calls Try.prog 54 #[.pointer (some ⟨g, 0, none⟩), .int .i64 z, .iface 83 (.agg #[.int .i64 2])] w fun e' w' => e' = .returned (.tuple #[.int .i64 (Pl.placeV r z 2 2 e), .bool true]) ∧ Blk w' g (bkR (Pl.placeR r z 2 2 e)) 55 ∧ Kept g (g + 1) w w' := by
  have t2 := ta22
  have t3 := ta23
  have t4 := ta24
  have t5 := ta25
  have t6 := ta26
  have b9 := hB.lt
  obtain ⟨y0, y1⟩ := hg.aw 2 (by decide)
  obtain ⟨nb0, nb1⟩ : 1 ≤ Pl.byN z 2 ∧ Pl.byN z 2 ≤ 2 := by unfold Pl.byN; split <;> omega
  have EV : Hid (el r.ys 2 = Pl.placeV r z 2 2 e) := hide (by simp [Pl.placeV])
  have ER : Hid (Pl.placeR r z 2 2 e = r) := hide (by simp [Pl.placeR])
  have HN := hide (Blk.new w #[.int .i64 2] 83)
  have HB1 := hide (hB.alloc (.cells #[.int .i64 2] 83))
  have HK := hide (kept_alloc w (.cells #[.int .i64 2] 83))
  clear hg hB
  go_enter Try.func54, Try.ntmps54
  go_wp2_with fail
  obtain ⟨X, hX⟩ : ∃ X : World, X = w.alloc (.cells #[.int .i64 2] 83) := ⟨_, rfl⟩
  rw [← hX] at HN HB1 HK ⊢
  clear hX t2 t3 t4 t5 t6
  obtain ⟨c0, c1, c2, c3, c4, c5, c6, c7, c8, c9, c10, c11, c12, c13⟩ := bkS HB1.out
  clear c0 c1 c2 c3 c4 c5 c7 c8 c9 c10 c11 c12 c13
  have d6 := HB1.out.frozen 6
  have n0 := HN.out.cell (i := 0) rfl
  go_region
  go_wp2_with fail
  go_ret2
  exact ⟨rIB EV.out rfl, by rw [ER.out]; exact Bd HB1.out, kept_drew HK.out.any⟩
set_option maxHeartbeats 4000000 in
set_option maxRecDepth 100000 in
theorem place2_3 (w : World) (g : Nat) (r : Pl.Rg) (z e : Int) (hB : Blk w g (bkR r) 55) (hg : Pl.Good r) (hz : z = 1 ∨ z = 2) (x0 : 0 ≤ e) (x1 : e ≤ 65535) :
    Calls Try.prog 54 #[.pointer (some ⟨g, 0, none⟩), .int .i64 z, .iface 83 (.agg #[.int .i64 3])] w fun e' w' => e' = .returned (.tuple #[.int .i64 (Pl.placeV r z 2 3 e), .bool true]) ∧ Blk w' g (bkR (Pl.placeR r z 2 3 e)) 55 ∧ Kept g (g + 1) w w' := by
  have t2 := ta22
  have t3 := ta23
  have t4 := ta24
  have t5 := ta25
  have t6 := ta26
  have b9 := hB.lt
  obtain ⟨y0, y1⟩ := hg.aw 3 (by decide)
  obtain ⟨nb0, nb1⟩ : 1 ≤ Pl.byN z 3 ∧ Pl.byN z 3 ≤ 2 := by unfold Pl.byN; split <;> omega
  have EV : Hid (el r.ys 3 = Pl.placeV r z 2 3 e) := hide (by simp [Pl.placeV])
  have ER : Hid (Pl.placeR r z 2 3 e = r) := hide (by simp [Pl.placeR])
  have HN := hide (Blk.new w #[.int .i64 3] 83)
  have HB1 := hide (hB.alloc (.cells #[.int .i64 3] 83))
  have HK := hide (kept_alloc w (.cells #[.int .i64 3] 83))
  clear hg hB
  go_enter Try.func54, Try.ntmps54
  go_wp2_with fail
  obtain ⟨X, hX⟩ : ∃ X : World, X = w.alloc (.cells #[.int .i64 3] 83) := ⟨_, rfl⟩
  rw [← hX] at HN HB1 HK ⊢
  clear hX t2 t3 t4 t5 t6
  obtain ⟨c0, c1, c2, c3, c4, c5, c6, c7, c8, c9, c10, c11, c12, c13⟩ := bkS HB1.out
  clear c0 c1 c2 c3 c4 c5 c6 c8 c9 c10 c11 c12 c13
  have d7 := HB1.out.frozen 7
  have n0 := HN.out.cell (i := 0) rfl
  go_region
  go_wp2_with fail
  go_ret2
  exact ⟨rIB EV.out rfl, by rw [ER.out]; exact Bd HB1.out, kept_drew HK.out.any⟩
set_option maxHeartbeats 4000000 in
set_option maxRecDepth 100000 in
theorem place6 (w : World) (g : Nat) (r : Pl.Rg) (z e : Int) (hB : Blk w g (bkR r) 55) (hg : Pl.Good r) (hz : z = 1 ∨ z = 2) (x0 : 0 ≤ e) (x1 : e ≤ 65535) :
    Calls Try.prog 54 #[.pointer (some ⟨g, 0, none⟩), .int .i64 z, .iface 89 (.agg #[.int .i64 e])] w fun e' w' => e' = .returned (.tuple #[.int .i64 (Pl.placeV r z 6 0 e), .bool true]) ∧ Blk w' g (bkR (Pl.placeR r z 6 0 e)) 55 ∧ Kept g (g + 1) w w' := by
  have t2 := ta62
  have t3 := ta63
  have t4 := ta64
  have t5 := ta65
  have t6 := ta66
  have b9 := hB.lt
  obtain ⟨y0, y1⟩ := hg.aw 0 (by decide)
  obtain ⟨nb0, nb1⟩ : 1 ≤ Pl.byN z 0 ∧ Pl.byN z 0 ≤ 2 := by unfold Pl.byN; split <;> omega
  have EV : Hid (e = Pl.placeV r z 6 0 e) := hide (by simp [Pl.placeV])
  have ER : Hid (Pl.placeR r z 6 0 e = r) := hide (by simp [Pl.placeR])
  have HN := hide (Blk.new w #[.int .i64 e] 89)
  have HB1 := hide (hB.alloc (.cells #[.int .i64 e] 89))
  have HK := hide (kept_alloc w (.cells #[.int .i64 e] 89))
  clear hg hB
  go_enter Try.func54, Try.ntmps54
  go_wp2_with fail
  go_ret2
  exact ⟨rIB EV.out rfl, by rw [ER.out]; exact HB1.out, HK.out.any⟩
theorem place0 (w : World) (g : Nat) (z : Int) (v : Value) :
    Calls Try.prog 54 #[.pointer (some ⟨g, 0, none⟩), .int .i64 z, .iface 81 v] w fun e' w' => e' = .returned (.tuple #[.int .i64 0, .bool false]) ∧ w' = w := by
  have t2 := ta02
  have t3 := ta03
  have t4 := ta04
  have t5 := ta05
  have t6 := ta06
  go_enter Try.func54, Try.ntmps54
  go_wp2_with fail
  go_ret2
  exact ⟨rfl, rfl⟩
theorem place1 (w : World) (g : Nat) (z : Int) (v : Value) :
    Calls Try.prog 54 #[.pointer (some ⟨g, 0, none⟩), .int .i64 z, .iface 82 v] w fun e' w' => e' = .returned (.tuple #[.int .i64 0, .bool false]) ∧ w' = w := by
  have t2 := ta12
  have t3 := ta13
  have t4 := ta14
  have t5 := ta15
  have t6 := ta16
  go_enter Try.func54, Try.ntmps54
  go_wp2_with fail
  go_ret2
  exact ⟨rfl, rfl⟩
theorem place7 (w : World) (g : Nat) (z : Int) (v : Value) :
    Calls Try.prog 54 #[.pointer (some ⟨g, 0, none⟩), .int .i64 z, .iface 90 v] w fun e' w' => e' = .returned (.tuple #[.int .i64 0, .bool false]) ∧ w' = w := by
  have t2 := ta72
  have t3 := ta73
  have t4 := ta74
  have t5 := ta75
  have t6 := ta76
  go_enter Try.func54, Try.ntmps54
  go_wp2_with fail
  go_ret2
  exact ⟨rfl, rfl⟩
end Go.Proofs.Ytikmelkobbbgnaa
