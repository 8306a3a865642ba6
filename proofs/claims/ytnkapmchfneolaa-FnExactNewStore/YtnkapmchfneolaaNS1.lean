/- Small things that every walk of ours leans on: equal answers, a fact kept from the walk, and what the model's test of a range answers. What is said of worlds, blocks and lists by every law on structs with lists: blocks kept outside a span, lists in blocks of a span, a block's cells, copies; no text of a chapter is spoken of here. The law on NewStore: of whatever room, its Go function returns true, and no block that was there has turned. -/
import Derived.Test.YtnkapmchfneolaaProg
import Derived.WalkKit
import Derived.WalkSpells
import Derived.WalkLawsBesides
import Derived.OpenShut
import Derived.RegionTactic
import Derived.ChangeAlike
import Derived.BigRegion
import Derived.Deep.RegionWith
import Derived.Laws.Rows
import Derived.Laws.ResultCell
import Derived.Laws.CopyOwn
import Derived.Maps.AppendAt
import Derived.Laws.AppendOwnNone
import Derived.Deep.QuietTactic
import Derived.BigQuiet
import Derived.Deep.RegionHeld3
namespace Go.Proofs.Ytnkapmchfneolaa
open Go.RowKit
set_option linter.unusedVariables false

/- long words made short -/
abbrev iv (n : Int) : Value := .int .i64 n
theorem st {P : Program} {f : FuncId} {a : Array Value} {w : World} {r : Ending} {Q : Ending → World → Prop} (h : Calls P f a w fun e w' => e = r ∧ w' = w) (q : Q r w) : Calls P f a w Q := h.mono (by rintro e w' ⟨rfl, rfl⟩; exact q)
theorem hide {p : Prop} (h : p) : Hid p := h
theorem rB {a b : Bool} (h : a = b) : Ending.returned (.bool a) = .returned (.bool b) := by rw [h]
theorem l1In (n lo hi : Int) (w : World) :
    Calls Try.prog 9 #[.int .i64 n, .int .i64 lo, .int .i64 hi] w fun e w' => e = .returned (.bool (decide (lo ≤ n) && decide (n ≤ hi))) ∧ w' = w := by
  by_cases h0 : lo ≤ n
  all_goals
    by_cases h1 : n ≤ hi
    all_goals
      go_enter Try.func9, Try.ntmps9
      go_wp2
      go_ret
      exact ⟨rB (by simp; omega), rfl⟩

end Go.Proofs.Ytnkapmchfneolaa

namespace Go.Proofs.Ytnkapmchfneolaa
open Go.RowKit
set_option linter.unusedVariables false

/-- of the blocks that were there those outside a span are as they were -/
structure Kept (lo hi : Nat) (w w' : World) : Prop where
  os : w'.os = w.os
  tape : w'.tape = w.tape
  output : w'.output = w.output
  size : w.heap.size ≤ w'.heap.size
  block : ∀ k, k < w.heap.size → ¬ (lo ≤ k ∧ k < hi) → w'.heap[k]? = w.heap[k]?

theorem Kept.trans {lo hi : Nat} {a b c : World} (h : Kept lo hi a b) (k : Kept lo hi b c) : Kept lo hi a c :=
  ⟨k.os.trans h.os, k.tape.trans h.tape, k.output.trans h.output, Nat.le_trans h.size k.size, fun i hi hn => (k.block i (Nat.lt_of_lt_of_le hi h.size) hn).trans (h.block i hi hn)⟩
theorem kept_below {w w' : World} (h : Below w.heap.size w w') : Kept 0 0 w w' := ⟨h.os, h.tape, h.output, h.size, fun k hk _ => h.block k hk⟩
theorem Kept.below {w w' : World} (h : Kept 0 0 w w') : Below w.heap.size w w' := ⟨h.os, h.tape, h.output, h.size, fun k hk => h.block k hk (by omega)⟩
theorem kept_alloc (w : World) (o : Obj) : Kept 0 0 w (w.alloc o) := kept_below ((Below.refl _ w).alloc (Nat.le_refl _) o)
/-- a block that holds these cells -/
def Blk (w : World) (b : Nat) (cs : Array Value) (ty : TypeId) : Prop := w.heap[b]? = some (.cells cs ty)
theorem Blk.lt {w : World} {b : Nat} {cs : Array Value} {ty : TypeId} (h : Blk w b cs ty) : b < w.heap.size := by
  unfold Blk at h
  rcases Nat.lt_or_ge b w.heap.size with h' | h'
  · exact h'
  · rw [Array.getElem?_eq_none h'] at h; cases h
theorem Blk.kept {w w' : World} {b : Nat} {cs : Array Value} {ty : TypeId} {lo hi : Nat} (h : Blk w b cs ty) (k : Kept lo hi w w') (hn : ¬ (lo ≤ b ∧ b < hi)) : Blk w' b cs ty := (k.block b h.lt hn).trans h
theorem Blk.kept0 {w w' : World} {b : Nat} {cs : Array Value} {ty : TypeId} (h : Blk w b cs ty) (k : Kept 0 0 w w') : Blk w' b cs ty := h.kept k (by omega)
theorem Blk.new (w : World) (cs : Array Value) (ty : TypeId) : Blk (w.alloc (.cells cs ty)) w.heap.size cs ty := heap_alloc_new w _
theorem Blk.alloc {w : World} {b : Nat} {cs : Array Value} {ty : TypeId} (h : Blk w b cs ty) (o : Obj) : Blk (w.alloc o) b cs ty := (Below.heap_alloc _ _ _ h.lt).trans h
theorem kept_new {w w' : World} {lo hi : Nat} (h : Kept lo hi w w') (o : Obj) : Kept lo hi w (w'.alloc o) :=
  ⟨h.os, h.tape, h.output, Nat.le_trans h.size (by simp), fun k hk hn => (Below.heap_alloc _ _ _ (Nat.lt_of_lt_of_le hk h.size)).trans (h.block k hk hn)⟩
namespace Pl
end Pl
theorem Blk.all {w : World} {b : Nat} {cs : Array Value} {ty : TypeId} (h : Blk w b cs ty) (i : Nat) : w.cell? ⟨b, i, none⟩ = cs[i]? := by
  have e : w.heap[b]? = some (.cells cs ty (0, 0)) := h
  unfold World.cell?
  dsimp only
  rw [e]
  simp
end Go.Proofs.Ytnkapmchfneolaa

namespace Go.Proofs.Ytnkapmchfneolaa
open Go.RowKit
set_option linter.unusedVariables false
set_option linter.unusedSimpArgs false
theorem eqCachedS0 (w : World) : Calls Try.prog 11 #[.slice none 0 0, .slice none 0 0] w fun e w' => e = .returned (.bool true) ∧ w' = w := by
  go_enter Try.func11, Try.ntmps11
  go_wp2
  go_loopw [5] (fun j wr => j = .int .i64 0 ∧ wr = w) (fun j _ => 0)
  case atStart => exact ⟨rfl, rfl⟩
  case round =>
    obtain ⟨rfl, rfl⟩ := hrel
    go_wp2
    go_ret
    exact ⟨rfl, rfl⟩
theorem markCachedS0 (w : World) (q : Int) : Calls Try.prog 12 #[.slice none 0 0, iv q] w fun e w' => e = .returned (iv q) ∧ w' = w := by
  go_enter Try.func12, Try.ntmps12
  go_wp2
  go_loopw [1, 5] (fun v j wr => v = iv q ∧ j = .int .i64 0 ∧ wr = w) (fun _ j _ => 0)
  case atStart => exact ⟨rfl, rfl, rfl⟩
  case round =>
    obtain ⟨rfl, rfl, rfl⟩ := hrel
    go_wp2
    go_ret
    exact ⟨rfl, rfl⟩
theorem heldCachedS0 (w : World) (q : Int) : Calls Try.prog 13 #[.slice none 0 0, iv q] w fun e w' => e = .returned (iv q) ∧ w' = w := by
  go_enter Try.func13, Try.ntmps13
  go_wp2
  go_loopw [1, 5] (fun v j wr => v = iv q ∧ j = .int .i64 0 ∧ wr = w) (fun _ j _ => 0)
  case atStart => exact ⟨rfl, rfl, rfl⟩
  case round =>
    obtain ⟨rfl, rfl, rfl⟩ := hrel
    go_wp2
    go_ret
    exact ⟨rfl, rfl⟩
theorem eqStore0 (w : World) (r : Int) : Calls Try.prog 6 #[.agg #[iv r, iv 0, .slice none 0 0], .agg #[iv r, iv 0, .slice none 0 0]] w fun e w' => e = .returned (.bool true) ∧ Kept 0 0 w w' := by
  have K0 := hide (kept_new (kept_alloc w (.cells #[iv r, iv 0, .slice none 0 0] 24)) (.cells #[iv r, iv 0, .slice none 0 0] 24))
  go_enter Try.func6, Try.ntmps6
  go_wp2_with (first | (go_at_call 11; refine st (eqCachedS0 _) ?_))
  go_ret
  exact ⟨rfl, K0.out⟩
theorem markStore0 (w : World) (r q : Int) : Calls Try.prog 7 #[.agg #[iv r, iv 0, .slice none 0 0], iv q] w fun e w' => e = .returned (iv q) ∧ Kept 0 0 w w' := by
  have K0 := hide (kept_alloc w (.cells #[iv r, iv 0, .slice none 0 0] 24))
  go_enter Try.func7, Try.ntmps7
  go_wp2_with (first | (go_at_call 12; refine st (markCachedS0 _ q) ?_))
  go_ret
  exact ⟨rfl, K0.out⟩
theorem heldStore0 (w : World) (r q : Int) (q0 : 0 ≤ q) : Calls Try.prog 8 #[.agg #[iv r, iv 0, .slice none 0 0], iv q] w fun e w' => e = .returned (iv q) ∧ Kept 0 0 w w' := by
  have K0 := hide (kept_alloc w (.cells #[iv r, iv 0, .slice none 0 0] 24))
  have q1 : ¬ q < 0 := by omega
  go_enter Try.func8, Try.ntmps8
  go_wp2_with (first | (go_at_call 13; refine st (heldCachedS0 _ q) ?_))
  go_ret
  exact ⟨rfl, K0.out⟩
/-- the room of a new store, or none -/
def Pl.roomV (r : Int) : Int := if (decide (1 ≤ r) && decide (r ≤ 8)) = true then r else 0
theorem implRoom0 (w : World) (r : Int) : Calls Try.prog 10 #[iv r] w fun e w' => e = .returned (.bool (decide (1 ≤ r) && decide (r ≤ 8))) ∧ w' = w := by
  cases h1 : decide (1 ≤ r) <;> cases h2 : decide (r ≤ 8)
  all_goals
    go_enter Try.func10, Try.ntmps10
    go_wp2_with fail
    go_ret
    exact ⟨rB (by simp), rfl⟩
theorem results_ct {fn : Func} {p u1 : Tmp} {ty : TypeId} (h : fn.results = #[.cell p ty, .tmp u1]) (tmps : Array Value) (P : Program) (w : World) :
    (results fn tmps).run P w = ((asAddr (tmps.getD p undef)).run P w).andThen fun a w₁ => ((loadVar ty a).run P w₁).andThen fun v w₂ => .ok (.tuple #[v, tmps.getD u1 undef]) w₂ := by
  simp only [results, h]
  simp [Sem.run_bind, Result.andThen]
theorem implNewStore (w : World) (r : Int) : Calls Try.prog 5 #[iv r] w fun e w' => e = .returned (.tuple #[.agg #[iv (Pl.roomV r), iv 0, .slice none 0 0], .bool (decide (1 ≤ r) && decide (r ≤ 8))]) ∧ Kept 0 0 w w' := by
  cases hb : (decide (1 ≤ r) && decide (r ≤ 8))
  · have E : Hid (Pl.roomV r = 0) := hide (by unfold Pl.roomV; rw [hb]; rfl)
    go_enter Try.func5, Try.ntmps5
    go_wp2_with (first | (go_at_call 10; refine st (implRoom0 _ _) ?_; rw [hb]))
    refine bodyPost_ret (v := .tuple #[.agg #[iv (Pl.roomV r), iv 0, .slice none 0 0], .bool false]) ?_ rfl ⟨rfl, ?_⟩
    · rw [results_ct rfl, E.out]; go_simp
    · exact kept_alloc _ _
  · have E : Hid (Pl.roomV r = r) := hide (by unfold Pl.roomV; rw [hb]; rfl)
    go_enter Try.func5, Try.ntmps5
    go_wp2_with (first | (go_at_call 10; refine st (implRoom0 _ _) ?_; rw [hb]))
    refine bodyPost_ret (v := .tuple #[.agg #[iv (Pl.roomV r), iv 0, .slice none 0 0], .bool true]) ?_ rfl ⟨rfl, ?_⟩
    · rw [results_ct rfl, E.out]; go_simp
    · exact kept_alloc _ _
theorem specNewStore (w : World) (r : Int) : Calls Try.prog 4 #[iv r] w fun e w' => e = .returned (.tuple #[.agg #[iv (Pl.roomV r), iv 0, .slice none 0 0], .bool (decide (1 ≤ r) && decide (r ≤ 8))]) ∧ Kept 0 0 w w' := by
  cases hb : (decide (1 ≤ r) && decide (r ≤ 8))
  · have E : Hid (Pl.roomV r = 0) := hide (by unfold Pl.roomV; rw [hb]; rfl)
    go_enter Try.func4, Try.ntmps4
    go_wp2_with (first | (go_at_call 9; refine st (l1In _ _ _ _) ?_; rw [hb]))
    refine bodyPost_ret (v := .tuple #[.agg #[iv (Pl.roomV r), iv 0, .slice none 0 0], .bool false]) ?_ rfl ⟨rfl, ?_⟩
    · rw [results_ct rfl, E.out]; go_simp
    · exact kept_alloc _ _
  · have E : Hid (Pl.roomV r = r) := hide (by unfold Pl.roomV; rw [hb]; rfl)
    go_enter Try.func4, Try.ntmps4
    go_wp2_with (first | (go_at_call 9; refine st (l1In _ _ _ _) ?_; rw [hb]))
    refine bodyPost_ret (v := .tuple #[.agg #[iv (Pl.roomV r), iv 0, .slice none 0 0], .bool true]) ?_ rfl ⟨rfl, ?_⟩
    · rw [results_ct rfl, E.out]; go_simp
    · exact kept_alloc _ _
set_option maxHeartbeats 8000000 in
theorem lawNewStore (r : Int) (w : World) (wf : (Lit.int .i64 r).wf = true) : Calls Try.prog 3 #[iv r] w fun r' w' => r' = .returned (.bool true) ∧ Below w.heap.size w w' := by
  obtain ⟨B, hB⟩ : ∃ B, B = (decide (1 ≤ r) && decide (r ≤ 8)) := ⟨_, rfl⟩
  obtain ⟨R, hR⟩ : ∃ R, R = Pl.roomV r := ⟨_, rfl⟩
  have HB := hide hB
  have HR := hide hR
  clear hB hR
  have qq : (B != B) = false := by cases B <;> rfl
  go_enter Try.func3, Try.ntmps3
  go_wp2_with fail
  refine (specNewStore _ r).mono ?_
  rw [← HB.out, ← HR.out]
  rintro e9 w1 ⟨rfl, k1⟩
  have K1 := hide (kept_new k1 (.cells #[iv R, iv 0, .slice none 0 0] 24))
  clear k1
  go_wp2_with fail
  refine (implNewStore _ r).mono ?_
  rw [← HB.out, ← HR.out]
  rintro e9 w2 ⟨rfl, k2⟩
  have K2 := hide (kept_new (K1.out.trans k2) (.cells #[iv R, iv 0, .slice none 0 0] 24))
  have X2 := hide (((Blk.new w1 #[iv R, iv 0, .slice none 0 0] 24).kept0 k2).alloc (.cells #[iv R, iv 0, .slice none 0 0] 24))
  have Y2 := hide (Blk.new w2 #[iv R, iv 0, .slice none 0 0] 24)
  have x2 := X2.out.all
  have y2 := Y2.out.all
  clear k2
  go_wp2_with fail
  refine (eqStore0 _ R).mono ?_
  rintro e9 w3 ⟨rfl, k3⟩
  have K3 := hide (K2.out.trans k3)
  have X3 := hide (X2.out.kept0 k3)
  have Y3 := hide (Y2.out.kept0 k3)
  clear x2 y2 k3
  have x3 := X3.out.all
  have y3 := Y3.out.all
  go_wp2_with fail
  refine (markStore0 _ R 1).mono ?_
  rintro e9 w4 ⟨rfl, k4⟩
  have K4 := hide (K3.out.trans k4)
  have X4 := hide (X3.out.kept0 k4)
  have Y4 := hide (Y3.out.kept0 k4)
  clear x3 y3 k4
  have x4 := X4.out.all
  have y4 := Y4.out.all
  go_wp2_with fail
  refine (heldStore0 _ R 1 (by decide)).mono ?_
  rintro e9 w5 ⟨rfl, k5⟩
  have K5 := hide (K4.out.trans k5)
  have X5 := hide (X4.out.kept0 k5)
  have Y5 := hide (Y4.out.kept0 k5)
  clear x4 y4 k5
  have x5 := X5.out.all
  have y5 := Y5.out.all
  go_wp2_with fail
  refine (implNewStore _ r).mono ?_
  rw [← HB.out, ← HR.out]
  rintro e9 w6 ⟨rfl, k6⟩
  have K6 := hide (kept_new (K5.out.trans k6) (.cells #[iv R, iv 0, .slice none 0 0] 24))
  have X6 := hide ((X5.out.kept0 k6).alloc (.cells #[iv R, iv 0, .slice none 0 0] 24))
  have Y6 := hide ((Y5.out.kept0 k6).alloc (.cells #[iv R, iv 0, .slice none 0 0] 24))
  have Z6 := hide (Blk.new w6 #[iv R, iv 0, .slice none 0 0] 24)
  clear x5 y5 k6
  have x6 := X6.out.all
  have y6 := Y6.out.all
  have z6 := Z6.out.all
  go_wp2_with fail
  refine (eqStore0 _ R).mono ?_
  rintro e9 w7 ⟨rfl, k7⟩
  have K7 := hide (K6.out.trans k7)
  have X7 := hide (X6.out.kept0 k7)
  have Y7 := hide (Y6.out.kept0 k7)
  clear x6 y6 k7
  have x7 := X7.out.all
  have y7 := Y7.out.all
  go_wp2_with fail
  refine (heldStore0 _ R 1 (by decide)).mono ?_
  rintro e9 w8 ⟨rfl, k8⟩
  have K8 := hide (K7.out.trans k8)
  have X8 := hide (X7.out.kept0 k8)
  have Y8 := hide (Y7.out.kept0 k8)
  clear x7 y7 k8
  have x8 := X8.out.all
  have y8 := Y8.out.all
  go_wp2_with fail
  go_ret
  exact ⟨rfl, K8.out.below⟩
end Go.Proofs.Ytnkapmchfneolaa

