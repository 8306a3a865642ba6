/- The plain arithmetic beneath the walks of chapter 1: what masks, values with a sign and flags are, as functions on whole numbers. No Go text is spoken of here. Small things that every walk of ours leans on: equal answers, a fact kept from the walk, and what the model's test of a range answers. Worlds that grow, one block of them written: three small laws. What the laws' own functions over lists of whole numbers do: compare, copy, mark, look for the marks. What the laws' own functions do that copy a list of whole numbers, mark it, and look for the marks. Lists that were answered, kept over calls that change other blocks: what the laws on lists lean on. What is said of worlds, blocks and lists by every law on structs with lists: blocks kept outside a span, lists in blocks of a span, a block's cells, copies; no text of a chapter is spoken of here. Registers in numbers, and what is done to them: plain arithmetic; no Go text is spoken of here. Instructions in numbers: plain arithmetic; no Go text is spoken of here. Conditions in numbers: plain arithmetic; no Go text is spoken of here. Flags that nobody reads, in numbers: plain arithmetic; no Go text is spoken of here. What the model's test of a size answers. What the model's tests of words and operands answer. What the small models of chapter 7 answer. -/
import Derived.WalkKit
import Derived.Test.YtloaedfoecjalaaProg
import Derived.WalkSpells
import Derived.WalkLawsBesides
import Derived.OpenShut
import Derived.Deep.QuietTactic
import Derived.BigQuiet
import Derived.RegionTactic
import Derived.ChangeAlike
import Derived.BigRegion
import Derived.Deep.RegionWith
import Derived.Laws.Rows
import Derived.Laws.ResultCell
import Derived.Laws.CopyOwn
import Derived.Maps.AppendAt
import Derived.Laws.AppendOwnNone
namespace Go.Proofs.Ytloaedfoecjalaa.Pl

/-- how many values a size has -/
def top (s : Int) : Int := if s = 1 then 256 else 65536
/-- a value of a size -/
def okv (s v : Int) : Bool := (decide (s = 1) || decide (s = 2)) && (decide (0 ≤ v) && decide (v < top s))
/-- a value as a number with a sign -/
def sg (s v : Int) : Int := if top s / 2 ≤ v then v - top s else v
/-- a flag where something is so -/
def fl (b : Bool) (f : Int) : Int := if b then f else 0
def sgnV (s v : Int) : Int := if okv s v = true then sg s v else 0
def flags (f : Int) : Bool := decide (0 ≤ f) && decide (f ≤ 31)
theorem top_ok {s v : Int} (h : okv s v = true) : (s = 1 ∧ top s = 256 ∨ s = 2 ∧ top s = 65536) ∧ 0 ≤ v ∧ v < top s := by
  simp [okv] at h
  obtain ⟨h1, h2, h3⟩ := h
  refine ⟨?_, h2, h3⟩
  rcases h1 with rfl | rfl
  · exact .inl ⟨rfl, rfl⟩
  · exact .inr ⟨rfl, rfl⟩

end Go.Proofs.Ytloaedfoecjalaa.Pl

namespace Go.Proofs.Ytloaedfoecjalaa
open Go.RowKit
set_option linter.unusedVariables false

/- long words made short -/
abbrev iv (n : Int) : Value := .int .i64 n
abbrev inA (op z r m k e s : Int) : Array Value := #[.int .i64 op, .int .i64 z, .int .i64 r, .int .i64 m, .int .i64 k, .int .i64 e, .int .i64 s]
theorem st {P : Program} {f : FuncId} {a : Array Value} {w : World} {r : Ending} {Q : Ending → World → Prop} (h : Calls P f a w fun e w' => e = r ∧ w' = w) (q : Q r w) : Calls P f a w Q := h.mono (by rintro e w' ⟨rfl, rfl⟩; exact q)
theorem hide {p : Prop} (h : p) : Hid p := h
theorem rI {a b : Int} (h : a = b) : Ending.returned (.int .i64 a) = .returned (.int .i64 b) := by rw [h]
theorem rB {a b : Bool} (h : a = b) : Ending.returned (.bool a) = .returned (.bool b) := by rw [h]
theorem rIB {a b : Int} {c d : Bool} (h : a = b) (k : c = d) : Ending.returned (.tuple #[.int .i64 a, .bool c]) = .returned (.tuple #[.int .i64 b, .bool d]) := by rw [h, k]
theorem l1In (n lo hi : Int) (w : World) :
    Calls Try.prog 48 #[.int .i64 n, .int .i64 lo, .int .i64 hi] w fun e w' => e = .returned (.bool (decide (lo ≤ n) && decide (n ≤ hi))) ∧ w' = w := by
  by_cases h0 : lo ≤ n
  all_goals
    by_cases h1 : n ≤ hi
    all_goals
      go_enter Try.func48, Try.ntmps48
      go_wp2
      go_ret
      exact ⟨rB (by simp; omega), rfl⟩

end Go.Proofs.Ytloaedfoecjalaa

namespace Go.Proofs.Ytloaedfoecjalaa
open Go.RowKit
set_option linter.unusedVariables false

theorem grownBy_set (w : World) (b o : Nat) (v : Value) : w.grownBy (w.setCell ⟨b, o, none⟩ v) (some b) :=
  ⟨rfl, rfl, rfl, by simp, fun k hk hne => Below.heap_setCell _ _ _ _ (fun e => hne (by rw [e]))⟩

theorem grownBy_trans {a b c : World} {row : Option Nat} (h : a.grownBy b row) (k : b.grownBy c row) : a.grownBy c row :=
  ⟨k.os.trans h.os, k.tape.trans h.tape, k.output.trans h.output, Nat.le_trans h.size k.size, fun i hi hne => (k.block i (Nat.lt_of_lt_of_le hi h.size) hne).trans (h.block i hi hne)⟩

theorem grownBy_drew {a b : World} {row : Option Nat} (h : a.grownBy b row) : a.grownBy b.drew row := ⟨h.os, h.tape, h.output, h.size, h.block⟩

end Go.Proofs.Ytloaedfoecjalaa

namespace Go.Proofs.Ytloaedfoecjalaa
open Go.RowKit
set_option linter.unusedVariables false

/-- a list of whole numbers lies in memory from address a on -/
def IRow (w : World) (a : Option Addr) (xs : List Int) : Prop :=
  ∀ i : Nat, i < xs.length → ∃ g off : Nat, a = some ⟨g, off, none⟩ ∧ w.cell? ⟨g, off + i, none⟩ = some (iv (xs[i]?.getD 0))

theorem IRow.kept {w w' : World} {a : Option Addr} {xs : List Int} (h : IRow w a xs) (hg : w.grownBy w' none) : IRow w' a xs := by
  intro i hi
  obtain ⟨g, off, ea, hc⟩ := h i hi
  exact ⟨g, off, ea, hg.cell hc (by simp)⟩

theorem ext_of {xs ys : List Int} (hl : xs.length = ys.length) (h : ∀ i, i < xs.length → xs[i]?.getD 0 = ys[i]?.getD 0) : xs = ys := by
  apply List.ext_getElem hl
  intro i h1 h2
  have := h i h1
  simpa [h1, h2] using this

theorem snoc_all {p : Nat → Prop} {k : Nat} (h : ∀ i, i < k → p i) (hk : p k) : ∀ i, i < k + 1 → p i := by
  intro i hi
  by_cases e : i = k
  · rw [e]; exact hk
  · exact h i (by omega)

end Go.Proofs.Ytloaedfoecjalaa

namespace Go.Proofs.Ytloaedfoecjalaa
open Go.RowKit
set_option linter.unusedVariables false

/-- a list of whole numbers that may be written, from the head of block g on -/
def Own (w : World) (g : Nat) (xs : List Int) : Prop :=
  ∀ i : Nat, i < xs.length → w.cell? ⟨g, i, none⟩ = some (iv (xs[i]?.getD 0)) ∧ w.frozen? ⟨g, i, none⟩ = false

theorem Own.kept {w w' : World} {g : Nat} {xs : List Int} {row : Option Nat} (h : Own w g xs) (hg : w.grownBy w' row) (hne : some g ≠ row) : Own w' g xs := by
  intro i hi
  obtain ⟨hc, hf⟩ := h i hi
  exact ⟨hg.cell hc hne, by rw [World.frozen?_of_block (w := w) (hg.block g (World.block_lt_of_cell? _ _ hc) hne)]; exact hf⟩

theorem Own.row {w : World} {g : Nat} {xs : List Int} (h : Own w g xs) : IRow w (some ⟨g, 0, none⟩) xs := by
  intro i hi
  exact ⟨g, 0, rfl, by simpa using (h i hi).1⟩

theorem Own.set {w : World} {g k : Nat} {xs : List Int} (h : Own w g xs) (z : Int) : Own (w.setCell ⟨g, k, none⟩ (iv z)) g (xs.set k z) := by
  intro i hi
  rw [List.length_set] at hi
  obtain ⟨hc, hf⟩ := h i hi
  refine ⟨?_, by simpa using hf⟩
  by_cases e : k = i
  · subst e
    rw [World.cell?_setCell_same _ _ _ hc]
    simp [hi]
  · rw [World.cell?_setCell_other _ _ _ _ (fun q => e (congrArg Addr.off q)), hc]
    simp [e]

/-- the marks: from k on, one more each -/
def marks (k : Int) (n : Nat) : List Int := (List.range n).map (fun (i : Nat) => k + (i : Int))
theorem marks_len (k : Int) (n : Nat) : (marks k n).length = n := by simp [marks]
theorem marks_at (k : Int) (n i : Nat) (h : i < n) : (marks k n)[i]?.getD 0 = k + (i : Int) := by simp [marks, h]

theorem marked {w wr : World} {g n : Nat} {q : Int} {zs : List Int} {k : Nat} (hlt : k < n) (hl : zs.length = n) (hown : Own wr g zs) (heq : ∀ i, i < k → zs[i]?.getD 0 = q + (i : Int)) (hg : w.grownBy wr (some g)) :
    ∃ (k' : Nat) (zs' : List Int), k' ≤ n ∧ Value.int .i64 ((k : Int) + 1) = iv k' ∧ Value.int .i64 (q + (k : Int) + 1) = iv (q + (k' : Int)) ∧ zs'.length = n ∧ Own (wr.setCell ⟨g, k, none⟩ (iv (q + (k : Int)))) g zs' ∧ (∀ i, i < k' → zs'[i]?.getD 0 = q + (i : Int)) ∧ w.grownBy (wr.setCell ⟨g, k, none⟩ (iv (q + (k : Int)))) (some g) := by
  refine ⟨k + 1, zs.set k (q + (k : Int)), by omega, by go_num, by rw [show q + (k : Int) + 1 = q + ((k + 1 : Nat) : Int) from by omega], by simpa using hl, hown.set _, ?_, grownBy_trans hg (grownBy_set _ _ _ _)⟩
  intro i hi
  by_cases e : k = i
  · subst e; simp [hl, hlt]
  · rw [List.getElem?_set_ne e]; exact heq i (by omega)

end Go.Proofs.Ytloaedfoecjalaa

namespace Go.Proofs.Ytloaedfoecjalaa
open Go.RowKit
set_option linter.unusedVariables false

def Wide (xs : List Int) : Prop := ∀ i : Nat, i < xs.length → -9223372036854775808 ≤ xs[i]?.getD 0 ∧ xs[i]?.getD 0 ≤ 9223372036854775807

theorem IRow.below {w w' : World} {a : Option Addr} {xs : List Int} (h : IRow w a xs) (hb : Below w.heap.size w w') : IRow w' a xs := by
  intro i hi
  obtain ⟨g, off, ea, hc⟩ := h i hi
  exact ⟨g, off, ea, by rw [hb.cell (World.block_lt_of_cell? _ _ hc)]; exact hc⟩

end Go.Proofs.Ytloaedfoecjalaa

namespace Go.Proofs.Ytloaedfoecjalaa
open Go.RowKit
set_option linter.unusedVariables false

/-- the number at a place of a row -/
def el (xs : List Int) (i : Nat) : Int := xs[i]?.getD 0
theorem grownBy_alloc {a b : World} {row : Option Nat} (h : a.grownBy b row) (o : Obj) : a.grownBy (b.alloc o) row :=
  ⟨h.os, h.tape, h.output, Nat.le_trans h.size (by simp), fun k hk hne => (Below.heap_alloc _ _ _ (Nat.lt_of_lt_of_le hk h.size)).trans (h.block k hk hne)⟩
theorem results_one {fn : Func} {p : Tmp} {ty : TypeId} (h : fn.results = #[.cell p ty]) (tmps : Array Value) (P : Program) (w : World) :
    (results fn tmps).run P w = ((asAddr (tmps.getD p undef)).run P w).andThen fun a w₁ => (loadVar ty a).run P w₁ := by
  simp only [results, h]
  simp [Sem.run_bind, Result.andThen]
/-- of the blocks that were there those outside a span are as they were -/
structure Kept (lo hi : Nat) (w w' : World) : Prop where
  os : w'.os = w.os
  tape : w'.tape = w.tape
  output : w'.output = w.output
  size : w.heap.size ≤ w'.heap.size
  block : ∀ k, k < w.heap.size → ¬ (lo ≤ k ∧ k < hi) → w'.heap[k]? = w.heap[k]?

theorem Kept.refl (lo hi : Nat) (w : World) : Kept lo hi w w := ⟨rfl, rfl, rfl, Nat.le_refl _, fun _ _ _ => rfl⟩
theorem Kept.trans {lo hi : Nat} {a b c : World} (h : Kept lo hi a b) (k : Kept lo hi b c) : Kept lo hi a c :=
  ⟨k.os.trans h.os, k.tape.trans h.tape, k.output.trans h.output, Nat.le_trans h.size k.size, fun i hi hn => (k.block i (Nat.lt_of_lt_of_le hi h.size) hn).trans (h.block i hi hn)⟩
theorem kept_grown {w w' : World} (h : w.grownBy w' none) : Kept 0 0 w w' := ⟨h.os, h.tape, h.output, h.size, fun k hk _ => h.block k hk (by simp)⟩
theorem kept_below {w w' : World} (h : Below w.heap.size w w') : Kept 0 0 w w' := ⟨h.os, h.tape, h.output, h.size, fun k hk _ => h.block k hk⟩
theorem Kept.grown {w w' : World} (h : Kept 0 0 w w') : w.grownBy w' none := ⟨h.os, h.tape, h.output, h.size, fun k hk _ => h.block k hk (by omega)⟩
theorem kept_row {w w' : World} {row : Option Nat} {lo hi : Nat} (h : w.grownBy w' row) (hr : ∀ g, row = some g → lo ≤ g ∧ g < hi) : Kept lo hi w w' :=
  ⟨h.os, h.tape, h.output, h.size, fun k hk hn => h.block k hk (fun e => hn (hr k e.symm))⟩
theorem kept_alloc (w : World) (o : Obj) : Kept 0 0 w (w.alloc o) := kept_below ((Below.refl _ w).alloc (Nat.le_refl _) o)
theorem kept_drew {lo hi : Nat} {w w' : World} (h : Kept lo hi w w') : Kept lo hi w w'.drew := ⟨h.os, h.tape, h.output, h.size, h.block⟩
theorem kept_drewN {lo hi : Nat} {w w' : World} (h : Kept lo hi w w') (n : Nat) : Kept lo hi w (w'.drewN n) := ⟨h.os, h.tape, h.output, h.size, h.block⟩
/-- what was there when the law began is as it was -/
theorem below_kept {w w1 w2 : World} {lo hi : Nat} (h : Below w.heap.size w w1) (k : Kept lo hi w1 w2) (hl : w.heap.size ≤ lo ∨ hi ≤ lo) : Below w.heap.size w w2 :=
  ⟨k.os.trans h.os, k.tape.trans h.tape, k.output.trans h.output, Nat.le_trans h.size k.size, fun i hi => (k.block i (Nat.lt_of_lt_of_le hi h.size) (by omega)).trans (h.block i hi)⟩

theorem Own.keptS {w w' : World} {g : Nat} {xs : List Int} {lo hi : Nat} (h : Own w g xs) (k : Kept lo hi w w') (hn : ¬ (lo ≤ g ∧ g < hi)) : Own w' g xs := by
  intro i hi'
  obtain ⟨hc, hf⟩ := h i hi'
  have e := k.block g (World.block_lt_of_cell? _ _ hc) hn
  exact ⟨by rw [World.cell?_of_block (w := w) e]; exact hc, by rw [World.frozen?_of_block (w := w) e]; exact hf⟩

/-- a block that holds these cells -/
def Blk (w : World) (b : Nat) (cs : Array Value) (ty : TypeId) : Prop := w.heap[b]? = some (.cells cs ty)
theorem Blk.lt {w : World} {b : Nat} {cs : Array Value} {ty : TypeId} (h : Blk w b cs ty) : b < w.heap.size := by
  unfold Blk at h
  rcases Nat.lt_or_ge b w.heap.size with h' | h'
  · exact h'
  · rw [Array.getElem?_eq_none h'] at h; cases h
theorem Blk.kept {w w' : World} {b : Nat} {cs : Array Value} {ty : TypeId} {lo hi : Nat} (h : Blk w b cs ty) (k : Kept lo hi w w') (hn : ¬ (lo ≤ b ∧ b < hi)) : Blk w' b cs ty := (k.block b h.lt hn).trans h
theorem Blk.kept0 {w w' : World} {b : Nat} {cs : Array Value} {ty : TypeId} (h : Blk w b cs ty) (k : Kept 0 0 w w') : Blk w' b cs ty := h.kept k (by omega)
theorem Blk.cell {w : World} {b : Nat} {cs : Array Value} {ty : TypeId} (h : Blk w b cs ty) {i : Nat} {v : Value} (hi : cs[i]? = some v) : w.cell? ⟨b, i, none⟩ = some v := by
  unfold Blk at h
  simp [World.cell?, h, hi]
theorem Blk.frozen {w : World} {b : Nat} {cs : Array Value} {ty : TypeId} (h : Blk w b cs ty) (i : Nat) : w.frozen? ⟨b, i, none⟩ = false := by
  unfold Blk at h
  simp [World.frozen?, h]
theorem Blk.other {w : World} {b : Nat} {cs : Array Value} {ty : TypeId} (h : Blk w b cs ty) (c i : Nat) (v : Value) (hn : b ≠ c) : Blk (w.setCell ⟨c, i, none⟩ v) b cs ty :=
  (Below.heap_setCell _ _ _ _ (by simpa using hn)).trans h
theorem Blk.new (w : World) (cs : Array Value) (ty : TypeId) : Blk (w.alloc (.cells cs ty)) w.heap.size cs ty := heap_alloc_new w _
theorem Blk.alloc {w : World} {b : Nat} {cs : Array Value} {ty : TypeId} (h : Blk w b cs ty) (o : Obj) : Blk (w.alloc o) b cs ty := (Below.heap_alloc _ _ _ h.lt).trans h
/-- a store into a block of the span -/
theorem kept_set {w w' : World} {lo hi : Nat} (h : Kept lo hi w w') (b i : Nat) (v : Value) (hb : (lo ≤ b ∧ b < hi) ∨ w.heap.size ≤ b) : Kept lo hi w (w'.setCell ⟨b, i, none⟩ v) :=
  ⟨h.os, h.tape, h.output, by simpa using h.size, fun k hk hn => (Below.heap_setCell _ _ _ _ (by simp; omega)).trans (h.block k hk hn)⟩
theorem kept_new {w w' : World} {lo hi : Nat} (h : Kept lo hi w w') (o : Obj) : Kept lo hi w (w'.alloc o) :=
  ⟨h.os, h.tape, h.output, Nat.le_trans h.size (by simp), fun k hk hn => (Below.heap_alloc _ _ _ (Nat.lt_of_lt_of_le hk h.size)).trans (h.block k hk hn)⟩
theorem IRow.keptS {w w' : World} {a : Option Addr} {xs : List Int} (h : IRow w a xs) (k : Kept 0 0 w w') : IRow w' a xs := h.kept k.grown

/-- a row of numbers that the kind int holds, at address a -/
def Came (w : World) (a : Option Addr) (xs : List Int) : Prop := IRow w a xs ∧ Wide xs
theorem Came.keptS {w w' : World} {a : Option Addr} {xs : List Int} (h : Came w a xs) (k : Kept 0 0 w w') : Came w' a xs := ⟨h.1.keptS k, h.2⟩
theorem Came.below {w w' : World} {a : Option Addr} {xs : List Int} (h : Came w a xs) (k : Below w.heap.size w w') : Came w' a xs := ⟨h.1.below k, h.2⟩
theorem Own.came {w : World} {g : Nat} {xs : List Int} (h : Own w g xs) (hw : Wide xs) : Came w (some ⟨g, 0, none⟩) xs := ⟨h.row, hw⟩

theorem undrewK {lo hi : Nat} {w w' : World} (h : Kept lo hi w.drew w') : Kept lo hi w w' := ⟨h.os, h.tape, h.output, h.size, h.block⟩
namespace Pl
end Pl
theorem Blk.all {w : World} {b : Nat} {cs : Array Value} {ty : TypeId} (h : Blk w b cs ty) (i : Nat) : w.cell? ⟨b, i, none⟩ = cs[i]? := by
  have e : w.heap[b]? = some (.cells cs ty (0, 0)) := h
  unfold World.cell?
  dsimp only
  rw [e]
  simp
end Go.Proofs.Ytloaedfoecjalaa

namespace Go.Proofs.Ytloaedfoecjalaa.Pl
set_option linter.unusedVariables false

def within (n lo hi : Int) : Bool := decide (lo ≤ n) && decide (n ≤ hi)
def wordOk (n : Int) : Bool := within n 0 65535
def extM (m : Int) : Bool := decide (5 ≤ m)
def modeOk (m : Int) : Bool := within m 0 7
def opOk (m r e : Int) : Bool := modeOk m && (within r 0 3 && ((decide (m < 6) || (r == 0)) && (wordOk e && (extM m || (e == 0)))))
end Go.Proofs.Ytloaedfoecjalaa.Pl
namespace Go.Proofs.Ytloaedfoecjalaa
end Go.Proofs.Ytloaedfoecjalaa

namespace Go.Proofs.Ytloaedfoecjalaa.Pl
set_option linter.unusedVariables false
structure In where
  op : Int
  z : Int
  r : Int
  m : Int
  k : Int
  e : Int
  s : Int
def memM (m : Int) : Bool := within m 2 6
def plainM (m : Int) : Bool := (m == 2) || ((m == 5) || (m == 6))
def zeroO (m k e : Int) : Bool := (m == 0) && ((k == 0) && (e == 0))
def nowO (m e : Int) : Bool := (m == 7) && decide (e ≤ 1023)
def byteNow (x : In) : Bool := ((x.m == 7) && (x.z == 1)) && decide (255 < x.e)
def inBase (x : In) : Bool := (decide (x.z = 1) || decide (x.z = 2)) && (within x.r 0 3 && (opOk x.m x.k x.e && (within x.s 0 7 && !byteNow x)))
def inKind (x : In) : Bool :=
  bif (x.op == 1) || ((x.op == 3) || ((x.op == 4) || ((x.op == 5) || ((x.op == 6) || ((x.op == 7) || (x.op == 8)))))) then (x.s == 0) && ((x.z == 2) || !(x.m == 1))
  else bif x.op == 2 then (x.s == 0) && ((x.m == 0) || memM x.m)
  else bif x.op == 9 then (x.z == 2) && (x.s == 0)
  else bif x.op == 10 then ((x.z == 2) && (x.s == 0)) && plainM x.m
  else bif x.op == 11 then ((x.r == 0) && decide (x.s ≤ 3)) && ((x.m == 0) || memM x.m)
  else bif x.op == 12 then (x.m == 0)
  else bif x.op == 13 then ((x.z == 2) && decide (x.r ≤ 1)) && (x.m == 7)
  else bif x.op == 14 then (((x.z == 2) && (x.r == 0)) && decide (x.s ≤ 1)) && plainM x.m
  else bif (x.op == 16) || (x.op == 17) then ((x.z == 2) && (x.s == 0)) && !(x.m == 1)
  else bif x.op == 18 then ((!(x.z == 2)) && decide (x.s ≤ 1)) && (x.m == 0)
  else bif x.op == 19 then (x.z == 2) && ((((x.s == 0) && (x.r == 0)) && nowO x.m x.e) || ((x.s == 1) && zeroO x.m x.k x.e))
  else bif x.op == 15 then (bif x.s == 3 then ((x.z == 2) && (x.r == 0)) && nowO x.m x.e else (((x.z == 2) && decide (x.s ≤ 6)) && zeroO x.m x.k x.e) && (decide (3 < x.s) || (x.r == 0)))
  else false
def inOk (x : In) : Bool := inBase x && inKind x
/-- the first word of an instruction -/
def word1 (x : In) : Int := x.op * 2048 + (x.z - 1) * 1024 + x.r * 256 + x.m * 32 + x.k * 8 + x.s
def longW (w : Int) : Int := if extM (w / 32 % 8) = true then 2 else 1
def decode (w v : Int) : In := ⟨w / 2048, w / 1024 % 2 + 1, w / 256 % 4, w / 32 % 8, w / 8 % 4, if longW w = 2 then v else 0, w % 8⟩
/-- instruction k of a row of numbers, seven an instruction -/
def inAt (ys : List Int) (k : Nat) : In := ⟨el ys (k * 7), el ys (k * 7 + 1), el ys (k * 7 + 2), el ys (k * 7 + 3), el ys (k * 7 + 4), el ys (k * 7 + 5), el ys (k * 7 + 6)⟩
theorem modeR {x : In} (h : inOk x = true) : 1 ≤ x.op ∧ x.op ≤ 19 ∧ (x.z = 1 ∨ x.z = 2) ∧ 0 ≤ x.r ∧ x.r ≤ 3 ∧ 0 ≤ x.m ∧ x.m ≤ 7 ∧ 0 ≤ x.k ∧ x.k ≤ 3 ∧ 0 ≤ x.e ∧ x.e ≤ 65535 ∧ 0 ≤ x.s ∧ x.s ≤ 7 ∧ (extM x.m = false → x.e = 0) := by
  obtain ⟨op, z, r, m, k, e, s⟩ := x
  unfold inOk at h
  rw [Bool.and_eq_true] at h
  obtain ⟨h1, h2⟩ := h
  have hop : 1 ≤ op ∧ op ≤ 19 := by
    have : op = 1 ∨ op = 2 ∨ op = 3 ∨ op = 4 ∨ op = 5 ∨ op = 6 ∨ op = 7 ∨ op = 8 ∨ op = 9 ∨ op = 10 ∨ op = 11 ∨ op = 12 ∨ op = 13 ∨ op = 14 ∨ op = 15 ∨ op = 16 ∨ op = 17 ∨ op = 18 ∨ op = 19 := by
      by_cases q1 : op = 1; · simp [q1]
      by_cases q2 : op = 2; · simp [q2]
      by_cases q3 : op = 3; · simp [q3]
      by_cases q4 : op = 4; · simp [q4]
      by_cases q5 : op = 5; · simp [q5]
      by_cases q6 : op = 6; · simp [q6]
      by_cases q7 : op = 7; · simp [q7]
      by_cases q8 : op = 8; · simp [q8]
      by_cases q9 : op = 9; · simp [q9]
      by_cases q10 : op = 10; · simp [q10]
      by_cases q11 : op = 11; · simp [q11]
      by_cases q12 : op = 12; · simp [q12]
      by_cases q13 : op = 13; · simp [q13]
      by_cases q14 : op = 14; · simp [q14]
      by_cases q15 : op = 15; · simp [q15]
      by_cases q16 : op = 16; · simp [q16]
      by_cases q17 : op = 17; · simp [q17]
      by_cases q18 : op = 18; · simp [q18]
      by_cases q19 : op = 19; · simp [q19]
      simp [inKind, q1, q2, q3, q4, q5, q6, q7, q8, q9, q10, q11, q12, q13, q14, q15, q16, q17, q18, q19] at h2
    omega
  simp [inBase, opOk, modeOk, within, wordOk] at h1
  obtain ⟨hz, hr, ⟨hm, hk, _, he, hx⟩, hs, _⟩ := h1
  refine ⟨hop.1, hop.2, hz, hr.1, hr.2, hm.1, hm.2, hk.1, hk.2, he.1, he.2, hs.1, hs.2, fun q => ?_⟩
  rcases hx with hx | hx
  · rw [q] at hx; cases hx
  · exact hx
end Go.Proofs.Ytloaedfoecjalaa.Pl
namespace Go.Proofs.Ytloaedfoecjalaa
end Go.Proofs.Ytloaedfoecjalaa

namespace Go.Proofs.Ytloaedfoecjalaa.Pl
set_option linter.unusedVariables false
def need (k : Int) : Int :=
  bif k - k % 2 == 2 then 5 else bif k - k % 2 == 4 then 1 else bif k - k % 2 == 6 then 4 else bif k - k % 2 == 8 then 2
  else bif k - k % 2 == 10 then 8 else bif k - k % 2 == 12 then 10 else bif k - k % 2 == 14 then 14 else 0
theorem nat_of {k : Int} {n : Nat} (h0 : 0 ≤ k) (h1 : k < n) : ∃ j : Nat, j < n ∧ k = (j : Int) := ⟨k.toNat, by omega, by omega⟩
/- the bits of flags, one at a time -/
theorem bit_even : ∀ k : Nat, k < 16 → bits .andNot .i64 (k : Int) 1 = (k : Int) - (k : Int) % 2 := by decide +kernel
theorem need_in : ∀ k : Nat, k < 16 → 0 ≤ need (k : Int) ∧ need (k : Int) ≤ 15 := by decide +kernel
end Go.Proofs.Ytloaedfoecjalaa.Pl

namespace Go.Proofs.Ytloaedfoecjalaa.Pl
open Go.RowKit
set_option linter.unusedVariables false
def straight (x : In) : Bool := bif (x.op == 13) || (x.op == 14) then false else bif x.op == 15 then (x.s == 2) || ((x.s == 5) || (x.s == 6)) else bif x.op == 19 then !(x.s == 0) else true
def sets (x : In) : Int :=
  bif (x.op == 3) || (x.op == 4) then 31 else bif (x.op == 9) || ((x.op == 10) || ((x.op == 13) || (x.op == 14))) then 0
  else bif x.op == 11 then (bif x.s == 1 then 31 else 15) else bif x.op == 12 then (bif (x.s == 4) || (x.s == 5) then 15 else 31)
  else bif x.op == 15 then (bif (x.s == 1) || (x.s == 3) then 31 else bif (x.s == 5) || (x.s == 6) then 15 else 0)
  else bif x.op == 18 then 27 else bif x.op == 19 then (bif x.s == 0 then 31 else 0) else 15
def reads (x : In) : Int :=
  bif x.op == 12 then (bif (x.s == 6) || (x.s == 7) then 16 else 0) else bif x.op == 13 then need (x.s + 8 * x.r)
  else bif x.op == 18 then 20 else bif x.op == 19 then (bif x.s == 1 then 31 else 0) else 0
def mayW (x : In) : Bool := bif x.op == 2 then memM x.m else bif x.op == 11 then memM x.m && !(x.s == 3) else bif x.op == 14 then x.s == 1 else false
def mayF (x : In) : Bool :=
  bif x.op == 10 then false else bif x.op == 14 then x.s == 1 else bif (x.op == 17) || (x.op == 18) then true
  else bif x.op == 15 then (x.s == 0) || ((x.s == 1) || ((x.s == 3) || (x.s == 4))) else bif x.op == 19 then x.s == 0 else memM x.m
/-- what these look at, of a good instruction -/
structure InD (x : In) : Prop where
  o0 : 1 ≤ x.op
  o1 : x.op ≤ 19
  s0 : 0 ≤ x.s
  s1 : x.s ≤ 7
  r0 : 0 ≤ x.r
  r1 : x.r ≤ 3
  s6 : x.op = 15 → x.s ≤ 6
  s3 : x.op = 11 → x.s ≤ 3
  s2 : x.op = 14 ∨ x.op = 19 → x.s ≤ 1
  r2 : x.op = 13 → x.r ≤ 1
theorem inD_of {x : In} (h : inOk x = true) : InD x := by
  unfold inOk at h
  rw [Bool.and_eq_true] at h
  obtain ⟨hb, hk⟩ := h
  simp only [inBase, opOk, modeOk, wordOk, within, byteNow, Bool.and_eq_true, Bool.or_eq_true, decide_eq_true_eq, Bool.not_eq_true', Bool.and_eq_false_iff, beq_iff_eq, decide_eq_false_iff_not, beq_eq_false_iff_ne] at hb
  obtain ⟨hz, ⟨r0, r1⟩, _, ⟨s0, s1⟩, _⟩ := hb
  obtain ⟨op, z, r, m, k, e, s⟩ := x
  simp only at hz r0 r1 s0 s1
  by_cases ho : op = 1 ∨ op = 2 ∨ op = 3 ∨ op = 4 ∨ op = 5 ∨ op = 6 ∨ op = 7 ∨ op = 8 ∨ op = 9 ∨ op = 10 ∨ op = 11 ∨ op = 12 ∨ op = 13 ∨ op = 14 ∨ op = 15 ∨ op = 16 ∨ op = 17 ∨ op = 18 ∨ op = 19
  · refine ⟨by simp only; omega, by simp only; omega, s0, s1, r0, r1, ?_, ?_, ?_, ?_⟩
    · intro h15
      simp only at h15
      subst h15
      cases q : (s == 3)
      · simp [inKind, q] at hk
        simp only; omega
      · have : s = 3 := by simpa using q
        simp only; omega
    · intro h11
      simp only at h11
      subst h11
      simp [inKind] at hk
      simp only; omega
    · intro h14
      simp only at h14
      rcases h14 with h14 | h14
      · subst h14
        simp [inKind] at hk
        simp only; omega
      · subst h14
        simp [inKind] at hk
        simp only; omega
    · intro h13
      simp only at h13
      subst h13
      simp [inKind] at hk
      simp only; omega
  · exfalso
    have h1 : ∀ n : Int, 1 ≤ n ∧ n ≤ 19 → (op == n) = false := by
      intro n hn
      rw [beq_eq_false_iff_ne]
      rintro rfl
      exact ho (by omega)
    simp only [inKind] at hk
    rw [h1 1 ⟨by omega, by omega⟩, h1 2 ⟨by omega, by omega⟩, h1 3 ⟨by omega, by omega⟩, h1 4 ⟨by omega, by omega⟩, h1 5 ⟨by omega, by omega⟩, h1 6 ⟨by omega, by omega⟩, h1 7 ⟨by omega, by omega⟩, h1 8 ⟨by omega, by omega⟩, h1 9 ⟨by omega, by omega⟩, h1 10 ⟨by omega, by omega⟩, h1 11 ⟨by omega, by omega⟩, h1 12 ⟨by omega, by omega⟩, h1 13 ⟨by omega, by omega⟩, h1 14 ⟨by omega, by omega⟩, h1 15 ⟨by omega, by omega⟩, h1 16 ⟨by omega, by omega⟩, h1 17 ⟨by omega, by omega⟩, h1 18 ⟨by omega, by omega⟩, h1 19 ⟨by omega, by omega⟩] at hk
    simp at hk
/-- a row's flags, from the last instruction backwards: what is needed ahead of it, and whether its own are dead -/
def needB (x : In) (n : Int) : Int := bits .or .i64 (bits .or .i64 (bits .andNot .i64 n (sets x)) (reads x)) (fl (mayF x) 31)
def deadB (x : In) (n : Int) : Bool := (!(sets x == 0) && (bits .and .i64 (sets x) n == 0)) && !mayW x
def needs (ys : List Int) (len : Nat) : Nat → Int
  | 0 => 31
  | i + 1 => needB (inAt ys (len - (i + 1))) (needs ys len i)
/-- the last i of the row are told -/
def deads (ys : List Int) (len : Nat) (i : Nat) : List Bool := (List.range len).map fun k => decide (len ≤ k + i) && deadB (inAt ys k) (needs ys len (len - (k + 1)))
def rowS (ys : List Int) : Nat → Bool
  | 0 => true
  | i + 1 => rowS ys i && (inOk (inAt ys i) && straight (inAt ys i))
def rowOk (ys : List Int) (n : Nat) : Bool := decide ((n : Int) ≤ 16) && rowS ys n
def deadV (ys : List Int) (n : Nat) : List Bool := if rowOk ys n = true then deads ys n n else []
theorem deads_len (ys : List Int) (len i : Nat) : (deads ys len i).length = len := by simp [deads]
theorem deads_zero (ys : List Int) (len : Nat) : deads ys len 0 = List.replicate len false := by
  apply List.ext_getElem
  · simp [deads]
  · intro k h1 h2
    have : k < len := by simpa [deads] using h1
    simp [deads]; intro h; omega
theorem deads_set (ys : List Int) (len i : Nat) (h : i < len) : (deads ys len i).set (len - (i + 1)) (deadB (inAt ys (len - (i + 1))) (needs ys len i)) = deads ys len (i + 1) := by
  apply List.ext_getElem
  · simp [deads]
  · intro k h1 h2
    have hk : k < len := by simpa [deads] using h2
    rw [List.getElem_set]
    by_cases e : len - (i + 1) = k
    · subst e
      simp only [deads, List.getElem_map, List.getElem_range, if_pos]
      rw [show len - (len - (i + 1) + 1) = i from by omega, show decide (len ≤ len - (i + 1) + (i + 1)) = true from by simp; omega]
      rfl
    · rw [if_neg e]
      simp only [deads, List.getElem_map, List.getElem_range]
      rw [show decide (len ≤ k + i) = decide (len ≤ k + (i + 1)) from by congr 1; rw [eq_iff_iff]; omega]
theorem flag_in (b : Bool) : fl b 31 = 0 ∨ fl b 31 = 31 := by cases b <;> simp [fl]
theorem sets_in (x : In) : sets x = 0 ∨ sets x = 15 ∨ sets x = 27 ∨ sets x = 31 := by
  unfold sets
  simp only [Bool.cond_eq_ite]
  repeat' split
  all_goals simp
end Go.Proofs.Ytloaedfoecjalaa.Pl

namespace Go.Proofs.Ytloaedfoecjalaa
open Go.RowKit
set_option linter.unusedVariables false

theorem l1Size_no (s : Int) (w : World) (h1 : ¬ s = 1) (h2 : ¬ s = 2) : Calls Try.prog 47 #[iv s] w fun e w' => e = .returned (.bool false) ∧ w' = w := by
  have k1 : (s == 1) = false := by simpa using h1
  have k2 : (s == 2) = false := by simpa using h2
  go_enter Try.func47, Try.ntmps47
  go_wp2
  go_ret
  exact ⟨rfl, rfl⟩

theorem l1Size1 (w : World) : Calls Try.prog 47 #[iv 1] w fun e w' => e = .returned (.bool true) ∧ w' = w := by
  go_enter Try.func47, Try.ntmps47
  go_wp2
  go_ret
  exact ⟨rfl, rfl⟩

theorem l1Size2 (w : World) : Calls Try.prog 47 #[iv 2] w fun e w' => e = .returned (.bool true) ∧ w' = w := by
  go_enter Try.func47, Try.ntmps47
  go_wp2
  go_ret
  exact ⟨rfl, rfl⟩
theorem specSize (z : Int) (w : World) : Calls Try.prog 47 #[iv z] w fun e w' => e = .returned (.bool (decide (z = 1) || decide (z = 2))) ∧ w' = w := by
  by_cases h1 : z = 1
  · subst h1; exact l1Size1 w
  · by_cases h2 : z = 2
    · subst h2; exact l1Size2 w
    · rw [show (decide (z = 1) || decide (z = 2)) = false from by simp [h1, h2]]; exact l1Size_no z w h1 h2
end Go.Proofs.Ytloaedfoecjalaa

namespace Go.Proofs.Ytloaedfoecjalaa
open Go.RowKit
set_option linter.unusedVariables false
theorem specWord (n : Int) (w : World) : Calls Try.prog 68 #[iv n] w fun e w' => e = .returned (.bool (Pl.wordOk n)) ∧ w' = w := by
  go_enter Try.func68, Try.ntmps68
  go_wp2_with (go_at_call 48; refine (l1In _ _ _ _).mono ?_; rintro e w' ⟨rfl, hw⟩; have hw2 := hw.symm; clear hw; subst hw2)
  go_ret
  exact ⟨rfl, rfl⟩
theorem specExtM (n : Int) (w : World) : Calls Try.prog 69 #[iv n] w fun e w' => e = .returned (.bool (Pl.extM n)) ∧ w' = w := by
  go_enter Try.func69, Try.ntmps69
  go_wp2
  go_ret
  exact ⟨rfl, rfl⟩
set_option maxHeartbeats 4000000 in
theorem specGoodOperand (w : World) (m k e : Int) :
    Calls Try.prog 49 #[.agg #[iv m, iv k, iv e]] w fun r w' => r = .returned (.bool (Pl.opOk m k e)) ∧ Kept 0 0 w w' := by
  have HK := hide (kept_alloc w (.cells #[iv m, iv k, iv e] 28))
  have G : Hid (Pl.opOk m k e = (Pl.modeOk m && (Pl.within k 0 3 && ((decide (m < 6) || (k == 0)) && (Pl.wordOk e && (Pl.extM m || (e == 0))))))) := hide rfl
  cases h1 : Pl.modeOk m
  · go_enter Try.func49, Try.ntmps49
    go_wp2_with (first | (go_at_call 48; refine (l1In _ _ _ _).mono ?_; rintro e w' ⟨rfl, hw⟩; have hw2 := hw.symm; clear hw; subst hw2; rw [show (decide (0 ≤ m) && decide (m ≤ 7)) = Pl.modeOk m from rfl, h1]; have Z1 : True := trivial))
    go_ret
    exact ⟨rB (by rw [G.out, h1]; simp), HK.out⟩
  · cases h2 : Pl.within k 0 3
    · go_enter Try.func49, Try.ntmps49
      go_wp2_with (first | (go_at_call 48; have z := Z1; refine (l1In _ _ _ _).mono ?_; rintro e w' ⟨rfl, hw⟩; have hw2 := hw.symm; clear hw; subst hw2; rw [show (decide (0 ≤ k) && decide (k ≤ 3)) = Pl.within k 0 3 from rfl, h2]) | (go_at_call 48; refine (l1In _ _ _ _).mono ?_; rintro e w' ⟨rfl, hw⟩; have hw2 := hw.symm; clear hw; subst hw2; rw [show (decide (0 ≤ m) && decide (m ≤ 7)) = Pl.modeOk m from rfl, h1]; have Z1 : True := trivial))
      go_ret
      exact ⟨rB (by rw [G.out, h1, h2]; simp), HK.out⟩
    · cases h3 : decide (6 ≤ m)
      · have q3 : decide (m < 6) = true := by simp at h3 ⊢; omega
        cases h4 : Pl.wordOk e
        · go_enter Try.func49, Try.ntmps49
          go_wp2_with (first | (go_at_call 48; have z := Z1; refine (l1In _ _ _ _).mono ?_; rintro e w' ⟨rfl, hw⟩; have hw2 := hw.symm; clear hw; subst hw2; rw [show (decide (0 ≤ k) && decide (k ≤ 3)) = Pl.within k 0 3 from rfl, h2]) | (go_at_call 48; refine (l1In _ _ _ _).mono ?_; rintro e w' ⟨rfl, hw⟩; have hw2 := hw.symm; clear hw; subst hw2; rw [show (decide (0 ≤ m) && decide (m ≤ 7)) = Pl.modeOk m from rfl, h1]; have Z1 : True := trivial) | (go_at_call 68; refine (specWord _ _).mono ?_; rintro e w' ⟨rfl, hw⟩; have hw2 := hw.symm; clear hw; subst hw2; rw [h4]))
          go_ret
          exact ⟨rB (by rw [G.out, h1, h2, q3, h4]; simp), HK.out⟩
        · cases h5 : Pl.extM m
          · cases h6 : (e == 0)
            all_goals
              go_enter Try.func49, Try.ntmps49
              go_wp2_with (first | (go_at_call 48; have z := Z1; refine (l1In _ _ _ _).mono ?_; rintro e w' ⟨rfl, hw⟩; have hw2 := hw.symm; clear hw; subst hw2; rw [show (decide (0 ≤ k) && decide (k ≤ 3)) = Pl.within k 0 3 from rfl, h2]) | (go_at_call 48; refine (l1In _ _ _ _).mono ?_; rintro e w' ⟨rfl, hw⟩; have hw2 := hw.symm; clear hw; subst hw2; rw [show (decide (0 ≤ m) && decide (m ≤ 7)) = Pl.modeOk m from rfl, h1]; have Z1 : True := trivial) | (go_at_call 68; refine (specWord _ _).mono ?_; rintro e w' ⟨rfl, hw⟩; have hw2 := hw.symm; clear hw; subst hw2; rw [h4]) | (go_at_call 69; refine (specExtM _ _).mono ?_; rintro e w' ⟨rfl, hw⟩; have hw2 := hw.symm; clear hw; subst hw2; rw [h5]))
              go_ret
              exact ⟨rB (by rw [G.out, h1, h2, q3, h4, h5, h6]; simp), HK.out⟩
          · go_enter Try.func49, Try.ntmps49
            go_wp2_with (first | (go_at_call 48; have z := Z1; refine (l1In _ _ _ _).mono ?_; rintro e w' ⟨rfl, hw⟩; have hw2 := hw.symm; clear hw; subst hw2; rw [show (decide (0 ≤ k) && decide (k ≤ 3)) = Pl.within k 0 3 from rfl, h2]) | (go_at_call 48; refine (l1In _ _ _ _).mono ?_; rintro e w' ⟨rfl, hw⟩; have hw2 := hw.symm; clear hw; subst hw2; rw [show (decide (0 ≤ m) && decide (m ≤ 7)) = Pl.modeOk m from rfl, h1]; have Z1 : True := trivial) | (go_at_call 68; refine (specWord _ _).mono ?_; rintro e w' ⟨rfl, hw⟩; have hw2 := hw.symm; clear hw; subst hw2; rw [h4]) | (go_at_call 69; refine (specExtM _ _).mono ?_; rintro e w' ⟨rfl, hw⟩; have hw2 := hw.symm; clear hw; subst hw2; rw [h5]))
            go_ret
            exact ⟨rB (by rw [G.out, h1, h2, q3, h4, h5]; simp), HK.out⟩
      · have q3 : decide (m < 6) = false := by simp at h3 ⊢; omega
        cases h7 : (k != 0)
        · have q7 : (k == 0) = true := by simpa using h7
          cases h4 : Pl.wordOk e
          · go_enter Try.func49, Try.ntmps49
            go_wp2_with (first | (go_at_call 48; have z := Z1; refine (l1In _ _ _ _).mono ?_; rintro e w' ⟨rfl, hw⟩; have hw2 := hw.symm; clear hw; subst hw2; rw [show (decide (0 ≤ k) && decide (k ≤ 3)) = Pl.within k 0 3 from rfl, h2]) | (go_at_call 48; refine (l1In _ _ _ _).mono ?_; rintro e w' ⟨rfl, hw⟩; have hw2 := hw.symm; clear hw; subst hw2; rw [show (decide (0 ≤ m) && decide (m ≤ 7)) = Pl.modeOk m from rfl, h1]; have Z1 : True := trivial) | (go_at_call 68; refine (specWord _ _).mono ?_; rintro e w' ⟨rfl, hw⟩; have hw2 := hw.symm; clear hw; subst hw2; rw [h4]))
            go_ret
            exact ⟨rB (by rw [G.out, h1, h2, q3, q7, h4]; simp), HK.out⟩
          · cases h5 : Pl.extM m
            · cases h6 : (e == 0)
              all_goals
                go_enter Try.func49, Try.ntmps49
                go_wp2_with (first | (go_at_call 48; have z := Z1; refine (l1In _ _ _ _).mono ?_; rintro e w' ⟨rfl, hw⟩; have hw2 := hw.symm; clear hw; subst hw2; rw [show (decide (0 ≤ k) && decide (k ≤ 3)) = Pl.within k 0 3 from rfl, h2]) | (go_at_call 48; refine (l1In _ _ _ _).mono ?_; rintro e w' ⟨rfl, hw⟩; have hw2 := hw.symm; clear hw; subst hw2; rw [show (decide (0 ≤ m) && decide (m ≤ 7)) = Pl.modeOk m from rfl, h1]; have Z1 : True := trivial) | (go_at_call 68; refine (specWord _ _).mono ?_; rintro e w' ⟨rfl, hw⟩; have hw2 := hw.symm; clear hw; subst hw2; rw [h4]) | (go_at_call 69; refine (specExtM _ _).mono ?_; rintro e w' ⟨rfl, hw⟩; have hw2 := hw.symm; clear hw; subst hw2; rw [h5]))
                go_ret
                exact ⟨rB (by rw [G.out, h1, h2, q3, q7, h4, h5, h6]; simp), HK.out⟩
            · go_enter Try.func49, Try.ntmps49
              go_wp2_with (first | (go_at_call 48; have z := Z1; refine (l1In _ _ _ _).mono ?_; rintro e w' ⟨rfl, hw⟩; have hw2 := hw.symm; clear hw; subst hw2; rw [show (decide (0 ≤ k) && decide (k ≤ 3)) = Pl.within k 0 3 from rfl, h2]) | (go_at_call 48; refine (l1In _ _ _ _).mono ?_; rintro e w' ⟨rfl, hw⟩; have hw2 := hw.symm; clear hw; subst hw2; rw [show (decide (0 ≤ m) && decide (m ≤ 7)) = Pl.modeOk m from rfl, h1]; have Z1 : True := trivial) | (go_at_call 68; refine (specWord _ _).mono ?_; rintro e w' ⟨rfl, hw⟩; have hw2 := hw.symm; clear hw; subst hw2; rw [h4]) | (go_at_call 69; refine (specExtM _ _).mono ?_; rintro e w' ⟨rfl, hw⟩; have hw2 := hw.symm; clear hw; subst hw2; rw [h5]))
              go_ret
              exact ⟨rB (by rw [G.out, h1, h2, q3, q7, h4, h5]; simp), HK.out⟩
        · have q7 : (k == 0) = false := by simpa using h7
          go_enter Try.func49, Try.ntmps49
          go_wp2_with (first | (go_at_call 48; have z := Z1; refine (l1In _ _ _ _).mono ?_; rintro e w' ⟨rfl, hw⟩; have hw2 := hw.symm; clear hw; subst hw2; rw [show (decide (0 ≤ k) && decide (k ≤ 3)) = Pl.within k 0 3 from rfl, h2]) | (go_at_call 48; refine (l1In _ _ _ _).mono ?_; rintro e w' ⟨rfl, hw⟩; have hw2 := hw.symm; clear hw; subst hw2; rw [show (decide (0 ≤ m) && decide (m ≤ 7)) = Pl.modeOk m from rfl, h1]; have Z1 : True := trivial))
          go_ret
          exact ⟨rB (by rw [G.out, h1, h2, q3, q7]; simp), HK.out⟩
end Go.Proofs.Ytloaedfoecjalaa

namespace Go.Proofs.Ytloaedfoecjalaa
open Go.RowKit
set_option linter.unusedVariables false
theorem specMem (m : Int) (w : World) : Calls Try.prog 50 #[iv m] w fun e w' => e = .returned (.bool (Pl.memM m)) ∧ w' = w := by
  go_enter Try.func50, Try.ntmps50
  go_wp2_with (go_at_call 48; refine (l1In _ _ _ _).mono ?_; rintro e w' ⟨rfl, hw⟩; have hw2 := hw.symm; clear hw; subst hw2)
  go_ret
  exact ⟨rfl, rfl⟩
theorem specPlain (m : Int) (w : World) : Calls Try.prog 51 #[iv m] w fun e w' => e = .returned (.bool (Pl.plainM m)) ∧ w' = w := by
  cases h1 : (m == 2) <;> cases h2 : (m == 5) <;> cases h3 : (m == 6)
  all_goals
    go_enter Try.func51, Try.ntmps51
    go_wp2
    go_ret
    exact ⟨rB (by simp only [Pl.plainM, h1, h2, h3]; rfl), rfl⟩
theorem specZero (m k e : Int) (w : World) : Calls Try.prog 53 #[.agg #[iv m, iv k, iv e]] w fun r w' => r = .returned (.bool (Pl.zeroO m k e)) ∧ Kept 0 0 w w' := by
  have K0 := hide (kept_alloc w (.cells #[iv m, iv k, iv e] 28))
  cases h1 : (m == 0) <;> cases h2 : (k == 0) <;> cases h3 : (e == 0)
  all_goals
    go_enter Try.func53, Try.ntmps53
    go_wp2
    go_ret
    exact ⟨rB (by simp only [Pl.zeroO, h1, h2, h3]; rfl), K0.out⟩
theorem specNow (m k e : Int) (w : World) : Calls Try.prog 52 #[.agg #[iv m, iv k, iv e]] w fun r w' => r = .returned (.bool (Pl.nowO m e)) ∧ Kept 0 0 w w' := by
  have K0 := hide (kept_alloc w (.cells #[iv m, iv k, iv e] 28))
  cases h1 : (m == 7) <;> cases h2 : decide (e ≤ 1023)
  all_goals
    go_enter Try.func52, Try.ntmps52
    go_wp2
    go_ret
    exact ⟨rB (by simp only [Pl.nowO, h1, h2]; rfl), K0.out⟩
theorem opsAll (op : Int) : op = 1 ∨ op = 2 ∨ op = 3 ∨ op = 4 ∨ op = 5 ∨ op = 6 ∨ op = 7 ∨ op = 8 ∨ op = 9 ∨ op = 10 ∨ op = 11 ∨ op = 12 ∨ op = 13 ∨ op = 14 ∨ op = 15 ∨ op = 16 ∨ op = 17 ∨ op = 18 ∨ op = 19 ∨ (¬ op = 1 ∧ ¬ op = 2 ∧ ¬ op = 3 ∧ ¬ op = 4 ∧ ¬ op = 5 ∧ ¬ op = 6 ∧ ¬ op = 7 ∧ ¬ op = 8 ∧ ¬ op = 9 ∧ ¬ op = 10 ∧ ¬ op = 11 ∧ ¬ op = 12 ∧ ¬ op = 13 ∧ ¬ op = 14 ∧ ¬ op = 15 ∧ ¬ op = 16 ∧ ¬ op = 17 ∧ ¬ op = 18 ∧ ¬ op = 19) := by omega
end Go.Proofs.Ytloaedfoecjalaa

