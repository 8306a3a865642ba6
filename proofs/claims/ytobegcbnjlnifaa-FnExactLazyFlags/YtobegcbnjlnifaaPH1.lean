/- The plain arithmetic beneath the walks of chapter 1: what masks, values with a sign and flags are, as functions on whole numbers. No Go text is spoken of here. Small things that every walk of ours leans on: equal answers, a fact kept from the walk, and what the model's test of a range answers. Worlds that grow, one block of them written: three small laws. What the laws' own functions over lists of whole numbers do: compare, copy, mark, look for the marks. What the laws' own functions do that copy a list of whole numbers, mark it, and look for the marks. Lists that were answered, kept over calls that change other blocks: what the laws on lists lean on. What is said of worlds, blocks and lists by every law on structs with lists: blocks kept outside a span, lists in blocks of a span, a block's cells, copies; no text of a chapter is spoken of here. What the laws' own functions over lists of FlagOp do (structs of 4 whole numbers, laid one behind the other): compare, copy, mark. A list of n is spoken of as the row of its 4 * n numbers. Operations on flags in numbers: plain arithmetic; no Go text is spoken of here. What the laws' own functions on notes do: copy, compare; and on lists of operations: measure. What the model's test of a size answers. What the model's test of a value of a size answers, for every argument; none changes the world. What the model's small functions of chapter 1 answer, for every argument: one contract a function; none changes the world. What the program's test of a value of a size answers: one contract a function; none changes the world. What the small functions of chapter 1 and of its model answer, for every argument: one contract a function; none changes the world. What the sums and differences of chapter 1, and of its model, answer for every argument: one contract a function; none changes the world. What the model's small functions on operations and notes answer. What the model's functions on notes answer. What the program's small functions on operations answer, whether a note is good, a note with an operation more. What the program's FlagsOf, CondOf, CarryOf answer. What the model makes of lists of operations: whether all are good, EagerFlags, LazyFlags. What the program makes of lists of operations: whether all are good, EagerFlags, LazyFlags. The law on LazyFlags: of whatever arguments, its Go function returns true, and no block that was there has turned. Operations, notes and lists of operations that came in to a law: opened out of a law's argument. -/
import Derived.WalkKit
import Derived.Test.YtobegcbnjlnifaaProg
import Derived.WalkSpells
import Derived.WalkLawsBesides
import Derived.OpenShut
import Derived.Deep.QuietTactic
import Derived.BigQuiet
import Derived.RegionTactic
import Derived.ChangeAlike
import Derived.BigRegion
import Derived.Deep.RegionWith
import Derived.Laws.Rows
import Derived.Laws.ResultCell
import Derived.Laws.CopyOwn
import Derived.Maps.AppendAt
import Derived.Laws.AppendOwnNone
import Derived.Deep.AppendLies
import Derived.Below
import Derived.Lib.SmallJoins
import Derived.Deep.Slices
import Derived.ProofKit
namespace Go.Proofs.Ytobegcbnjlnifaa.Pl

/-- how many values a size has -/
def top (s : Int) : Int := if s = 1 then 256 else 65536
/-- a value of a size -/
def okv (s v : Int) : Bool := (decide (s = 1) || decide (s = 2)) && (decide (0 ≤ v) && decide (v < top s))
/-- a value as a number with a sign -/
def sg (s v : Int) : Int := if top s / 2 ≤ v then v - top s else v
def sgnV (s v : Int) : Int := if okv s v = true then sg s v else 0
def flags (f : Int) : Bool := decide (0 ≤ f) && decide (f ≤ 31)
theorem top_ok {s v : Int} (h : okv s v = true) : (s = 1 ∧ top s = 256 ∨ s = 2 ∧ top s = 65536) ∧ 0 ≤ v ∧ v < top s := by
  simp [okv] at h
  obtain ⟨h1, h2, h3⟩ := h
  refine ⟨?_, h2, h3⟩
  rcases h1 with rfl | rfl
  · exact .inl ⟨rfl, rfl⟩
  · exact .inr ⟨rfl, rfl⟩

end Go.Proofs.Ytobegcbnjlnifaa.Pl

namespace Go.Proofs.Ytobegcbnjlnifaa
open Go.RowKit
set_option linter.unusedVariables false

/- long words made short -/
abbrev iv (n : Int) : Value := .int .i64 n
theorem st {P : Program} {f : FuncId} {a : Array Value} {w : World} {r : Ending} {Q : Ending → World → Prop} (h : Calls P f a w fun e w' => e = r ∧ w' = w) (q : Q r w) : Calls P f a w Q := h.mono (by rintro e w' ⟨rfl, rfl⟩; exact q)
theorem hide {p : Prop} (h : p) : Hid p := h
theorem rB {a b : Bool} (h : a = b) : Ending.returned (.bool a) = .returned (.bool b) := by rw [h]
theorem rIB {a b : Int} {c d : Bool} (h : a = b) (k : c = d) : Ending.returned (.tuple #[.int .i64 a, .bool c]) = .returned (.tuple #[.int .i64 b, .bool d]) := by rw [h, k]
theorem rIIB {a b c d : Int} {e f : Bool} (h : a = b) (k : c = d) (l : e = f) : Ending.returned (.tuple #[.int .i64 a, .int .i64 c, .bool e]) = .returned (.tuple #[.int .i64 b, .int .i64 d, .bool f]) := by rw [h, k, l]

theorem l1In (n lo hi : Int) (w : World) :
    Calls Try.prog 53 #[.int .i64 n, .int .i64 lo, .int .i64 hi] w fun e w' => e = .returned (.bool (decide (lo ≤ n) && decide (n ≤ hi))) ∧ w' = w := by
  by_cases h0 : lo ≤ n
  all_goals
    by_cases h1 : n ≤ hi
    all_goals
      go_enter Try.func53, Try.ntmps53
      go_wp2
      go_ret
      exact ⟨rB (by simp; omega), rfl⟩

end Go.Proofs.Ytobegcbnjlnifaa

namespace Go.Proofs.Ytobegcbnjlnifaa
open Go.RowKit
set_option linter.unusedVariables false

theorem grownBy_trans {a b c : World} {row : Option Nat} (h : a.grownBy b row) (k : b.grownBy c row) : a.grownBy c row :=
  ⟨k.os.trans h.os, k.tape.trans h.tape, k.output.trans h.output, Nat.le_trans h.size k.size, fun i hi hne => (k.block i (Nat.lt_of_lt_of_le hi h.size) hne).trans (h.block i hi hne)⟩

theorem grownBy_drew {a b : World} {row : Option Nat} (h : a.grownBy b row) : a.grownBy b.drew row := ⟨h.os, h.tape, h.output, h.size, h.block⟩

end Go.Proofs.Ytobegcbnjlnifaa

namespace Go.Proofs.Ytobegcbnjlnifaa
open Go.RowKit
set_option linter.unusedVariables false

/-- a list of whole numbers lies in memory from address a on -/
def IRow (w : World) (a : Option Addr) (xs : List Int) : Prop :=
  ∀ i : Nat, i < xs.length → ∃ g off : Nat, a = some ⟨g, off, none⟩ ∧ w.cell? ⟨g, off + i, none⟩ = some (iv (xs[i]?.getD 0))

theorem IRow.kept {w w' : World} {a : Option Addr} {xs : List Int} (h : IRow w a xs) (hg : w.grownBy w' none) : IRow w' a xs := by
  intro i hi
  obtain ⟨g, off, ea, hc⟩ := h i hi
  exact ⟨g, off, ea, hg.cell hc (by simp)⟩

theorem ext_of {xs ys : List Int} (hl : xs.length = ys.length) (h : ∀ i, i < xs.length → xs[i]?.getD 0 = ys[i]?.getD 0) : xs = ys := by
  apply List.ext_getElem hl
  intro i h1 h2
  have := h i h1
  simpa [h1, h2] using this

end Go.Proofs.Ytobegcbnjlnifaa

namespace Go.Proofs.Ytobegcbnjlnifaa
open Go.RowKit
set_option linter.unusedVariables false

/-- a list of whole numbers that may be written, from the head of block g on -/
def Own (w : World) (g : Nat) (xs : List Int) : Prop :=
  ∀ i : Nat, i < xs.length → w.cell? ⟨g, i, none⟩ = some (iv (xs[i]?.getD 0)) ∧ w.frozen? ⟨g, i, none⟩ = false

theorem Own.kept {w w' : World} {g : Nat} {xs : List Int} {row : Option Nat} (h : Own w g xs) (hg : w.grownBy w' row) (hne : some g ≠ row) : Own w' g xs := by
  intro i hi
  obtain ⟨hc, hf⟩ := h i hi
  exact ⟨hg.cell hc hne, by rw [World.frozen?_of_block (w := w) (hg.block g (World.block_lt_of_cell? _ _ hc) hne)]; exact hf⟩

theorem Own.row {w : World} {g : Nat} {xs : List Int} (h : Own w g xs) : IRow w (some ⟨g, 0, none⟩) xs := by
  intro i hi
  exact ⟨g, 0, rfl, by simpa using (h i hi).1⟩

theorem Own.set {w : World} {g k : Nat} {xs : List Int} (h : Own w g xs) (z : Int) : Own (w.setCell ⟨g, k, none⟩ (iv z)) g (xs.set k z) := by
  intro i hi
  rw [List.length_set] at hi
  obtain ⟨hc, hf⟩ := h i hi
  refine ⟨?_, by simpa using hf⟩
  by_cases e : k = i
  · subst e
    rw [World.cell?_setCell_same _ _ _ hc]
    simp [hi]
  · rw [World.cell?_setCell_other _ _ _ _ (fun q => e (congrArg Addr.off q)), hc]
    simp [e]

end Go.Proofs.Ytobegcbnjlnifaa

namespace Go.Proofs.Ytobegcbnjlnifaa
open Go.RowKit
set_option linter.unusedVariables false

def Wide (xs : List Int) : Prop := ∀ i : Nat, i < xs.length → -9223372036854775808 ≤ xs[i]?.getD 0 ∧ xs[i]?.getD 0 ≤ 9223372036854775807

end Go.Proofs.Ytobegcbnjlnifaa

namespace Go.Proofs.Ytobegcbnjlnifaa
open Go.RowKit
set_option linter.unusedVariables false

/-- the number at a place of a row -/
def el (xs : List Int) (i : Nat) : Int := xs[i]?.getD 0
theorem grownBy_alloc {a b : World} {row : Option Nat} (h : a.grownBy b row) (o : Obj) : a.grownBy (b.alloc o) row :=
  ⟨h.os, h.tape, h.output, Nat.le_trans h.size (by simp), fun k hk hne => (Below.heap_alloc _ _ _ (Nat.lt_of_lt_of_le hk h.size)).trans (h.block k hk hne)⟩
theorem results_one {fn : Func} {p : Tmp} {ty : TypeId} (h : fn.results = #[.cell p ty]) (tmps : Array Value) (P : Program) (w : World) :
    (results fn tmps).run P w = ((asAddr (tmps.getD p undef)).run P w).andThen fun a w₁ => (loadVar ty a).run P w₁ := by
  simp only [results, h]
  simp [Sem.run_bind, Result.andThen]
/-- of the blocks that were there those outside a span are as they were -/
structure Kept (lo hi : Nat) (w w' : World) : Prop where
  os : w'.os = w.os
  tape : w'.tape = w.tape
  output : w'.output = w.output
  size : w.heap.size ≤ w'.heap.size
  block : ∀ k, k < w.heap.size → ¬ (lo ≤ k ∧ k < hi) → w'.heap[k]? = w.heap[k]?

theorem Kept.refl (lo hi : Nat) (w : World) : Kept lo hi w w := ⟨rfl, rfl, rfl, Nat.le_refl _, fun _ _ _ => rfl⟩
theorem Kept.trans {lo hi : Nat} {a b c : World} (h : Kept lo hi a b) (k : Kept lo hi b c) : Kept lo hi a c :=
  ⟨k.os.trans h.os, k.tape.trans h.tape, k.output.trans h.output, Nat.le_trans h.size k.size, fun i hi hn => (k.block i (Nat.lt_of_lt_of_le hi h.size) hn).trans (h.block i hi hn)⟩
theorem kept_grown {w w' : World} (h : w.grownBy w' none) : Kept 0 0 w w' := ⟨h.os, h.tape, h.output, h.size, fun k hk _ => h.block k hk (by simp)⟩
theorem kept_below {w w' : World} (h : Below w.heap.size w w') : Kept 0 0 w w' := ⟨h.os, h.tape, h.output, h.size, fun k hk _ => h.block k hk⟩
theorem Kept.below {w w' : World} (h : Kept 0 0 w w') : Below w.heap.size w w' := ⟨h.os, h.tape, h.output, h.size, fun k hk => h.block k hk (by omega)⟩
theorem Kept.grown {w w' : World} (h : Kept 0 0 w w') : w.grownBy w' none := ⟨h.os, h.tape, h.output, h.size, fun k hk _ => h.block k hk (by omega)⟩
theorem kept_alloc (w : World) (o : Obj) : Kept 0 0 w (w.alloc o) := kept_below ((Below.refl _ w).alloc (Nat.le_refl _) o)
theorem Own.keptS {w w' : World} {g : Nat} {xs : List Int} {lo hi : Nat} (h : Own w g xs) (k : Kept lo hi w w') (hn : ¬ (lo ≤ g ∧ g < hi)) : Own w' g xs := by
  intro i hi'
  obtain ⟨hc, hf⟩ := h i hi'
  have e := k.block g (World.block_lt_of_cell? _ _ hc) hn
  exact ⟨by rw [World.cell?_of_block (w := w) e]; exact hc, by rw [World.frozen?_of_block (w := w) e]; exact hf⟩

/-- a block that holds these cells -/
def Blk (w : World) (b : Nat) (cs : Array Value) (ty : TypeId) : Prop := w.heap[b]? = some (.cells cs ty)
theorem Blk.lt {w : World} {b : Nat} {cs : Array Value} {ty : TypeId} (h : Blk w b cs ty) : b < w.heap.size := by
  unfold Blk at h
  rcases Nat.lt_or_ge b w.heap.size with h' | h'
  · exact h'
  · rw [Array.getElem?_eq_none h'] at h; cases h
theorem Blk.kept {w w' : World} {b : Nat} {cs : Array Value} {ty : TypeId} {lo hi : Nat} (h : Blk w b cs ty) (k : Kept lo hi w w') (hn : ¬ (lo ≤ b ∧ b < hi)) : Blk w' b cs ty := (k.block b h.lt hn).trans h
theorem Blk.kept0 {w w' : World} {b : Nat} {cs : Array Value} {ty : TypeId} (h : Blk w b cs ty) (k : Kept 0 0 w w') : Blk w' b cs ty := h.kept k (by omega)
theorem Blk.frozen {w : World} {b : Nat} {cs : Array Value} {ty : TypeId} (h : Blk w b cs ty) (i : Nat) : w.frozen? ⟨b, i, none⟩ = false := by
  unfold Blk at h
  simp [World.frozen?, h]
theorem Blk.set {w : World} {b : Nat} {cs : Array Value} {ty : TypeId} (h : Blk w b cs ty) (i : Nat) (v : Value) : Blk (w.setCell ⟨b, i, none⟩ v) b (cs.setIfInBounds i v) ty := by
  unfold Blk at h ⊢
  simp [World.setCell, Array.getElem?_modify, h]
theorem Blk.other {w : World} {b : Nat} {cs : Array Value} {ty : TypeId} (h : Blk w b cs ty) (c i : Nat) (v : Value) (hn : b ≠ c) : Blk (w.setCell ⟨c, i, none⟩ v) b cs ty :=
  (Below.heap_setCell _ _ _ _ (by simpa using hn)).trans h
theorem Blk.new (w : World) (cs : Array Value) (ty : TypeId) : Blk (w.alloc (.cells cs ty)) w.heap.size cs ty := heap_alloc_new w _
theorem Blk.alloc {w : World} {b : Nat} {cs : Array Value} {ty : TypeId} (h : Blk w b cs ty) (o : Obj) : Blk (w.alloc o) b cs ty := (Below.heap_alloc _ _ _ h.lt).trans h
/-- a store into a block of the span -/
theorem kept_set {w w' : World} {lo hi : Nat} (h : Kept lo hi w w') (b i : Nat) (v : Value) (hb : (lo ≤ b ∧ b < hi) ∨ w.heap.size ≤ b) : Kept lo hi w (w'.setCell ⟨b, i, none⟩ v) :=
  ⟨h.os, h.tape, h.output, by simpa using h.size, fun k hk hn => (Below.heap_setCell _ _ _ _ (by simp; omega)).trans (h.block k hk hn)⟩
theorem kept_new {w w' : World} {lo hi : Nat} (h : Kept lo hi w w') (o : Obj) : Kept lo hi w (w'.alloc o) :=
  ⟨h.os, h.tape, h.output, Nat.le_trans h.size (by simp), fun k hk hn => (Below.heap_alloc _ _ _ (Nat.lt_of_lt_of_le hk h.size)).trans (h.block k hk hn)⟩
theorem IRow.keptS {w w' : World} {a : Option Addr} {xs : List Int} (h : IRow w a xs) (k : Kept 0 0 w w') : IRow w' a xs := h.kept k.grown

/-- a row of numbers that the kind int holds, at address a -/
def Came (w : World) (a : Option Addr) (xs : List Int) : Prop := IRow w a xs ∧ Wide xs
theorem Came.keptS {w w' : World} {a : Option Addr} {xs : List Int} (h : Came w a xs) (k : Kept 0 0 w w') : Came w' a xs := ⟨h.1.keptS k, h.2⟩
theorem Own.came {w : World} {g : Nat} {xs : List Int} (h : Own w g xs) (hw : Wide xs) : Came w (some ⟨g, 0, none⟩) xs := ⟨h.row, hw⟩

namespace Pl
end Pl
theorem Blk.all {w : World} {b : Nat} {cs : Array Value} {ty : TypeId} (h : Blk w b cs ty) (i : Nat) : w.cell? ⟨b, i, none⟩ = cs[i]? := by
  have e : w.heap[b]? = some (.cells cs ty (0, 0)) := h
  unfold World.cell?
  dsimp only
  rw [e]
  simp
theorem Blk.fz {w : World} {b : Nat} {cs : Array Value} {ty : TypeId} (h : Blk w b cs ty) (i : Nat) : w.frozen? ⟨b, i, none⟩ = false := h.frozen i
end Go.Proofs.Ytobegcbnjlnifaa

namespace Go.Proofs.Ytobegcbnjlnifaa
open Go.RowKit
set_option linter.unusedVariables false

theorem IRow.at4 {w : World} {a : Option Addr} {xs : List Int} (h : IRow w a xs) {n k : Nat} (hl : xs.length = 4 * n) (hk : k < n) :
    ∃ g off : Nat, a = some ⟨g, off, none⟩ ∧ w.cell? ⟨g, off + k * 4, none⟩ = some (.int .i64 (el xs (k * 4))) ∧ w.cell? ⟨g, off + k * 4 + 1, none⟩ = some (.int .i64 (el xs (k * 4 + 1))) ∧ w.cell? ⟨g, off + k * 4 + 2, none⟩ = some (.int .i64 (el xs (k * 4 + 2))) ∧ w.cell? ⟨g, off + k * 4 + 3, none⟩ = some (.int .i64 (el xs (k * 4 + 3))) := by
  obtain ⟨g, off, ea, c0⟩ := h (k * 4) (by omega)
  have pick : ∀ j, j < 4 → w.cell? ⟨g, off + k * 4 + j, none⟩ = some (.int .i64 (el xs (k * 4 + j))) := by
    intro j hj
    obtain ⟨g', off', ea', c⟩ := h (k * 4 + j) (by omega)
    rw [ea] at ea'
    cases ea'
    rw [Nat.add_assoc]; exact c
  exact ⟨g, off, ea, c0, pick 1 (by decide), pick 2 (by decide), pick 3 (by decide)⟩

theorem Own.at4 {w : World} {g : Nat} {xs : List Int} (h : Own w g xs) {n k : Nat} (hl : xs.length = 4 * n) (hk : k < n) :
    (w.cell? ⟨g, k * 4, none⟩ = some (.int .i64 (el xs (k * 4))) ∧ w.cell? ⟨g, k * 4 + 1, none⟩ = some (.int .i64 (el xs (k * 4 + 1))) ∧ w.cell? ⟨g, k * 4 + 2, none⟩ = some (.int .i64 (el xs (k * 4 + 2))) ∧ w.cell? ⟨g, k * 4 + 3, none⟩ = some (.int .i64 (el xs (k * 4 + 3)))) ∧ w.frozen? ⟨g, k * 4, none⟩ = false ∧ w.frozen? ⟨g, k * 4 + 1, none⟩ = false ∧ w.frozen? ⟨g, k * 4 + 2, none⟩ = false ∧ w.frozen? ⟨g, k * 4 + 3, none⟩ = false :=
  ⟨⟨(h (k * 4) (by omega)).1, (h (k * 4 + 1) (by omega)).1, (h (k * 4 + 2) (by omega)).1, (h (k * 4 + 3) (by omega)).1⟩, (h (k * 4) (by omega)).2, (h (k * 4 + 1) (by omega)).2, (h (k * 4 + 2) (by omega)).2, (h (k * 4 + 3) (by omega)).2⟩

theorem snoc4 {p : Nat → Prop} {k : Nat} (h : ∀ i, i < k * 4 → p i) (h0 : p (k * 4)) (h1 : p (k * 4 + 1)) (h2 : p (k * 4 + 2)) (h3 : p (k * 4 + 3)) : ∀ i, i < (k + 1) * 4 → p i := by
  intro i hi
  by_cases e : i < k * 4
  · exact h i e
  · obtain rfl | rfl | rfl | rfl : i = k * 4 ∨ i = k * 4 + 1 ∨ i = k * 4 + 2 ∨ i = k * 4 + 3 := by omega
    all_goals assumption

/-- 4 places of a row, written -/
def set4 (xs : List Int) (k : Nat) (a b c d : Int) : List Int := ((((xs.set (k * 4) a).set (k * 4 + 1) b).set (k * 4 + 2) c).set (k * 4 + 3) d)
theorem set4_len (xs : List Int) (k : Nat) (a b c d : Int) : (set4 xs k a b c d).length = xs.length := by simp [set4]
theorem set4_old {xs : List Int} {k : Nat} {a b c d : Int} {i : Nat} (h : i < k * 4) : el (set4 xs k a b c d) i = el xs i := by
  unfold el set4
  rw [List.getElem?_set_ne (by omega), List.getElem?_set_ne (by omega), List.getElem?_set_ne (by omega), List.getElem?_set_ne (by omega)]

theorem set4_new {xs : List Int} {k : Nat} {a b c d : Int} (h : k * 4 + 3 < xs.length) : el (set4 xs k a b c d) (k * 4) = a ∧ el (set4 xs k a b c d) (k * 4 + 1) = b ∧ el (set4 xs k a b c d) (k * 4 + 2) = c ∧ el (set4 xs k a b c d) (k * 4 + 3) = d := by
  unfold el set4
  refine ⟨?_, ?_, ?_, ?_⟩
  · rw [List.getElem?_set_ne (by omega), List.getElem?_set_ne (by omega), List.getElem?_set_ne (by omega), List.getElem?_set_self (by omega)]; rfl
  · rw [List.getElem?_set_ne (by omega), List.getElem?_set_ne (by omega), List.getElem?_set_self (by simp; omega)]; rfl
  · rw [List.getElem?_set_ne (by omega), List.getElem?_set_self (by simp; omega)]; rfl
  · rw [List.getElem?_set_self (by simp; omega)]; rfl

theorem Own.set4 {w : World} {g : Nat} {xs : List Int} (h : Own w g xs) (k : Nat) (a b c d : Int) :
    Own ((((w.setCell ⟨g, k * 4, none⟩ (.int .i64 a)).setCell ⟨g, k * 4 + 1, none⟩ (.int .i64 b)).setCell ⟨g, k * 4 + 2, none⟩ (.int .i64 c)).setCell ⟨g, k * 4 + 3, none⟩ (.int .i64 d)) g (set4 xs k a b c d) := ((((h.set a).set b).set c).set d)

theorem grown_set4 {w wr : World} {g : Nat} {row : Option Nat} (h : w.grownBy wr row) (hr : row = some g ∨ w.heap.size ≤ g) (k0 k1 k2 k3 : Nat) (v0 v1 v2 v3 : Value) :
    w.grownBy ((((wr.setCell ⟨g, k0, none⟩ v0).setCell ⟨g, k1, none⟩ v1).setCell ⟨g, k2, none⟩ v2).setCell ⟨g, k3, none⟩ v3) row := by
  have one : ∀ {wx : World} (k : Nat) (v : Value), w.grownBy wx row → w.grownBy (wx.setCell ⟨g, k, none⟩ v) row := fun {wx} k v hx =>
    ⟨hx.os, hx.tape, hx.output, by simpa using hx.size, fun j hj hne => (Below.heap_setCell _ _ _ _ (by
      rcases hr with rfl | hr
      · intro q; apply hne; rw [q]
      · simp; omega)).trans (hx.block j hj hne)⟩
  exact (one _ _ (one _ _ (one _ _ (one _ _ h))))
theorem eqFlagOp (a b c d : Int) (w : World) :
    Calls Try.prog 56 #[.agg #[.int .i64 a, .int .i64 b, .int .i64 c, .int .i64 d], .agg #[.int .i64 a, .int .i64 b, .int .i64 c, .int .i64 d]] w fun r w' => r = .returned (.bool true) ∧ ∃ o1 o2, w' = (w.alloc o1).alloc o2 := by
  go_enter Try.func56, Try.ntmps56
  go_wp2
  go_ret
  exact ⟨rfl, _, _, rfl⟩

set_option maxHeartbeats 2000000 in
theorem eqFlagOpS (w : World) (a b : Option Addr) (ca cb n : Nat) (xs : List Int) (ha : IRow w a xs) (hb : IRow w b xs) (lx : xs.length = 4 * n) (bx : n ≤ 2000000) :
    Calls Try.prog 27 #[.slice a n ca, .slice b n cb] w fun e w' => e = .returned (.bool true) ∧ w.grownBy w' none := by
  have HX := hide lx
  clear lx
  go_enter Try.func27, Try.ntmps27
  go_wp2
  go_loopw [5] (fun j wr => ∃ k : Nat, k ≤ n ∧ j = .int .i64 k ∧ w.grownBy wr none) (fun j _ => n - (intOf j).toNat)
  case atStart => exact ⟨0, Nat.zero_le _, rfl, World.grownBy.refl _ _⟩
  case round =>
    obtain ⟨k, hk, rfl, hg⟩ := hrel
    by_cases hlt : k < n
    · obtain ⟨g1, o1, rfl, p0, p1, p2, p3⟩ := (ha.kept hg).at4 HX.out hlt
      obtain ⟨g2, o2, rfl, q0, q1, q2, q3⟩ := (hb.kept hg).at4 HX.out hlt
      clear ha hb
      go_wp2
      go_region_with (go_at_call 56; refine (eqFlagOp _ _ _ _ _).mono ?_; rintro e w' ⟨rfl, o5, o6, rfl⟩)
      all_goals
        go_wp2
        go_roundw
        case rel => exact ⟨k + 1, by omega, by go_num, grownBy_drew (grownBy_alloc (grownBy_alloc hg _) _)⟩
        case measure => simp [intOf]; omega
    · go_wp2
      go_ret
      exact ⟨rfl, hg⟩
theorem toFlagOp (a b c d : Int) (w : World) :
    Calls Try.prog 23 #[.agg #[.int .i64 a, .int .i64 b, .int .i64 c, .int .i64 d]] w fun r w' => r = .returned (.agg #[.int .i64 a, .int .i64 b, .int .i64 c, .int .i64 d]) ∧ ∃ o1 o2 o3, w' = ((w.alloc o1).alloc o2).alloc o3 := by
  go_enter Try.func23, Try.ntmps23
  go_wp2
  refine bodyPost_ret (v := .agg #[.int .i64 a, .int .i64 b, .int .i64 c, .int .i64 d]) ?_ rfl ⟨rfl, _, _, _, rfl⟩
  rw [results_one rfl]; go_simp
theorem Try.infoFlagOp : (Try.prog.info? 27).map (fun i => (i.zero, i.size, i.bytes)) = some (some (.agg #[.int .i64 0, .int .i64 0, .int .i64 0, .int .i64 0]), 4, 32) := by kernel_rfl
theorem made4 (n : Nat) : (madeCells (Value.agg #[.int .i64 0, .int .i64 0, .int .i64 0, .int .i64 0]).cells (n * 4)).toList = (List.replicate (4 * n) (0 : Int)).map (Value.int .i64) := by
  have hz : ∀ j, j < 4 → (Value.agg #[.int .i64 0, .int .i64 0, .int .i64 0, .int .i64 0]).cells[j]! = .int .i64 0 := by
    intro j hj
    obtain rfl | rfl | rfl | rfl : j = 0 ∨ j = 1 ∨ j = 2 ∨ j = 3 := by omega
    all_goals rfl
  have hs : (Value.agg #[.int .i64 0, .int .i64 0, .int .i64 0, .int .i64 0]).cells.size = 4 := rfl
  apply List.ext_getElem
  · simp [size_madeCells]; omega
  · intro i h1 h2
    simp only [madeCells, hs, Array.toList_map, List.getElem_map, List.getElem_replicate]
    exact hz _ (Nat.mod_lt _ (by decide))
theorem own_of_row4 {w : World} {base g n cap : Nat} {xs : List Int} (h : w.ownsRow base 27 4 (.slice (some ⟨g, 0, none⟩) n cap) n (xs.map (Value.int .i64))) : Own w g xs := by
  intro i hi
  rcases h with ⟨hl, ⟨e, _⟩ | ⟨g', cap', cur, e, _, hgg, hn, _, hsz, ht⟩⟩
  · cases e
  · cases e
    simp at hl
    have hc : cur[i]? = some (.int .i64 (xs[i]?.getD 0)) := by
      have : (cur.toList.take (n * 4))[i]? = (xs.map (Value.int .i64))[i]? := by rw [ht]
      rw [List.getElem?_take, if_pos (by omega)] at this
      simpa [hi] using this
    refine ⟨?_, ?_⟩
    · simp [World.cell?, hgg, hc]
    · simp [World.frozen?, hgg]

set_option maxHeartbeats 2000000 in
theorem toFlagOpS (w : World) (a : Option Addr) (ca n : Nat) (xs : List Int) (ha : IRow w a xs) (lx : xs.length = 4 * n) (bx : n ≤ 2000000) :
    Calls Try.prog 26 #[.slice a n ca] w fun e w' => e = .returned (.slice (some ⟨w.heap.size, 0, none⟩) n n) ∧ Own w' w.heap.size xs ∧ w.heap.size < w'.heap.size ∧ w.grownBy w' none := by
  obtain ⟨i, hi, hz0, hz1, hz2⟩ := info_parts Try.infoFlagOp
  have HX := hide lx
  clear lx
  go_enter Try.func26, Try.ntmps26
  go_wp2_with (first | (at_make; refine wpList_make_full _ rfl _ _ 23 rfl w.heap.size 27 i (.agg #[.int .i64 0, .int .i64 0, .int .i64 0, .int .i64 0]) 4 Try.underlying23 hi hz0 hz1 _ _ _ _ n rfl rfl rfl rfl ?c1 ?c2 ?c3 ?_))
  case c1 => rw [hz2]; omega
  case c2 => unfold maxLen; omega
  case c3 => exact Nat.le_refl _
  intro w1 hown hg
  have ho : Own w1 w.heap.size (List.replicate (4 * n) 0) := own_of_row4 (base := w.heap.size) (n := n) (cap := n) (by rw [← made4]; exact hown)
  have hs : w.heap.size < w1.heap.size := (hown.lt _ rfl).2
  clear hown
  go_wp2
  go_loopw [4] (fun j wr => ∃ (k : Nat) (zs : List Int), k ≤ n ∧ j = .int .i64 k ∧ zs.length = 4 * n ∧ Own wr w.heap.size zs ∧ (∀ i, i < k * 4 → el zs i = el xs i) ∧ w.heap.size < wr.heap.size ∧ w.grownBy wr none) (fun j _ => n - (intOf j).toNat)
  case atStart => exact ⟨0, _, Nat.zero_le _, rfl, by simp, ho, fun i hi => absurd hi (by omega), hs, hg⟩
  case round =>
    obtain ⟨k, zs, hk, rfl, hl, hown, heq, hsz, hgr⟩ := hrel
    have HE := hide heq
    have HL := hide hl
    have HO := hide hown
    have HS := hide hsz
    clear heq hl
    by_cases hlt : k < n
    · obtain ⟨g1, o1, rfl, p0, p1, p2, p3⟩ := (ha.kept hgr).at4 HX.out hlt
      clear ha hown hsz
      go_wp2_with fail
      refine (toFlagOp _ _ _ _ _).mono ?_
      rintro e w' ⟨rfl, o5, o6, o7, rfl⟩
      obtain ⟨X, hX⟩ : ∃ X : World, X = ((wr.alloc o5).alloc o6).alloc o7 := ⟨_, rfl⟩
      rw [← hX]
      have hx : wr.grownBy X none := by rw [hX]; exact grownBy_alloc (grownBy_alloc (grownBy_alloc (World.grownBy.refl _ _) _) _) _
      have HX2 : Hid (w.grownBy X none) := hide (grownBy_trans hgr hx)
      have HO2 := hide (HO.out.kept hx (by simp))
      have HS2 : Hid (w.heap.size < X.heap.size) := hide (Nat.lt_of_lt_of_le HS.out hx.size)
      clear hX hx p0 p1 p2 p3 hgr
      obtain ⟨⟨c0, c1, c2, c3⟩, f0, f1, f2, f3⟩ := HO2.out.at4 HL.out hlt
      go_wp2_with fail
      go_roundw
      case rel =>
        have hk4 : k * 4 + 3 < zs.length := by have := HL.out; omega
        obtain ⟨n0, n1, n2, n3⟩ := set4_new (a := el xs (k * 4)) (b := el xs (k * 4 + 1)) (c := el xs (k * 4 + 2)) (d := el xs (k * 4 + 3)) hk4
        exact ⟨k + 1, set4 zs k _ _ _ _, by omega, by go_num, by rw [set4_len]; exact HL.out, HO2.out.set4 k _ _ _ _, snoc4 (fun i hi => (set4_old hi).trans (HE.out i hi)) n0 n1 n2 n3, by simpa using HS2.out, grown_set4 HX2.out (.inr (Nat.le_refl _)) _ _ _ _ _ _ _ _⟩
      case measure => simp [intOf]; omega
    · clear hown hsz
      go_wp2
      go_ret
      have e : zs = xs := ext_of (HL.out.trans HX.out.symm) (fun i hi => HE.out i (by have := HL.out; omega))
      exact ⟨rfl, by rw [← e]; exact HO.out, HS.out, hgr⟩

end Go.Proofs.Ytobegcbnjlnifaa

namespace Go.Proofs.Ytobegcbnjlnifaa.Pl
set_option linter.unusedVariables false
structure Fo where
  k : Int
  z : Int
  a : Int
  b : Int
def foNo : Fo := ⟨0, 0, 0, 0⟩
def sumK (k : Int) : Bool := (k == 1) || (k == 2)
def foOk (x : Fo) : Bool := (okv x.z x.a && okv x.z x.b) && ((decide (1 ≤ x.k) && decide (x.k ≤ 5)) && (decide (x.k ≤ 3) || (x.b == 0)))
/-- a note -/
structure Lz where
  b : Int
  l : Fo
  r : Fo
def lzNo : Lz := ⟨0, foNo, foNo⟩
def note (z : Lz) (x : Fo) : Lz := ⟨z.b, x, if sumK x.k = true then x else z.r⟩
def foAt (ys : List Int) (i : Nat) : Fo := ⟨el ys (i * 4), el ys (i * 4 + 1), el ys (i * 4 + 2), el ys (i * 4 + 3)⟩
def allFo (ys : List Int) : Nat → Bool
  | 0 => true
  | n + 1 => allFo ys n && foOk (foAt ys n)
def laz (ys : List Int) (f : Int) : Nat → Lz
  | 0 => ⟨f, foNo, foNo⟩
  | n + 1 => note (laz ys f n) (foAt ys n)
def frOk (ys : List Int) (f : Int) (n : Nat) : Bool := flags f && (decide ((n : Int) ≤ 40) && allFo ys n)
def lazV (ys : List Int) (f : Int) (n : Nat) : Lz := if frOk ys f n = true then laz ys f n else lzNo
/- flags stay flags -/
theorem allFo_no {ys : List Int} {n k : Nat} (hk : k < n) (h : foOk (foAt ys k) = false) : allFo ys n = false := by
  induction n with
  | zero => omega
  | succ n ih =>
    unfold allFo
    by_cases e : k = n
    · subst e; rw [h]; simp
    · rw [ih (by omega)]; rfl
theorem allFo_at {ys : List Int} {n k : Nat} (hk : k < n) (h : allFo ys n = true) : foOk (foAt ys k) = true ∧ allFo ys k = true := by
  induction n with
  | zero => omega
  | succ n ih =>
    simp only [allFo, Bool.and_eq_true] at h
    by_cases e : k = n
    · subst e; exact ⟨h.2, h.1⟩
    · exact ih (by omega) h.1
end Go.Proofs.Ytobegcbnjlnifaa.Pl
namespace Go.Proofs.Ytobegcbnjlnifaa
abbrev foA (x : Pl.Fo) : Array Value := #[iv x.k, iv x.z, iv x.a, iv x.b]
abbrev lzA (z : Pl.Lz) : Array Value := #[iv z.b, iv z.l.k, iv z.l.z, iv z.l.a, iv z.l.b, iv z.r.k, iv z.r.z, iv z.r.a, iv z.r.b]
/-- numbers that an int holds -/
structure FoW (x : Pl.Fo) : Prop where
  k : (Lit.int .i64 x.k).wf = true
  z : (Lit.int .i64 x.z).wf = true
  a : (Lit.int .i64 x.a).wf = true
  b : (Lit.int .i64 x.b).wf = true
end Go.Proofs.Ytobegcbnjlnifaa

namespace Go.Proofs.Ytobegcbnjlnifaa
open Go.RowKit
set_option linter.unusedVariables false
set_option maxRecDepth 100000 in
theorem eqLz (w : World) (z : Pl.Lz) : Calls Try.prog 28 #[.agg (lzA z), .agg (lzA z)] w fun e w' => e = .returned (.bool true) ∧ Kept 0 0 w w' := by
  go_enter Try.func28, Try.ntmps28
  go_wp2_with (go_at_call 56; (first | (with_reducible refine (eqFlagOp z.l.k z.l.z z.l.a z.l.b _).mono ?_) | (with_reducible refine (eqFlagOp z.r.k z.r.z z.r.a z.r.b _).mono ?_)); rintro e9 w9 ⟨rfl, o1, o2, rfl⟩)
  go_ret
  exact ⟨rfl, by repeat (first | with_reducible exact Kept.refl _ _ _ | refine kept_new ?_ _)⟩
theorem szFo (w : World) (a : Option Addr) (ca n : Nat) (left : Int) (hn : n ≤ 9223372036854775807) (l0 : 0 ≤ left) (l1 : left ≤ 2000000) :
    Calls Try.prog 25 #[.slice a n ca, .int .i64 left] w fun e w' => e = .returned (.int .i64 (if left - (n : Int) < 0 then -1 else left - (n : Int))) ∧ w' = w := by
  by_cases h : left - (n : Int) < 0
  all_goals
    go_enter Try.func25, Try.ntmps25
    go_wp2
    go_ret
    exact ⟨rfl, rfl⟩
end Go.Proofs.Ytobegcbnjlnifaa

namespace Go.Proofs.Ytobegcbnjlnifaa
open Go.RowKit
set_option linter.unusedVariables false

theorem l1Size_no (s : Int) (w : World) (h1 : ¬ s = 1) (h2 : ¬ s = 2) : Calls Try.prog 82 #[iv s] w fun e w' => e = .returned (.bool false) ∧ w' = w := by
  have k1 : (s == 1) = false := by simpa using h1
  have k2 : (s == 2) = false := by simpa using h2
  go_enter Try.func82, Try.ntmps82
  go_wp2
  go_ret
  exact ⟨rfl, rfl⟩

theorem l1Size1 (w : World) : Calls Try.prog 82 #[iv 1] w fun e w' => e = .returned (.bool true) ∧ w' = w := by
  go_enter Try.func82, Try.ntmps82
  go_wp2
  go_ret
  exact ⟨rfl, rfl⟩

theorem l1Size2 (w : World) : Calls Try.prog 82 #[iv 2] w fun e w' => e = .returned (.bool true) ∧ w' = w := by
  go_enter Try.func82, Try.ntmps82
  go_wp2
  go_ret
  exact ⟨rfl, rfl⟩
end Go.Proofs.Ytobegcbnjlnifaa

namespace Go.Proofs.Ytobegcbnjlnifaa
open Go.RowKit
set_option linter.unusedVariables false

theorem l1Top1 (w : World) : Calls Try.prog 83 #[iv 1] w fun e w' => e = .returned (iv 256) ∧ w' = w := by
  go_enter Try.func83, Try.ntmps83
  go_wp2
  go_ret
  exact ⟨rfl, rfl⟩

theorem l1Top2 (w : World) : Calls Try.prog 83 #[iv 2] w fun e w' => e = .returned (iv 65536) ∧ w' = w := by
  go_enter Try.func83, Try.ntmps83
  go_wp2
  go_ret
  exact ⟨rfl, rfl⟩

theorem l1Value (s v : Int) (w : World) :
    Calls Try.prog 52 #[iv s, iv v] w fun e w' => e = .returned (.bool (Pl.okv s v)) ∧ w' = w := by
  by_cases h1 : s = 1
  · subst h1
    go_enter Try.func52, Try.ntmps52
    go_wp2_with fail
    refine (l1Size1 _).mono ?_
    rintro e w' ⟨rfl, rfl⟩
    go_wp2_with fail
    refine (l1Top1 _).mono ?_
    rintro e w' ⟨rfl, rfl⟩
    go_wp2_with fail
    refine (l1In _ _ _ _).mono ?_
    rintro e w' ⟨rfl, rfl⟩
    go_wp2_with fail
    go_ret
    exact ⟨rB (by rw [Bool.eq_iff_iff]; simp [Pl.okv, Pl.top]; omega), rfl⟩
  · by_cases h2 : s = 2
    · subst h2
      go_enter Try.func52, Try.ntmps52
      go_wp2_with fail
      refine (l1Size2 _).mono ?_
      rintro e w' ⟨rfl, rfl⟩
      go_wp2_with fail
      refine (l1Top2 _).mono ?_
      rintro e w' ⟨rfl, rfl⟩
      go_wp2_with fail
      refine (l1In _ _ _ _).mono ?_
      rintro e w' ⟨rfl, rfl⟩
      go_wp2_with fail
      go_ret
      exact ⟨rB (by rw [Bool.eq_iff_iff]; simp [Pl.okv, Pl.top]; omega), rfl⟩
    · go_enter Try.func52, Try.ntmps52
      go_wp2_with fail
      refine (l1Size_no s _ h1 h2).mono ?_
      rintro e w' ⟨rfl, rfl⟩
      go_wp2_with fail
      go_ret
      exact ⟨rB (by simp [Pl.okv, h1, h2]), rfl⟩

end Go.Proofs.Ytobegcbnjlnifaa

namespace Go.Proofs.Ytobegcbnjlnifaa
open Go.RowKit
set_option linter.unusedVariables false

theorem l1Flags (f : Int) (w : World) :
    Calls Try.prog 39 #[iv f] w fun e w' => e = .returned (.bool (Pl.flags f)) ∧ w' = w := by
  go_enter Try.func39, Try.ntmps39
  go_wp2_with fail
  refine (l1In f 0 31 _).mono ?_
  rintro e w' ⟨rfl, rfl⟩
  go_wp2_with fail
  go_ret
  exact ⟨rfl, rfl⟩

end Go.Proofs.Ytobegcbnjlnifaa

namespace Go.Proofs.Ytobegcbnjlnifaa
open Go.RowKit
set_option linter.unusedVariables false

theorem signedAs8 (v : Int) (w : World) (lo : -9223372036854775808 ≤ v) (hi : v ≤ 9223372036854775807) :
    Calls Try.prog 100 #[iv v] w fun e w' => e = .returned (.tuple #[iv (Pl.sgnV 1 v), .bool (Pl.okv 1 v)]) ∧ w' = w := by
  by_cases h : 0 ≤ v ∧ v < 256
  · obtain ⟨h0, h1⟩ := h
    have hs : IntKind.u8.signed = false := rfl
    have hm : IntKind.u8.max = 255 := by decide
    have hb : bits .xor .u8 255 0 = 255 := by decide
    by_cases h : 127 < v
    all_goals
      go_enter Try.func100, Try.ntmps100
      go_wp2
      go_ret2
      exact ⟨rIB (by simp [Pl.sgnV, Pl.okv, Pl.sg, Pl.top, h0, h1]; omega) (by simp [Pl.okv, Pl.top, h0, h1]), rfl⟩
  · go_enter Try.func100, Try.ntmps100
    go_wp2
    go_ret2
    have k : Pl.okv 1 v = false := by
      cases c : Pl.okv 1 v
      · rfl
      · have := Pl.top_ok c; omega
    exact ⟨rIB (by simp [Pl.sgnV, k]) k.symm, rfl⟩

theorem signedAs16 (v : Int) (w : World) (lo : -9223372036854775808 ≤ v) (hi : v ≤ 9223372036854775807) :
    Calls Try.prog 101 #[iv v] w fun e w' => e = .returned (.tuple #[iv (Pl.sgnV 2 v), .bool (Pl.okv 2 v)]) ∧ w' = w := by
  by_cases h : 0 ≤ v ∧ v < 65536
  · obtain ⟨h0, h1⟩ := h
    have hs : IntKind.u16.signed = false := rfl
    have hm : IntKind.u16.max = 65535 := by decide
    have hb : bits .xor .u16 65535 0 = 65535 := by decide
    by_cases h : 32767 < v
    all_goals
      go_enter Try.func101, Try.ntmps101
      go_wp2
      go_ret2
      exact ⟨rIB (by simp [Pl.sgnV, Pl.okv, Pl.sg, Pl.top, h0, h1]; omega) (by simp [Pl.okv, Pl.top, h0, h1]), rfl⟩
  · have hw : IntKind.u16.wrap v = v % 65536 := IntKind.wrap_u16 v
    go_enter Try.func101, Try.ntmps101
    go_wp2
    go_ret2
    have k : Pl.okv 2 v = false := by
      cases c : Pl.okv 2 v
      · rfl
      · have := Pl.top_ok c; omega
    exact ⟨rIB (by simp [Pl.sgnV, k]) k.symm, rfl⟩

theorem signedOf (s v : Int) (w : World) (lo : -9223372036854775808 ≤ v) (hi : v ≤ 9223372036854775807) :
    Calls Try.prog 84 #[iv s, iv v] w fun e w' => e = .returned (.tuple #[iv (Pl.sgnV s v), .bool (Pl.okv s v)]) ∧ w' = w := by
  by_cases h1 : s = 1
  · subst h1
    go_enter Try.func84, Try.ntmps84
    go_wp2_with fail
    refine (signedAs8 v _ lo hi).mono ?_
    rintro e w' ⟨rfl, rfl⟩
    go_wp2_with fail
    go_ret2
    exact ⟨rfl, rfl⟩
  · by_cases h2 : s = 2
    · subst h2
      go_enter Try.func84, Try.ntmps84
      go_wp2_with fail
      refine (signedAs16 v _ lo hi).mono ?_
      rintro e w' ⟨rfl, rfl⟩
      go_wp2_with fail
      go_ret2
      exact ⟨rfl, rfl⟩
    · have k : Pl.okv s v = false := by simp [Pl.okv, h1, h2]
      have k1 : (s == 1) = false := by simpa using h1
      have k2 : (s == 2) = false := by simpa using h2
      go_enter Try.func84, Try.ntmps84
      go_wp2_with fail
      go_ret2
      exact ⟨rIB (by simp [Pl.sgnV, k]) k.symm, rfl⟩

end Go.Proofs.Ytobegcbnjlnifaa

namespace Go.Proofs.Ytobegcbnjlnifaa
open Go.RowKit
set_option linter.unusedVariables false

/-! ### the program's own -/

theorem isFlags (x : Int) (w : World) :
    Calls Try.prog 47 #[iv x] w fun e w' => e = .returned (.bool (Pl.flags x)) ∧ w' = w := by
  by_cases h0 : 0 ≤ x
  all_goals
    by_cases h1 : x ≤ 31
    all_goals
      go_enter Try.func47, Try.ntmps47
      go_wp2
      go_ret
      exact ⟨rB (by simp [Pl.flags]; omega), rfl⟩

/-! ### the model's -/

end Go.Proofs.Ytobegcbnjlnifaa

namespace Go.Proofs.Ytobegcbnjlnifaa
set_option linter.unusedVariables false

theorem signedPair (s a b : Int) (w : World) (la : -9223372036854775808 ≤ a) (ha : a ≤ 9223372036854775807) (lb : -9223372036854775808 ≤ b) (hb : b ≤ 9223372036854775807) :
    Calls Try.prog 54 #[iv s, iv a, iv b] w fun e w' => e = .returned (.tuple #[iv (Pl.sgnV s a), iv (Pl.sgnV s b), .bool (Pl.okv s a && Pl.okv s b)]) ∧ w' = w := by
  cases ka : Pl.okv s a
  all_goals
    cases kb : Pl.okv s b
    all_goals
      go_enter Try.func54, Try.ntmps54
      go_wp2_with fail
      refine (signedOf s a _ la ha).mono ?_
      rintro e w' ⟨rfl, rfl⟩
      go_wp2_with fail
      refine (signedOf s b _ lb hb).mono ?_
      rintro e w' ⟨rfl, rfl⟩
      go_wp2_with fail
      go_ret3
      exact ⟨rIIB rfl rfl rfl, rfl⟩

end Go.Proofs.Ytobegcbnjlnifaa

namespace Go.Proofs.Ytobegcbnjlnifaa
open Go.RowKit
set_option linter.unusedVariables false
theorem specFo (w : World) (x : Pl.Fo) : Calls Try.prog 22 #[.agg (foA x)] w fun e w' => e = .returned (.bool (Pl.foOk x)) ∧ Kept 0 0 w w' := by
  cases h1 : Pl.okv x.z x.a
  · go_enter Try.func22, Try.ntmps22
    go_wp2_with (go_at_call 52; refine st (l1Value _ _ _) ?_; rw [h1])
    go_ret
    exact ⟨rB (by simp [Pl.foOk, h1]), kept_alloc _ _⟩
  · cases h2 : Pl.okv x.z x.b
    · go_enter Try.func22, Try.ntmps22
      go_wp2_with (go_at_call 52; refine st (l1Value _ _ _) ?_; first | rw [h1] | rw [h2])
      go_ret
      exact ⟨rB (by simp [Pl.foOk, h1, h2]), kept_alloc _ _⟩
    · by_cases h3 : 1 ≤ x.k ∧ x.k ≤ 5
      · have h3b : (decide (1 ≤ x.k) && decide (x.k ≤ 5)) = true := by simp [h3]
        by_cases h4 : x.k ≤ 3
        all_goals
          go_enter Try.func22, Try.ntmps22
          go_wp2_with (first | (go_at_call 52; refine st (l1Value _ _ _) ?_; first | rw [h1] | rw [h2]) | (go_at_call 53; refine st (l1In _ _ _ _) ?_; rw [h3b]))
          go_ret
          exact ⟨rB (by simp [Pl.foOk, h1, h2, h3, h4]), kept_alloc _ _⟩
      · have h3b : (decide (1 ≤ x.k) && decide (x.k ≤ 5)) = false := by simp; omega
        go_enter Try.func22, Try.ntmps22
        go_wp2_with (first | (go_at_call 52; refine st (l1Value _ _ _) ?_; first | rw [h1] | rw [h2]) | (go_at_call 53; refine st (l1In _ _ _ _) ?_; rw [h3b]))
        go_ret
        exact ⟨rB (by simp [Pl.foOk, h1, h2, h3b]), kept_alloc _ _⟩
end Go.Proofs.Ytobegcbnjlnifaa

namespace Go.Proofs.Ytobegcbnjlnifaa
open Go.RowKit
set_option linter.unusedVariables false
theorem specSumA (w : World) (x : Pl.Fo) : Calls Try.prog 58 #[.agg (foA x)] w fun e w' => e = .returned (.bool (Pl.sumK x.k)) ∧ ∃ o, w' = w.alloc o := by
  obtain ⟨k, z, a, b⟩ := x
  by_cases h1 : k = 1
  · subst h1
    go_enter Try.func58, Try.ntmps58
    go_wp2_with fail
    go_ret
    exact ⟨rfl, _, rfl⟩
  · by_cases h2 : k = 2
    · subst h2
      go_enter Try.func58, Try.ntmps58
      go_wp2_with fail
      go_ret
      exact ⟨rfl, _, rfl⟩
    · have k1 : (k == 1) = false := by simpa using h1
      have k2 : (k == 2) = false := by simpa using h2
      go_enter Try.func58, Try.ntmps58
      go_wp2_with fail
      go_ret
      exact ⟨rB (by simp [Pl.sumK, h1, h2]), _, rfl⟩
theorem specNote (w : World) (z : Pl.Lz) (x : Pl.Fo) : Calls Try.prog 41 #[.agg (lzA z), .agg (foA x)] w fun e w' => e = .returned (.agg (lzA (Pl.note z x))) ∧ Kept 0 0 w w' := by
  cases S : Pl.sumK x.k
  all_goals
    go_enter Try.func41, Try.ntmps41
    go_wp2_with (go_at_call 58; refine (specSumA _ x).mono ?_; rw [S]; rintro e9 w9 ⟨rfl, o9, rfl⟩)
    refine bodyPost_ret (v := .agg (lzA (Pl.note z x))) ?_ rfl ⟨rfl, ?_⟩
    · rw [results_one rfl]; go_simp; simp [Pl.note, S]
    · repeat (first | with_reducible exact Kept.refl _ _ _ | refine kept_new ?_ _ | refine kept_set ?_ _ _ _ (.inr (by simp)))
theorem results_c1t {fn : Func} {p q : Tmp} {ty : TypeId} (h : fn.results = #[.cell p ty, .tmp q]) (tmps : Array Value) (P : Program) (w : World) :
    (results fn tmps).run P w = ((asAddr (tmps.getD p undef)).run P w).andThen fun a w₁ => ((loadVar ty a).run P w₁).andThen fun v w₂ => .ok (.tuple #[v, tmps.getD q undef]) w₂ := by
  simp only [results, h]
  simp [Sem.run_bind, Result.andThen]
end Go.Proofs.Ytobegcbnjlnifaa

namespace Go.Proofs.Ytobegcbnjlnifaa
open Go.RowKit
set_option linter.unusedVariables false
theorem implSum (k : Int) (w : World) : Calls Try.prog 49 #[iv k] w fun e w' => e = .returned (.bool (Pl.sumK k)) ∧ w' = w := by
  by_cases h1 : k = 1
  · subst h1
    go_enter Try.func49, Try.ntmps49
    go_wp2_with fail
    go_ret
    exact ⟨rfl, rfl⟩
  · have k1 : (k == 1) = false := by simpa using h1
    go_enter Try.func49, Try.ntmps49
    go_wp2_with fail
    go_ret
    exact ⟨rB (by simp [Pl.sumK, h1]), rfl⟩
theorem implTakesB (k : Int) (w : World) : Calls Try.prog 55 #[iv k] w fun e w' => e = .returned (.bool (Pl.sumK k || (k == 3))) ∧ w' = w := by
  cases S : Pl.sumK k
  all_goals
    go_enter Try.func55, Try.ntmps55
    go_wp2_with (go_at_call 49; refine st (implSum k _) ?_; rw [S])
    go_ret
    exact ⟨rB (by simp), rfl⟩
theorem implFo (w : World) (x : Pl.Fo) (wf : FoW x) : Calls Try.prog 24 #[.agg (foA x)] w fun e w' => e = .returned (.bool (Pl.foOk x)) ∧ Kept 0 0 w w' := by
  obtain ⟨la, ha⟩ := bounds_i64 wf.a
  obtain ⟨lb, hb⟩ := bounds_i64 wf.b
  obtain ⟨k, z, a, b⟩ := x
  simp only at la ha lb hb
  clear wf
  cases P : (Pl.okv z a && Pl.okv z b)
  · go_enter Try.func24, Try.ntmps24
    go_wp2_with (go_at_call 54; refine st (signedPair z a b _ la ha lb hb) ?_; rw [P])
    go_ret
    exact ⟨rB (by simp only [Pl.foOk]; rw [P]; rfl), kept_alloc _ _⟩
  · by_cases h1 : 1 ≤ k
    · by_cases h5 : k ≤ 5
      · cases T : (Pl.sumK k || (k == 3))
        · have h3 : ¬ k ≤ 3 := by simp [Pl.sumK] at T; omega
          have E : Hid (Pl.foOk ⟨k, z, a, b⟩ = (b == 0)) := hide (by simp only [Pl.foOk]; rw [P, decide_eq_true h1, decide_eq_true h5, decide_eq_false h3]; simp)
          go_enter Try.func24, Try.ntmps24
          go_wp2_with (first | (go_at_call 54; refine st (signedPair z a b _ la ha lb hb) ?_; rw [P]) | (go_at_call 55; refine st (implTakesB k _) ?_; rw [T]))
          go_ret
          exact ⟨rB E.out.symm, kept_alloc _ _⟩
        · have h3 : k ≤ 3 := by simp [Pl.sumK] at T; omega
          have E : Hid (Pl.foOk ⟨k, z, a, b⟩ = true) := hide (by simp only [Pl.foOk]; rw [P, decide_eq_true h1, decide_eq_true h5, decide_eq_true h3]; simp)
          go_enter Try.func24, Try.ntmps24
          go_wp2_with (first | (go_at_call 54; refine st (signedPair z a b _ la ha lb hb) ?_; rw [P]) | (go_at_call 55; refine st (implTakesB k _) ?_; rw [T]))
          go_ret
          exact ⟨rB E.out.symm, kept_alloc _ _⟩
      · have E : Hid (Pl.foOk ⟨k, z, a, b⟩ = false) := hide (by simp only [Pl.foOk]; rw [decide_eq_false h5]; simp)
        go_enter Try.func24, Try.ntmps24
        go_wp2_with (go_at_call 54; refine st (signedPair z a b _ la ha lb hb) ?_; rw [P])
        go_ret
        exact ⟨rB E.out.symm, kept_alloc _ _⟩
    · have E : Hid (Pl.foOk ⟨k, z, a, b⟩ = false) := hide (by simp only [Pl.foOk]; rw [decide_eq_false h1]; simp)
      go_enter Try.func24, Try.ntmps24
      go_wp2_with (go_at_call 54; refine st (signedPair z a b _ la ha lb hb) ?_; rw [P])
      go_ret
      exact ⟨rB E.out.symm, kept_alloc _ _⟩
theorem implNote (w : World) (z : Pl.Lz) (x : Pl.Fo) : Calls Try.prog 38 #[.agg (lzA z), .agg (foA x)] w fun e w' => e = .returned (.agg (lzA (Pl.note z x))) ∧ Kept 0 0 w w' := by
  cases S : Pl.sumK x.k
  all_goals
    go_enter Try.func38, Try.ntmps38
    go_wp2_with (go_at_call 49; refine st (implSum x.k _) ?_; rw [S])
    refine bodyPost_ret (v := .agg (lzA (Pl.note z x))) ?_ rfl ⟨rfl, ?_⟩
    · rw [results_one rfl]; go_simp; simp [Pl.note, S]
    · repeat (first | with_reducible exact Kept.refl _ _ _ | refine kept_new ?_ _ | refine kept_set ?_ _ _ _ (.inr (by simp)))
end Go.Proofs.Ytobegcbnjlnifaa

namespace Go.Proofs.Ytobegcbnjlnifaa
open Go.RowKit
set_option linter.unusedVariables false
theorem wfo {n : Int} (h : -9223372036854775808 ≤ n ∧ n ≤ 9223372036854775807) : (Lit.int .i64 n).wf = true := by
  have e1 : IntKind.i64.min = -9223372036854775808 := rfl
  have e2 : IntKind.i64.max = 9223372036854775807 := rfl
  simp [Lit.wf]
  omega
end Go.Proofs.Ytobegcbnjlnifaa

namespace Go.Proofs.Ytobegcbnjlnifaa
open Go.RowKit
set_option linter.unusedVariables false
theorem Blk.set9 {w : World} {b : Nat} {c0 c1 c2 c3 c4 c5 c6 c7 c8 : Value} {ty : TypeId} (h : Blk w b #[c0, c1, c2, c3, c4, c5, c6, c7, c8] ty) (v0 v1 v2 v3 v4 v5 v6 v7 v8 : Value) :
    Blk (((((((((w.setCell ⟨b, 0, none⟩ v0).setCell ⟨b, 1, none⟩ v1).setCell ⟨b, 2, none⟩ v2).setCell ⟨b, 3, none⟩ v3).setCell ⟨b, 4, none⟩ v4).setCell ⟨b, 5, none⟩ v5).setCell ⟨b, 6, none⟩ v6).setCell ⟨b, 7, none⟩ v7).setCell ⟨b, 8, none⟩ v8) b #[v0, v1, v2, v3, v4, v5, v6, v7, v8] ty := by
  have h0 : Blk (w.setCell ⟨b, 0, none⟩ v0) b #[v0, c1, c2, c3, c4, c5, c6, c7, c8] ty := h.set 0 v0
  have h1 : Blk ((w.setCell ⟨b, 0, none⟩ v0).setCell ⟨b, 1, none⟩ v1) b #[v0, v1, c2, c3, c4, c5, c6, c7, c8] ty := h0.set 1 v1
  have h2 : Blk (((w.setCell ⟨b, 0, none⟩ v0).setCell ⟨b, 1, none⟩ v1).setCell ⟨b, 2, none⟩ v2) b #[v0, v1, v2, c3, c4, c5, c6, c7, c8] ty := h1.set 2 v2
  have h3 : Blk ((((w.setCell ⟨b, 0, none⟩ v0).setCell ⟨b, 1, none⟩ v1).setCell ⟨b, 2, none⟩ v2).setCell ⟨b, 3, none⟩ v3) b #[v0, v1, v2, v3, c4, c5, c6, c7, c8] ty := h2.set 3 v3
  have h4 : Blk (((((w.setCell ⟨b, 0, none⟩ v0).setCell ⟨b, 1, none⟩ v1).setCell ⟨b, 2, none⟩ v2).setCell ⟨b, 3, none⟩ v3).setCell ⟨b, 4, none⟩ v4) b #[v0, v1, v2, v3, v4, c5, c6, c7, c8] ty := h3.set 4 v4
  have h5 : Blk ((((((w.setCell ⟨b, 0, none⟩ v0).setCell ⟨b, 1, none⟩ v1).setCell ⟨b, 2, none⟩ v2).setCell ⟨b, 3, none⟩ v3).setCell ⟨b, 4, none⟩ v4).setCell ⟨b, 5, none⟩ v5) b #[v0, v1, v2, v3, v4, v5, c6, c7, c8] ty := h4.set 5 v5
  have h6 : Blk (((((((w.setCell ⟨b, 0, none⟩ v0).setCell ⟨b, 1, none⟩ v1).setCell ⟨b, 2, none⟩ v2).setCell ⟨b, 3, none⟩ v3).setCell ⟨b, 4, none⟩ v4).setCell ⟨b, 5, none⟩ v5).setCell ⟨b, 6, none⟩ v6) b #[v0, v1, v2, v3, v4, v5, v6, c7, c8] ty := h5.set 6 v6
  have h7 : Blk ((((((((w.setCell ⟨b, 0, none⟩ v0).setCell ⟨b, 1, none⟩ v1).setCell ⟨b, 2, none⟩ v2).setCell ⟨b, 3, none⟩ v3).setCell ⟨b, 4, none⟩ v4).setCell ⟨b, 5, none⟩ v5).setCell ⟨b, 6, none⟩ v6).setCell ⟨b, 7, none⟩ v7) b #[v0, v1, v2, v3, v4, v5, v6, v7, c8] ty := h6.set 7 v7
  have h8 : Blk (((((((((w.setCell ⟨b, 0, none⟩ v0).setCell ⟨b, 1, none⟩ v1).setCell ⟨b, 2, none⟩ v2).setCell ⟨b, 3, none⟩ v3).setCell ⟨b, 4, none⟩ v4).setCell ⟨b, 5, none⟩ v5).setCell ⟨b, 6, none⟩ v6).setCell ⟨b, 7, none⟩ v7).setCell ⟨b, 8, none⟩ v8) b #[v0, v1, v2, v3, v4, v5, v6, v7, v8] ty := h7.set 8 v8
  exact h8
theorem specOps (w : World) (a : Option Addr) (ca n : Nat) (ys : List Int) (ha : IRow w a ys) (ly : ys.length = 4 * n) (bn : n ≤ 2000000) :
    Calls Try.prog 40 #[.slice a n ca] w fun e w' => e = .returned (.bool (decide ((n : Int) ≤ 40) && Pl.allFo ys n)) ∧ Kept 0 0 w w' := by
  have HA := hide ha
  have HZ := hide ly
  clear ha ly
  go_enter Try.func40, Try.ntmps40
  go_wp2
  go_loopw [4, 7] (fun _ j wr => ∃ k : Nat, k ≤ n ∧ j = iv k ∧ Pl.allFo ys k = true ∧ Kept 0 0 w wr) (fun _ j _ => n - (intOf j).toNat)
  case atStart => exact ⟨0, Nat.zero_le _, rfl, rfl, Kept.refl _ _ _⟩
  case round =>
    obtain ⟨k, hk, rfl, heq, hkept⟩ := hrel
    have HE := hide heq
    have HK := hide hkept
    clear heq hkept
    by_cases hlt : k < n
    · obtain ⟨g1, o1, rfl, p0, p1, p2, p3⟩ := (HA.out.keptS HK.out).at4 HZ.out hlt
      cases hb : Pl.foOk (Pl.foAt ys k)
      · go_wp2_with (go_at_call 22; refine (specFo _ (Pl.foAt ys k)).mono ?_; rw [hb]; rintro e w2 ⟨rfl, k2⟩)
        go_ret
        exact ⟨rB (by rw [Pl.allFo_no hlt hb]; simp), (kept_new HK.out _).trans k2⟩
      · go_wp2_with (go_at_call 22; refine (specFo _ (Pl.foAt ys k)).mono ?_; rw [hb]; rintro e w2 ⟨rfl, k2⟩)
        go_round
        case rel => exact ⟨k + 1, by omega, by go_num, by simp [Pl.allFo, HE.out, hb], (kept_new HK.out _).trans k2⟩
        case measure => simp [intOf]; omega
    · obtain rfl : k = n := by omega
      go_wp2
      go_ret
      exact ⟨rB (by rw [HE.out]; simp), HK.out⟩
theorem frE (ys : List Int) (f : Int) (n : Nat) (h : Pl.flags f = true) : (decide ((n : Int) ≤ 40) && Pl.allFo ys n) = Pl.frOk ys f n := by simp [Pl.frOk, h]
theorem fr_ok {ys : List Int} {f : Int} {n : Nat} (h : Pl.frOk ys f n = true) : Pl.flags f = true ∧ n ≤ 40 ∧ Pl.allFo ys n = true := by
  simp only [Pl.frOk, Bool.and_eq_true, decide_eq_true_eq] at h
  exact ⟨h.1, by omega, h.2.2⟩
set_option maxRecDepth 100000 in
set_option maxHeartbeats 8000000 in
theorem specLazy (w : World) (f : Int) (a : Option Addr) (ca n : Nat) (ys : List Int) (ha : IRow w a ys) (ly : ys.length = 4 * n) (bn : n ≤ 2000000) :
    Calls Try.prog 14 #[iv f, .slice a n ca] w fun e w' => e = .returned (.tuple #[.agg (lzA (Pl.lazV ys f n)), .bool (Pl.frOk ys f n)]) ∧ Kept 0 0 w w' := by
  have HA := hide ha
  have HZ := hide ly
  clear ha ly
  have K0 := hide (kept_alloc w (.cells #[iv 0, iv 0, iv 0, iv 0, iv 0, iv 0, iv 0, iv 0, iv 0] 29))
  have B0 := hide (Blk.new w #[iv 0, iv 0, iv 0, iv 0, iv 0, iv 0, iv 0, iv 0, iv 0] 29)
  have q := B0.out.all
  have f0 := B0.out.fz
  cases F : Pl.flags f
  · have E : Hid (Pl.lazV ys f n = Pl.lzNo ∧ Pl.frOk ys f n = false) := hide (by simp [Pl.lazV, Pl.frOk, F])
    go_enter Try.func14, Try.ntmps14
    go_wp2_with (go_at_call 39; refine st (l1Flags _ _) ?_; rw [F])
    refine bodyPost_ret (v := .tuple #[.agg (lzA Pl.lzNo), .bool false]) ?_ rfl ⟨by rw [E.out.1, E.out.2], ?_⟩
    · rw [results_c1t rfl]; go_simp; simp [Pl.lzNo, Pl.foNo]
    · repeat (first | with_reducible exact K0.out | refine kept_set ?_ _ _ _ (.inr (by omega)))
  · cases G : Pl.frOk ys f n
    · have E : Hid (Pl.lazV ys f n = Pl.lzNo ∧ Pl.frOk ys f n = Pl.frOk ys f n) := hide (by simp [Pl.lazV, G])
      go_enter Try.func14, Try.ntmps14
      go_wp2_with (first | (go_at_call 39; refine st (l1Flags _ _) ?_; rw [F]) | (go_at_call 40; refine (specOps _ a ca n ys (HA.out.keptS K0.out) HZ.out bn).mono ?_; rw [frE ys f n F, G]; rintro e w2 ⟨rfl, k2⟩; replace K0 := hide (K0.out.trans k2); replace B0 := hide (B0.out.kept0 k2); clear q f0 k2; have q := B0.out.all; have f0 := B0.out.fz))
      refine bodyPost_ret (v := .tuple #[.agg (lzA Pl.lzNo), .bool false]) ?_ rfl ⟨by rw [E.out.1], ?_⟩
      · rw [results_c1t rfl]; go_simp; simp [Pl.lzNo, Pl.foNo]
      · repeat (first | with_reducible exact K0.out | refine kept_set ?_ _ _ _ (.inr (by omega)))
    · have E : Hid (Pl.lazV ys f n = Pl.laz ys f n) := hide (by simp [Pl.lazV, G])
      obtain ⟨_, n40, hall⟩ := fr_ok G
      have HAL := hide hall
      clear hall
      go_enter Try.func14, Try.ntmps14
      go_wp2_with (first | (go_at_call 39; refine st (l1Flags _ _) ?_; rw [F]) | (go_at_call 40; refine (specOps _ a ca n ys (HA.out.keptS K0.out) HZ.out bn).mono ?_; rw [frE ys f n F, G]; rintro e w2 ⟨rfl, k2⟩; replace K0 := hide (K0.out.trans k2); replace B0 := hide (B0.out.kept0 k2); clear q f0 k2; have q := B0.out.all; have f0 := B0.out.fz))
      have s2 := K0.out.size
      have b2 := B0.out.lt
      have C0 : Hid (Blk (w2.alloc (.cells (lzA (Pl.laz ys f 0)) 29)) w2.heap.size (lzA (Pl.laz ys f 0)) 29) := hide (Blk.new w2 _ _)
      have D0 := hide (B0.out.alloc (.cells (lzA (Pl.laz ys f 0)) 29))
      have KA := hide (kept_new K0.out (.cells (lzA (Pl.laz ys f 0)) 29))
      go_loopw [8, 22] (fun _ j wr => ∃ k : Nat, k ≤ n ∧ j = iv k ∧ Blk wr w2.heap.size (lzA (Pl.laz ys f k)) 29 ∧ Blk wr w.heap.size #[iv 0, iv 0, iv 0, iv 0, iv 0, iv 0, iv 0, iv 0, iv 0] 29 ∧ Kept 0 0 w wr) (fun _ j _ => n - (intOf j).toNat)
      case atStart => exact ⟨0, Nat.zero_le _, rfl, C0.out, D0.out, KA.out⟩
      case round =>
        obtain ⟨k, hk, rfl, hC, hD, hkept⟩ := hrel
        have HC := hide hC
        have HD := hide hD
        have HK := hide hkept
        clear hC hD hkept C0 D0 KA q f0
        by_cases hlt : k < n
        · obtain ⟨g1, o1, rfl, p0, p1, p2, p3⟩ := (HA.out.keptS HK.out).at4 HZ.out hlt
          obtain ⟨hx, hp⟩ := Pl.allFo_at hlt HAL.out
          obtain ⟨N, hN⟩ : ∃ N, Pl.laz ys f k = N := ⟨_, rfl⟩
          rw [hN] at HC
          have HU : Hid (Pl.note N (Pl.foAt ys k) = Pl.laz ys f (k + 1)) := hide (by rw [← hN]; rfl)
          clear hN
          have r := HC.out.all
          have hb := HC.out.lt
          have r1 := (HC.out.alloc (.cells (foA (Pl.foAt ys k)) 27)).all
          go_wp2_with (go_at_call 41; refine (specNote _ N (Pl.foAt ys k)).mono ?_; rw [HU.out]; rintro e X ⟨rfl, kX⟩; have HX := hide ((HC.out.alloc (.cells (foA (Pl.foAt ys k)) 27)).kept0 kX); have HY := hide ((HD.out.alloc (.cells (foA (Pl.foAt ys k)) 27)).kept0 kX); have HKX := hide ((kept_new HK.out (.cells (foA (Pl.foAt ys k)) 27)).trans kX); clear kX r r1 p0 p1 p2 p3; have t := HX.out.all; have ft := HX.out.fz)
          go_round
          case rel =>
            refine ⟨k + 1, by omega, by go_num, ?_, ?_, ?_⟩
            · exact HX.out.set9 _ _ _ _ _ _ _ _ _
            · repeat (first | with_reducible exact HY.out | refine Blk.other ?_ _ _ _ (by omega))
            · repeat (first | with_reducible exact HKX.out | refine kept_set ?_ _ _ _ (.inr (by omega)))
          case measure => simp [intOf]; omega
        · obtain rfl : k = n := by omega
          obtain ⟨N, hN⟩ : ∃ N, Pl.laz ys f k = N := ⟨_, rfl⟩
          rw [hN] at HC E
          clear hN
          have r := HC.out.all
          have t := HD.out.all
          have ft := HD.out.fz
          go_wp2
          refine bodyPost_ret (v := .tuple #[.agg (lzA N), .bool true]) ?_ rfl ⟨by rw [E.out], ?_⟩
          · rw [results_c1t rfl]; go_simp
          · repeat (first | with_reducible exact HK.out | refine kept_set ?_ _ _ _ (.inr (by omega)))
end Go.Proofs.Ytobegcbnjlnifaa

namespace Go.Proofs.Ytobegcbnjlnifaa
open Go.RowKit
set_option linter.unusedVariables false
theorem foW_at {w : World} {a : Option Addr} {ys : List Int} (h : Came w a ys) {n k : Nat} (hl : ys.length = 4 * n) (hk : k < n) : FoW (Pl.foAt ys k) :=
  ⟨wfo (h.2 (k * 4) (by omega)), wfo (h.2 (k * 4 + 1) (by omega)), wfo (h.2 (k * 4 + 2) (by omega)), wfo (h.2 (k * 4 + 3) (by omega))⟩
set_option maxRecDepth 100000 in
theorem implRow (w : World) (f : Int) (a : Option Addr) (ca n : Nat) (ys : List Int) (ha : Came w a ys) (ly : ys.length = 4 * n) (bn : n ≤ 2000000) :
    Calls Try.prog 37 #[iv f, .slice a n ca] w fun e w' => e = .returned (.bool (Pl.frOk ys f n)) ∧ Kept 0 0 w w' := by
  have HA := hide ha
  have HZ := hide ly
  clear ha ly
  cases F : Pl.flags f
  · go_enter Try.func37, Try.ntmps37
    go_wp2_with (go_at_call 47; refine st (isFlags _ _) ?_; rw [F])
    go_ret
    exact ⟨rB (by simp [Pl.frOk, F]), Kept.refl _ _ _⟩
  · by_cases h40 : (40 : Int) < (n : Int)
    · go_enter Try.func37, Try.ntmps37
      go_wp2_with (go_at_call 47; refine st (isFlags _ _) ?_; rw [F])
      go_ret
      exact ⟨rB (by have : ¬ ((n : Int) ≤ 40) := by omega
                    simp only [Pl.frOk]; rw [decide_eq_false this]; simp), Kept.refl _ _ _⟩
    · have h40b : (n : Int) ≤ 40 := by omega
      have E : Hid (Pl.frOk ys f n = Pl.allFo ys n) := hide (by simp only [Pl.frOk]; rw [F, decide_eq_true h40b]; simp)
      go_enter Try.func37, Try.ntmps37
      go_wp2_with (go_at_call 47; refine st (isFlags _ _) ?_; rw [F])
      go_loopw [6, 17] (fun _ j wr => ∃ k : Nat, k ≤ n ∧ j = iv k ∧ Pl.allFo ys k = true ∧ Kept 0 0 w wr) (fun _ j _ => n - (intOf j).toNat)
      case atStart => exact ⟨0, Nat.zero_le _, rfl, rfl, Kept.refl _ _ _⟩
      case round =>
        obtain ⟨k, hk, rfl, heq, hkept⟩ := hrel
        have HE := hide heq
        have HK := hide hkept
        clear heq hkept
        by_cases hlt : k < n
        · obtain ⟨g1, o1, rfl, p0, p1, p2, p3⟩ := (HA.out.keptS HK.out).1.at4 HZ.out hlt
          have wx := hide (foW_at HA.out HZ.out hlt)
          cases hb : Pl.foOk (Pl.foAt ys k)
          · go_wp2_with (go_at_call 24; refine (implFo _ (Pl.foAt ys k) wx.out).mono ?_; rw [hb]; rintro e w2 ⟨rfl, k2⟩)
            go_ret
            exact ⟨rB (by rw [E.out, Pl.allFo_no hlt hb]), (kept_new HK.out _).trans k2⟩
          · go_wp2_with (go_at_call 24; refine (implFo _ (Pl.foAt ys k) wx.out).mono ?_; rw [hb]; rintro e w2 ⟨rfl, k2⟩)
            go_round
            case rel => exact ⟨k + 1, by omega, by go_num, by simp [Pl.allFo, HE.out, hb], (kept_new HK.out _).trans k2⟩
            case measure => simp [intOf]; omega
        · obtain rfl : k = n := by omega
          go_wp2
          go_ret
          exact ⟨rB (by rw [E.out, HE.out]), HK.out⟩
set_option maxRecDepth 100000 in
set_option maxHeartbeats 8000000 in
theorem implLazy (w : World) (f : Int) (a : Option Addr) (ca n : Nat) (ys : List Int) (ha : Came w a ys) (ly : ys.length = 4 * n) (bn : n ≤ 2000000) :
    Calls Try.prog 13 #[iv f, .slice a n ca] w fun e w' => e = .returned (.tuple #[.agg (lzA (Pl.lazV ys f n)), .bool (Pl.frOk ys f n)]) ∧ Kept 0 0 w w' := by
  have HA := hide ha
  have HZ := hide ly
  clear ha ly
  have K0 := hide (kept_alloc w (.cells #[iv 0, iv 0, iv 0, iv 0, iv 0, iv 0, iv 0, iv 0, iv 0] 29))
  have B0 := hide (Blk.new w #[iv 0, iv 0, iv 0, iv 0, iv 0, iv 0, iv 0, iv 0, iv 0] 29)
  have q := B0.out.all
  have f0 := B0.out.fz
  cases G : Pl.frOk ys f n
  · have E : Hid (Pl.lazV ys f n = Pl.lzNo ∧ Pl.frOk ys f n = Pl.frOk ys f n) := hide (by simp [Pl.lazV, G])
    go_enter Try.func13, Try.ntmps13
    go_wp2_with (go_at_call 37; refine (implRow _ f a ca n ys (HA.out.keptS K0.out) HZ.out bn).mono ?_; rw [G]; rintro e w2 ⟨rfl, k2⟩; replace K0 := hide (K0.out.trans k2); replace B0 := hide (B0.out.kept0 k2); clear q f0 k2; have q := B0.out.all; have f0 := B0.out.fz)
    refine bodyPost_ret (v := .tuple #[.agg (lzA Pl.lzNo), .bool false]) ?_ rfl ⟨by rw [E.out.1], ?_⟩
    · rw [results_c1t rfl]; go_simp; simp [Pl.lzNo, Pl.foNo]
    · repeat (first | with_reducible exact K0.out | refine kept_set ?_ _ _ _ (.inr (by omega)))
  · have E : Hid (Pl.lazV ys f n = Pl.laz ys f n) := hide (by simp [Pl.lazV, G])
    obtain ⟨_, n40, hall⟩ := fr_ok G
    have HAL := hide hall
    clear hall
    go_enter Try.func13, Try.ntmps13
    go_wp2_with (go_at_call 37; refine (implRow _ f a ca n ys (HA.out.keptS K0.out) HZ.out bn).mono ?_; rw [G]; rintro e w2 ⟨rfl, k2⟩; replace K0 := hide (K0.out.trans k2); replace B0 := hide (B0.out.kept0 k2); clear q f0 k2; have q := B0.out.all; have f0 := B0.out.fz)
    have s2 := K0.out.size
    have b2 := B0.out.lt
    have C0 : Hid (Blk (w2.alloc (.cells (lzA (Pl.laz ys f 0)) 29)) w2.heap.size (lzA (Pl.laz ys f 0)) 29) := hide (Blk.new w2 _ _)
    have D0 := hide (B0.out.alloc (.cells (lzA (Pl.laz ys f 0)) 29))
    have KA := hide (kept_new K0.out (.cells (lzA (Pl.laz ys f 0)) 29))
    go_loopw [8, 18] (fun _ j wr => ∃ k : Nat, k ≤ n ∧ j = iv k ∧ Blk wr w2.heap.size (lzA (Pl.laz ys f k)) 29 ∧ Blk wr w.heap.size #[iv 0, iv 0, iv 0, iv 0, iv 0, iv 0, iv 0, iv 0, iv 0] 29 ∧ Kept 0 0 w wr) (fun _ j _ => n - (intOf j).toNat)
    case atStart => exact ⟨0, Nat.zero_le _, rfl, C0.out, D0.out, KA.out⟩
    case round =>
      obtain ⟨k, hk, rfl, hC, hD, hkept⟩ := hrel
      have HC := hide hC
      have HD := hide hD
      have HK := hide hkept
      clear hC hD hkept C0 D0 KA q f0
      by_cases hlt : k < n
      · obtain ⟨g1, o1, rfl, p0, p1, p2, p3⟩ := (HA.out.keptS HK.out).1.at4 HZ.out hlt
        obtain ⟨hx, hp⟩ := Pl.allFo_at hlt HAL.out
        obtain ⟨N, hN⟩ : ∃ N, Pl.laz ys f k = N := ⟨_, rfl⟩
        rw [hN] at HC
        have HU : Hid (Pl.note N (Pl.foAt ys k) = Pl.laz ys f (k + 1)) := hide (by rw [← hN]; rfl)
        clear hN
        have r := HC.out.all
        have hb := HC.out.lt
        have r1 := (HC.out.alloc (.cells (foA (Pl.foAt ys k)) 27)).all
        go_wp2_with (go_at_call 38; refine (implNote _ N (Pl.foAt ys k)).mono ?_; rw [HU.out]; rintro e X ⟨rfl, kX⟩; have HX := hide ((HC.out.alloc (.cells (foA (Pl.foAt ys k)) 27)).kept0 kX); have HY := hide ((HD.out.alloc (.cells (foA (Pl.foAt ys k)) 27)).kept0 kX); have HKX := hide ((kept_new HK.out (.cells (foA (Pl.foAt ys k)) 27)).trans kX); clear kX r r1 p0 p1 p2 p3; have t := HX.out.all; have ft := HX.out.fz)
        go_round
        case rel =>
          refine ⟨k + 1, by omega, by go_num, ?_, ?_, ?_⟩
          · exact HX.out.set9 _ _ _ _ _ _ _ _ _
          · repeat (first | with_reducible exact HY.out | refine Blk.other ?_ _ _ _ (by omega))
          · repeat (first | with_reducible exact HKX.out | refine kept_set ?_ _ _ _ (.inr (by omega)))
        case measure => simp [intOf]; omega
      · obtain rfl : k = n := by omega
        obtain ⟨N, hN⟩ : ∃ N, Pl.laz ys f k = N := ⟨_, rfl⟩
        rw [hN] at HC E
        clear hN
        have r := HC.out.all
        have t := HD.out.all
        have ft := HD.out.fz
        go_wp2
        refine bodyPost_ret (v := .tuple #[.agg (lzA N), .bool true]) ?_ rfl ⟨by rw [E.out], ?_⟩
        · rw [results_c1t rfl]; go_simp
        · repeat (first | with_reducible exact HK.out | refine kept_set ?_ _ _ _ (.inr (by omega)))
end Go.Proofs.Ytobegcbnjlnifaa

namespace Go.Proofs.Ytobegcbnjlnifaa
open Go.RowKit
set_option linter.unusedVariables false
set_option maxRecDepth 100000 in
set_option maxHeartbeats 8000000 in
theorem lawLazyFlags (f : Int) (a : Option Addr) (m ca : Nat) (ys : List Int) (w : World) (hx : Came w a ys) (ly : ys.length = 4 * m) (lx : m ≤ 9223372036854775807) :
    Calls Try.prog 6 #[iv f, .slice a m ca] w fun r' w' => r' = .returned (.bool true) ∧ Below w.heap.size w w' := by
  have HX := hide hx
  have HY := hide ly
  clear hx ly
  by_cases hs : (1048576 : Int) - (m : Int) < 0
  · go_enter Try.func6, Try.ntmps6
    go_wp2_with (go_at_call 25; refine st (szFo _ a ca m 1048576 lx (by decide) (by decide)) ?_; rw [if_pos hs])
    go_ret
    exact ⟨rfl, (Kept.refl 0 0 w).below⟩
  · have bn : m ≤ 2000000 := by omega
    have K0 := hide (Kept.refl 0 0 w)
    generalize hN : Pl.lazV ys f m = N
    generalize hO : Pl.frOk ys f m = O
    replace hN := hide hN
    replace hO := hide hO
    go_enter Try.func6, Try.ntmps6
    go_wp2_with (go_at_call 25; refine st (szFo _ a ca m 1048576 lx (by decide) (by decide)) ?_; rw [if_neg hs])
    refine (toFlagOpS _ a ca m ys (HX.out.keptS K0.out).1 HY.out bn).mono ?_
    rintro e9 w2 ⟨rfl, o9, l9, gr⟩
    have k9 := kept_grown gr
    replace K0 := hide (K0.out.trans k9)
    have O2 := hide o9
    clear k9 gr o9 l9
    go_wp2_with fail
    refine (specLazy _ f _ _ m ys O2.out.row HY.out bn).mono ?_
    rw [hN.out, hO.out]
    rintro e9 w3 ⟨rfl, k9⟩
    clear O2
    replace K0 := hide (K0.out.trans k9)
    clear k9
    go_wp2_with fail
    have k9 := kept_alloc w3 (.cells (lzA N) 29)
    replace K0 := hide (K0.out.trans k9)
    have B1 := hide (Blk.new w3 (lzA N) 29)
    obtain ⟨X3, hX3⟩ : ∃ X : World, w3.alloc (.cells (lzA N) 29) = X := ⟨_, rfl⟩
    rw [hX3] at K0 B1 
    clear k9
    rw [hX3]
    clear hX3
    refine (toFlagOpS _ a ca m ys (HX.out.keptS K0.out).1 HY.out bn).mono ?_
    rintro e9 w4 ⟨rfl, o9, l9, gr⟩
    have k9 := kept_grown gr
    replace K0 := hide (K0.out.trans k9)
    replace B1 := hide (B1.out.kept0 k9)
    have O4 := hide o9
    clear k9 gr o9 l9
    go_wp2_with fail
    refine (implLazy _ f _ _ m ys (O4.out.came HX.out.2) HY.out bn).mono ?_
    rw [hN.out, hO.out]
    rintro e9 w5 ⟨rfl, k9⟩
    replace K0 := hide (K0.out.trans k9)
    replace B1 := hide (B1.out.kept0 k9)
    replace O4 := hide (O4.out.keptS k9 (by omega))
    clear k9
    have q1 := (B1.out.alloc (.cells (lzA N) 29)).all
    go_wp2_with fail
    have k9 := kept_alloc w5 (.cells (lzA N) 29)
    replace K0 := hide (K0.out.trans k9)
    replace B1 := hide (B1.out.kept0 k9)
    replace O4 := hide (O4.out.keptS k9 (by omega))
    have B2 := hide (Blk.new w5 (lzA N) 29)
    obtain ⟨X5, hX5⟩ : ∃ X : World, w5.alloc (.cells (lzA N) 29) = X := ⟨_, rfl⟩
    rw [hX5] at K0 B2 B1 O4
    clear k9
    rw [hX5]
    clear hX5 q1
    refine (eqLz _ N).mono ?_
    rintro e9 w6 ⟨rfl, k9⟩
    replace K0 := hide (K0.out.trans k9)
    replace B1 := hide (B1.out.kept0 k9)
    replace O4 := hide (O4.out.keptS k9 (by omega))
    replace B2 := hide (B2.out.kept0 k9)
    clear k9
    go_wp2_with fail
    refine (toFlagOpS _ a ca m ys (HX.out.keptS K0.out).1 HY.out bn).mono ?_
    rintro e9 w7 ⟨rfl, o9, l9, gr⟩
    have k9 := kept_grown gr
    replace K0 := hide (K0.out.trans k9)
    replace B1 := hide (B1.out.kept0 k9)
    replace O4 := hide (O4.out.keptS k9 (by omega))
    replace B2 := hide (B2.out.kept0 k9)
    have O7 := hide o9
    clear k9 gr o9 l9
    go_wp2_with fail
    refine (eqFlagOpS _ _ _ _ _ m ys O4.out.row O7.out.row HY.out bn).mono ?_
    rintro e9 w8 ⟨rfl, gr⟩
    have k9 := kept_grown gr
    have K9 := hide (K0.out.trans k9)
    clear k9 gr
    go_wp2_with fail
    go_ret
    exact ⟨rfl, K9.out.below⟩
end Go.Proofs.Ytobegcbnjlnifaa

namespace Go.Proofs.Ytobegcbnjlnifaa
open Go.RowKit Go.WideShapes Go.ChangeShapes Go.ChangeAt
set_option linter.unusedVariables false
set_option maxRecDepth 100000

theorem Try.cellsInt : Try.prog.cellsOf 3 = 1 := by kernel_rfl
theorem Try.cellsFlagOp : Try.prog.cellsOf 43 = 4 := by kernel_rfl
theorem Addr.add_add_own (a : Addr) (i j : Nat) : (a.add i).add j = a.add (i + j) := by
  unfold Addr.add
  by_cases hi : i = 0 <;> by_cases hj : j = 0 <;> simp [hi, hj, Nat.add_assoc]
theorem came_of {w : World} {x : Addr} {n : Nat} (h : ∀ i, i < n → ∃ z : Int, w.cell? (x.add i) = some (.int .i64 z) ∧ (Lit.int .i64 z).wf = true) : ∃ xs : List Int, xs.length = n ∧ Came w (some x) xs := by
  obtain ⟨f, hf⟩ := Go.Deep.choose_lt h
  refine ⟨(List.range n).map f, by simp, ?_, ?_⟩
  · intro i hi
    have hi' : i < n := by simpa using hi
    obtain ⟨g, off, spot⟩ := x
    have hspot : spot = none := by simpa [Addr.add] using World.cell?_spot (hf 0 (by omega)).1
    subst hspot
    refine ⟨g, off, rfl, ?_⟩
    have hc := (hf i hi').1
    by_cases h0 : i = 0
    · subst h0; simpa [Addr.add, hi'] using hc
    · simpa [Addr.add, h0, hi'] using hc
  · intro i hi
    have hi' : i < n := by simpa using hi
    have := bounds_i64 (hf i hi').2
    simpa [hi'] using this

section
variable {H : Type} {enc : TypeId × Value → H} {w : World} {base : Nat} {spare : Nat → Bool} {held : Bool}

theorem open_FlagOpRow {fuel : Nat} {v : Value} {y : DataW H × List MemPlace} (h : DataW.trod enc Try.prog w base spare held fuel 47 [v] = some y) :
    ∃ (a : Option Addr) (m cap : Nat) (ys : List Int), v = .slice a m cap ∧ Came w a ys ∧ ys.length = 4 * m ∧ m ≤ maxLen := by
  rcases Go.Deep.open_slice Try.underlying47 h with ⟨hc, _⟩ | ⟨x, len, cap, m, n, D, Pl, hc, _, hl, hm, hmm, _, hel⟩
  · simp at hc
    exact ⟨none, 0, 0, [], hc, ⟨fun i hi => absurd hi (Nat.not_lt_zero i), fun i hi => absurd hi (Nat.not_lt_zero i)⟩, rfl, Nat.zero_le _⟩
  · simp at hc
    have hlen : len ≤ m := by rw [hmm]; split <;> omega
    obtain ⟨ys, hy, hx⟩ := came_of (w := w) (x := x) (n := 4 * len) (by
      intro i hi
      obtain ⟨cs', h1, h2⟩ := hel (i / 4) (by omega)
      rw [Try.cellsFlagOp] at h1
      obtain ⟨_, hl5, hcs⟩ := World.cells?_some h1
      obtain ⟨zs, k, _, _, _, hzl, hf⟩ := DataW.trod_struct Try.underlying43 h2
      have hget := hcs (i % 4) (by omega)
      rw [Addr.add_add_own, show i / 4 * 4 + i % 4 = i from by omega] at hget
      rw [hget]
      obtain ⟨c0, c1, c2, c3, rfl⟩ : ∃ c0 c1 c2 c3, cs' = [c0, c1, c2, c3] := by
        match cs', hl5 with
        | [c0, c1, c2, c3], _ => exact ⟨c0, c1, c2, c3, rfl⟩
      obtain ⟨z0, z1, z2, z3, rfl⟩ : ∃ z0 z1 z2 z3, zs = [z0, z1, z2, z3] := by
        match zs, hzl with
        | [z0, z1, z2, z3], _ => exact ⟨z0, z1, z2, z3, rfl⟩
      have t0 := hf 0 _ rfl
      have t1 := hf 1 _ rfl
      have t2 := hf 2 _ rfl
      have t3 := hf 3 _ rfl
      simp [Try.cellsInt] at t0 t1 t2 t3
      obtain ⟨n0, e0, _, b0⟩ := DataW.trod_int Try.underlying3 t0
      obtain ⟨n1, e1, _, b1⟩ := DataW.trod_int Try.underlying3 t1
      obtain ⟨n2, e2, _, b2⟩ := DataW.trod_int Try.underlying3 t2
      obtain ⟨n3, e3, _, b3⟩ := DataW.trod_int Try.underlying3 t3
      simp at e0 e1 e2 e3
      subst e0 e1 e2 e3
      obtain h | h | h | h : i % 4 = 0 ∨ i % 4 = 1 ∨ i % 4 = 2 ∨ i % 4 = 3 := by omega
      all_goals rw [h]
      · exact ⟨n0, rfl, b0⟩
      · exact ⟨n1, rfl, b1⟩
      · exact ⟨n2, rfl, b2⟩
      · exact ⟨n3, rfl, b3⟩)
    exact ⟨some x, len, cap, ys, hc, hx, hy, by omega⟩
theorem open_FlagOpArg {r : Reach} {b0 : Nat} {v : Value} {d : DataW H} {p : List MemPlace} (hv : Value.okWide Try.prog w r b0 47 v) (h : DataW.Trod enc Try.prog w base spare held 47 v d p) :
    ∃ (a : Option Addr) (m cap : Nat) (ys : List Int), v = .slice a m cap ∧ Came w a ys ∧ ys.length = 4 * m ∧ m ≤ maxLen := by
  obtain ⟨a1, len1, cap1, rfl⟩ := okWide_slice Try.underlying47 hv
  obtain ⟨fuel, hf⟩ := h
  exact open_FlagOpRow hf

end
end Go.Proofs.Ytobegcbnjlnifaa

