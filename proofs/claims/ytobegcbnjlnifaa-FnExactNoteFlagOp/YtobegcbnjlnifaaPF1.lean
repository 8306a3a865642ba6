/- The plain arithmetic beneath the walks of chapter 1: what masks, values with a sign and flags are, as functions on whole numbers. No Go text is spoken of here. Small things that every walk of ours leans on: equal answers, a fact kept from the walk, and what the model's test of a range answers. What is said of worlds, blocks and lists by every law on structs with lists: blocks kept outside a span, lists in blocks of a span, a block's cells, copies; no text of a chapter is spoken of here. What the laws' own functions over lists of FlagOp do (structs of 4 whole numbers, laid one behind the other): compare, copy, mark. A list of n is spoken of as the row of its 4 * n numbers. Operations on flags in numbers: plain arithmetic; no Go text is spoken of here. What the laws' own functions on notes do: copy, compare; and on lists of operations: measure. What the model's test of a size answers. What the model's test of a value of a size answers, for every argument; none changes the world. What the model's small functions of chapter 1 answer, for every argument: one contract a function; none changes the world. What the program's test of a value of a size answers: one contract a function; none changes the world. What the small functions of chapter 1 and of its model answer, for every argument: one contract a function; none changes the world. What the sums and differences of chapter 1, and of its model, answer for every argument: one contract a function; none changes the world. What the model's small functions on operations and notes answer. What the model's functions on notes answer. What the model makes of a note: the flags that are meant; FlagsOf, CondOf, CarryOf, NoteFlagOp. What the program's small functions on operations answer, whether a note is good, a note with an operation more. A region that draws its order, by what holds whatever has come up so far: every order at once. A frame of which some slots alone are written: for a drawn region walked by what holds, the frame a variable. What the model makes of lists of operations: whether all are good, EagerFlags, LazyFlags. The law on NoteFlagOp: of whatever arguments, its Go function returns true, and no block that was there has turned. Operations, notes and lists of operations that came in to a law: opened out of a law's argument. -/
import Derived.WalkKit
import Derived.Test.YtobegcbnjlnifaaProg
import Derived.WalkSpells
import Derived.WalkLawsBesides
import Derived.OpenShut
import Derived.RegionTactic
import Derived.ChangeAlike
import Derived.BigRegion
import Derived.Deep.RegionWith
import Derived.Laws.Rows
import Derived.Laws.ResultCell
import Derived.Laws.CopyOwn
import Derived.Maps.AppendAt
import Derived.Laws.AppendOwnNone
import Derived.Deep.QuietTactic
import Derived.BigQuiet
import Derived.Deep.AppendLies
import Derived.Below
import Derived.Lib.SmallJoins
import Derived.Deep.Slices
import Derived.ProofKit
namespace Go.Proofs.Ytobegcbnjlnifaa.Pl

/-- how many values a size has -/
def top (s : Int) : Int := if s = 1 then 256 else 65536
/-- a value of a size -/
def okv (s v : Int) : Bool := (decide (s = 1) || decide (s = 2)) && (decide (0 ≤ v) && decide (v < top s))
/-- a value as a number with a sign -/
def sg (s v : Int) : Int := if top s / 2 ≤ v then v - top s else v
def sgnV (s v : Int) : Int := if okv s v = true then sg s v else 0
def flags (f : Int) : Bool := decide (0 ≤ f) && decide (f ≤ 31)
theorem top_ok {s v : Int} (h : okv s v = true) : (s = 1 ∧ top s = 256 ∨ s = 2 ∧ top s = 65536) ∧ 0 ≤ v ∧ v < top s := by
  simp [okv] at h
  obtain ⟨h1, h2, h3⟩ := h
  refine ⟨?_, h2, h3⟩
  rcases h1 with rfl | rfl
  · exact .inl ⟨rfl, rfl⟩
  · exact .inr ⟨rfl, rfl⟩

end Go.Proofs.Ytobegcbnjlnifaa.Pl

namespace Go.Proofs.Ytobegcbnjlnifaa
open Go.RowKit
set_option linter.unusedVariables false

/- long words made short -/
abbrev iv (n : Int) : Value := .int .i64 n
theorem st {P : Program} {f : FuncId} {a : Array Value} {w : World} {r : Ending} {Q : Ending → World → Prop} (h : Calls P f a w fun e w' => e = r ∧ w' = w) (q : Q r w) : Calls P f a w Q := h.mono (by rintro e w' ⟨rfl, rfl⟩; exact q)
theorem hide {p : Prop} (h : p) : Hid p := h
theorem rB {a b : Bool} (h : a = b) : Ending.returned (.bool a) = .returned (.bool b) := by rw [h]
theorem rIB {a b : Int} {c d : Bool} (h : a = b) (k : c = d) : Ending.returned (.tuple #[.int .i64 a, .bool c]) = .returned (.tuple #[.int .i64 b, .bool d]) := by rw [h, k]
theorem rIIB {a b c d : Int} {e f : Bool} (h : a = b) (k : c = d) (l : e = f) : Ending.returned (.tuple #[.int .i64 a, .int .i64 c, .bool e]) = .returned (.tuple #[.int .i64 b, .int .i64 d, .bool f]) := by rw [h, k, l]

theorem l1In (n lo hi : Int) (w : World) :
    Calls Try.prog 53 #[.int .i64 n, .int .i64 lo, .int .i64 hi] w fun e w' => e = .returned (.bool (decide (lo ≤ n) && decide (n ≤ hi))) ∧ w' = w := by
  by_cases h0 : lo ≤ n
  all_goals
    by_cases h1 : n ≤ hi
    all_goals
      go_enter Try.func53, Try.ntmps53
      go_wp2
      go_ret
      exact ⟨rB (by simp; omega), rfl⟩

end Go.Proofs.Ytobegcbnjlnifaa

namespace Go.Proofs.Ytobegcbnjlnifaa
open Go.RowKit
set_option linter.unusedVariables false

theorem results_one {fn : Func} {p : Tmp} {ty : TypeId} (h : fn.results = #[.cell p ty]) (tmps : Array Value) (P : Program) (w : World) :
    (results fn tmps).run P w = ((asAddr (tmps.getD p undef)).run P w).andThen fun a w₁ => (loadVar ty a).run P w₁ := by
  simp only [results, h]
  simp [Sem.run_bind, Result.andThen]
/-- of the blocks that were there those outside a span are as they were -/
structure Kept (lo hi : Nat) (w w' : World) : Prop where
  os : w'.os = w.os
  tape : w'.tape = w.tape
  output : w'.output = w.output
  size : w.heap.size ≤ w'.heap.size
  block : ∀ k, k < w.heap.size → ¬ (lo ≤ k ∧ k < hi) → w'.heap[k]? = w.heap[k]?

theorem Kept.refl (lo hi : Nat) (w : World) : Kept lo hi w w := ⟨rfl, rfl, rfl, Nat.le_refl _, fun _ _ _ => rfl⟩
theorem Kept.trans {lo hi : Nat} {a b c : World} (h : Kept lo hi a b) (k : Kept lo hi b c) : Kept lo hi a c :=
  ⟨k.os.trans h.os, k.tape.trans h.tape, k.output.trans h.output, Nat.le_trans h.size k.size, fun i hi hn => (k.block i (Nat.lt_of_lt_of_le hi h.size) hn).trans (h.block i hi hn)⟩
theorem kept_below {w w' : World} (h : Below w.heap.size w w') : Kept 0 0 w w' := ⟨h.os, h.tape, h.output, h.size, fun k hk _ => h.block k hk⟩
theorem Kept.below {w w' : World} (h : Kept 0 0 w w') : Below w.heap.size w w' := ⟨h.os, h.tape, h.output, h.size, fun k hk => h.block k hk (by omega)⟩
theorem kept_alloc (w : World) (o : Obj) : Kept 0 0 w (w.alloc o) := kept_below ((Below.refl _ w).alloc (Nat.le_refl _) o)
theorem kept_drew {lo hi : Nat} {w w' : World} (h : Kept lo hi w w') : Kept lo hi w w'.drew := ⟨h.os, h.tape, h.output, h.size, h.block⟩
/-- a block that holds these cells -/
def Blk (w : World) (b : Nat) (cs : Array Value) (ty : TypeId) : Prop := w.heap[b]? = some (.cells cs ty)
theorem Blk.lt {w : World} {b : Nat} {cs : Array Value} {ty : TypeId} (h : Blk w b cs ty) : b < w.heap.size := by
  unfold Blk at h
  rcases Nat.lt_or_ge b w.heap.size with h' | h'
  · exact h'
  · rw [Array.getElem?_eq_none h'] at h; cases h
theorem Blk.kept {w w' : World} {b : Nat} {cs : Array Value} {ty : TypeId} {lo hi : Nat} (h : Blk w b cs ty) (k : Kept lo hi w w') (hn : ¬ (lo ≤ b ∧ b < hi)) : Blk w' b cs ty := (k.block b h.lt hn).trans h
theorem Blk.kept0 {w w' : World} {b : Nat} {cs : Array Value} {ty : TypeId} (h : Blk w b cs ty) (k : Kept 0 0 w w') : Blk w' b cs ty := h.kept k (by omega)
theorem Blk.frozen {w : World} {b : Nat} {cs : Array Value} {ty : TypeId} (h : Blk w b cs ty) (i : Nat) : w.frozen? ⟨b, i, none⟩ = false := by
  unfold Blk at h
  simp [World.frozen?, h]
theorem Blk.set {w : World} {b : Nat} {cs : Array Value} {ty : TypeId} (h : Blk w b cs ty) (i : Nat) (v : Value) : Blk (w.setCell ⟨b, i, none⟩ v) b (cs.setIfInBounds i v) ty := by
  unfold Blk at h ⊢
  simp [World.setCell, Array.getElem?_modify, h]
theorem Blk.new (w : World) (cs : Array Value) (ty : TypeId) : Blk (w.alloc (.cells cs ty)) w.heap.size cs ty := heap_alloc_new w _
theorem Blk.alloc {w : World} {b : Nat} {cs : Array Value} {ty : TypeId} (h : Blk w b cs ty) (o : Obj) : Blk (w.alloc o) b cs ty := (Below.heap_alloc _ _ _ h.lt).trans h
/-- a store into a block of the span -/
theorem kept_set {w w' : World} {lo hi : Nat} (h : Kept lo hi w w') (b i : Nat) (v : Value) (hb : (lo ≤ b ∧ b < hi) ∨ w.heap.size ≤ b) : Kept lo hi w (w'.setCell ⟨b, i, none⟩ v) :=
  ⟨h.os, h.tape, h.output, by simpa using h.size, fun k hk hn => (Below.heap_setCell _ _ _ _ (by simp; omega)).trans (h.block k hk hn)⟩
theorem kept_new {w w' : World} {lo hi : Nat} (h : Kept lo hi w w') (o : Obj) : Kept lo hi w (w'.alloc o) :=
  ⟨h.os, h.tape, h.output, Nat.le_trans h.size (by simp), fun k hk hn => (Below.heap_alloc _ _ _ (Nat.lt_of_lt_of_le hk h.size)).trans (h.block k hk hn)⟩
namespace Pl
end Pl
theorem Blk.all {w : World} {b : Nat} {cs : Array Value} {ty : TypeId} (h : Blk w b cs ty) (i : Nat) : w.cell? ⟨b, i, none⟩ = cs[i]? := by
  have e : w.heap[b]? = some (.cells cs ty (0, 0)) := h
  unfold World.cell?
  dsimp only
  rw [e]
  simp
theorem Blk.fz {w : World} {b : Nat} {cs : Array Value} {ty : TypeId} (h : Blk w b cs ty) (i : Nat) : w.frozen? ⟨b, i, none⟩ = false := h.frozen i
end Go.Proofs.Ytobegcbnjlnifaa

namespace Go.Proofs.Ytobegcbnjlnifaa
open Go.RowKit
set_option linter.unusedVariables false

theorem eqFlagOp (a b c d : Int) (w : World) :
    Calls Try.prog 56 #[.agg #[.int .i64 a, .int .i64 b, .int .i64 c, .int .i64 d], .agg #[.int .i64 a, .int .i64 b, .int .i64 c, .int .i64 d]] w fun r w' => r = .returned (.bool true) ∧ ∃ o1 o2, w' = (w.alloc o1).alloc o2 := by
  go_enter Try.func56, Try.ntmps56
  go_wp2
  go_ret
  exact ⟨rfl, _, _, rfl⟩

theorem toFlagOp (a b c d : Int) (w : World) :
    Calls Try.prog 23 #[.agg #[.int .i64 a, .int .i64 b, .int .i64 c, .int .i64 d]] w fun r w' => r = .returned (.agg #[.int .i64 a, .int .i64 b, .int .i64 c, .int .i64 d]) ∧ ∃ o1 o2 o3, w' = ((w.alloc o1).alloc o2).alloc o3 := by
  go_enter Try.func23, Try.ntmps23
  go_wp2
  refine bodyPost_ret (v := .agg #[.int .i64 a, .int .i64 b, .int .i64 c, .int .i64 d]) ?_ rfl ⟨rfl, _, _, _, rfl⟩
  rw [results_one rfl]; go_simp
end Go.Proofs.Ytobegcbnjlnifaa

namespace Go.Proofs.Ytobegcbnjlnifaa.Pl
set_option linter.unusedVariables false
structure Fo where
  k : Int
  z : Int
  a : Int
  b : Int
def foNo : Fo := ⟨0, 0, 0, 0⟩
def foNone (x : Fo) : Bool := (x.k == 0) && ((x.z == 0) && ((x.a == 0) && (x.b == 0)))
def foSame (x y : Fo) : Bool := (x.k == y.k) && ((x.z == y.z) && ((x.a == y.a) && (x.b == y.b)))
def sumK (k : Int) : Bool := (k == 1) || (k == 2)
def foOk (x : Fo) : Bool := (okv x.z x.a && okv x.z x.b) && ((decide (1 ≤ x.k) && decide (x.k ≤ 5)) && (decide (x.k ≤ 3) || (x.b == 0)))
/-- a note -/
structure Lz where
  b : Int
  l : Fo
  r : Fo
def lzNo : Lz := ⟨0, foNo, foNo⟩
def lzOk (z : Lz) : Bool := flags z.b && (bif foNone z.l then foNone z.r else foOk z.l && (bif sumK z.l.k then foSame z.r z.l else foNone z.r || (sumK z.r.k && foOk z.r)))
def note (z : Lz) (x : Fo) : Lz := ⟨z.b, x, if sumK x.k = true then x else z.r⟩
def noteV (z : Lz) (x : Fo) : Lz := if (lzOk z && foOk x) = true then note z x else lzNo
theorem foNone_ok {x : Fo} (h : foNone x = true) : x = foNo := by
  obtain ⟨k, z, a, b⟩ := x
  simp [foNone] at h
  obtain ⟨rfl, rfl, rfl, rfl⟩ := h
  rfl
theorem foSame_ok {x y : Fo} (h : foSame x y = true) : x = y := by
  obtain ⟨k, z, a, b⟩ := x
  obtain ⟨k', z', a', b'⟩ := y
  simp [foSame] at h
  obtain ⟨rfl, rfl, rfl, rfl⟩ := h
  rfl
theorem foSame_self (x : Fo) : foSame x x = true := by simp [foSame]
theorem foSame_comm (x y : Fo) : foSame x y = foSame y x := by
  rw [Bool.eq_iff_iff]
  constructor <;> intro h <;> rw [foSame_ok h] <;> exact foSame_self _
/- flags stay flags -/
end Go.Proofs.Ytobegcbnjlnifaa.Pl
namespace Go.Proofs.Ytobegcbnjlnifaa
abbrev foA (x : Pl.Fo) : Array Value := #[iv x.k, iv x.z, iv x.a, iv x.b]
abbrev lzA (z : Pl.Lz) : Array Value := #[iv z.b, iv z.l.k, iv z.l.z, iv z.l.a, iv z.l.b, iv z.r.k, iv z.r.z, iv z.r.a, iv z.r.b]
/-- numbers that an int holds -/
structure FoW (x : Pl.Fo) : Prop where
  k : (Lit.int .i64 x.k).wf = true
  z : (Lit.int .i64 x.z).wf = true
  a : (Lit.int .i64 x.a).wf = true
  b : (Lit.int .i64 x.b).wf = true
structure LzW (z : Pl.Lz) : Prop where
  b : (Lit.int .i64 z.b).wf = true
  l : FoW z.l
  r : FoW z.r
end Go.Proofs.Ytobegcbnjlnifaa

namespace Go.Proofs.Ytobegcbnjlnifaa
open Go.RowKit
set_option linter.unusedVariables false
theorem toFo (w : World) (x : Pl.Fo) : Calls Try.prog 23 #[.agg (foA x)] w fun e w' => e = .returned (.agg (foA x)) ∧ Kept 0 0 w w' := by
  refine (toFlagOp x.k x.z x.a x.b w).mono ?_
  rintro e w' ⟨rfl, o1, o2, o3, rfl⟩
  exact ⟨rfl, kept_new (kept_new (kept_alloc _ _) _) _⟩
set_option maxRecDepth 100000 in
set_option maxHeartbeats 4000000 in
theorem toLz (w : World) (z : Pl.Lz) : Calls Try.prog 30 #[.agg (lzA z)] w fun e w' => e = .returned (.agg (lzA z)) ∧ Kept 0 0 w w' := by
  go_enter Try.func30, Try.ntmps30
  go_wp2_with (go_at_call 23; (first | (with_reducible refine (toFlagOp z.l.k z.l.z z.l.a z.l.b _).mono ?_) | (with_reducible refine (toFlagOp z.r.k z.r.z z.r.a z.r.b _).mono ?_)); rintro e9 w9 ⟨rfl, o1, o2, o3, rfl⟩)
  refine bodyPost_ret (v := .agg (lzA z)) ?_ rfl ⟨rfl, ?_⟩
  · rw [results_one rfl]; go_simp
  · repeat (first | with_reducible exact Kept.refl _ _ _ | refine kept_new ?_ _ | refine kept_set ?_ _ _ _ (.inr (by simp)))
set_option maxRecDepth 100000 in
theorem eqLz (w : World) (z : Pl.Lz) : Calls Try.prog 28 #[.agg (lzA z), .agg (lzA z)] w fun e w' => e = .returned (.bool true) ∧ Kept 0 0 w w' := by
  go_enter Try.func28, Try.ntmps28
  go_wp2_with (go_at_call 56; (first | (with_reducible refine (eqFlagOp z.l.k z.l.z z.l.a z.l.b _).mono ?_) | (with_reducible refine (eqFlagOp z.r.k z.r.z z.r.a z.r.b _).mono ?_)); rintro e9 w9 ⟨rfl, o1, o2, rfl⟩)
  go_ret
  exact ⟨rfl, by repeat (first | with_reducible exact Kept.refl _ _ _ | refine kept_new ?_ _)⟩
end Go.Proofs.Ytobegcbnjlnifaa

namespace Go.Proofs.Ytobegcbnjlnifaa
open Go.RowKit
set_option linter.unusedVariables false

theorem l1Size_no (s : Int) (w : World) (h1 : ¬ s = 1) (h2 : ¬ s = 2) : Calls Try.prog 82 #[iv s] w fun e w' => e = .returned (.bool false) ∧ w' = w := by
  have k1 : (s == 1) = false := by simpa using h1
  have k2 : (s == 2) = false := by simpa using h2
  go_enter Try.func82, Try.ntmps82
  go_wp2
  go_ret
  exact ⟨rfl, rfl⟩

theorem l1Size1 (w : World) : Calls Try.prog 82 #[iv 1] w fun e w' => e = .returned (.bool true) ∧ w' = w := by
  go_enter Try.func82, Try.ntmps82
  go_wp2
  go_ret
  exact ⟨rfl, rfl⟩

theorem l1Size2 (w : World) : Calls Try.prog 82 #[iv 2] w fun e w' => e = .returned (.bool true) ∧ w' = w := by
  go_enter Try.func82, Try.ntmps82
  go_wp2
  go_ret
  exact ⟨rfl, rfl⟩
end Go.Proofs.Ytobegcbnjlnifaa

namespace Go.Proofs.Ytobegcbnjlnifaa
open Go.RowKit
set_option linter.unusedVariables false

theorem l1Top1 (w : World) : Calls Try.prog 83 #[iv 1] w fun e w' => e = .returned (iv 256) ∧ w' = w := by
  go_enter Try.func83, Try.ntmps83
  go_wp2
  go_ret
  exact ⟨rfl, rfl⟩

theorem l1Top2 (w : World) : Calls Try.prog 83 #[iv 2] w fun e w' => e = .returned (iv 65536) ∧ w' = w := by
  go_enter Try.func83, Try.ntmps83
  go_wp2
  go_ret
  exact ⟨rfl, rfl⟩

theorem l1Value (s v : Int) (w : World) :
    Calls Try.prog 52 #[iv s, iv v] w fun e w' => e = .returned (.bool (Pl.okv s v)) ∧ w' = w := by
  by_cases h1 : s = 1
  · subst h1
    go_enter Try.func52, Try.ntmps52
    go_wp2_with fail
    refine (l1Size1 _).mono ?_
    rintro e w' ⟨rfl, rfl⟩
    go_wp2_with fail
    refine (l1Top1 _).mono ?_
    rintro e w' ⟨rfl, rfl⟩
    go_wp2_with fail
    refine (l1In _ _ _ _).mono ?_
    rintro e w' ⟨rfl, rfl⟩
    go_wp2_with fail
    go_ret
    exact ⟨rB (by rw [Bool.eq_iff_iff]; simp [Pl.okv, Pl.top]; omega), rfl⟩
  · by_cases h2 : s = 2
    · subst h2
      go_enter Try.func52, Try.ntmps52
      go_wp2_with fail
      refine (l1Size2 _).mono ?_
      rintro e w' ⟨rfl, rfl⟩
      go_wp2_with fail
      refine (l1Top2 _).mono ?_
      rintro e w' ⟨rfl, rfl⟩
      go_wp2_with fail
      refine (l1In _ _ _ _).mono ?_
      rintro e w' ⟨rfl, rfl⟩
      go_wp2_with fail
      go_ret
      exact ⟨rB (by rw [Bool.eq_iff_iff]; simp [Pl.okv, Pl.top]; omega), rfl⟩
    · go_enter Try.func52, Try.ntmps52
      go_wp2_with fail
      refine (l1Size_no s _ h1 h2).mono ?_
      rintro e w' ⟨rfl, rfl⟩
      go_wp2_with fail
      go_ret
      exact ⟨rB (by simp [Pl.okv, h1, h2]), rfl⟩

end Go.Proofs.Ytobegcbnjlnifaa

namespace Go.Proofs.Ytobegcbnjlnifaa
open Go.RowKit
set_option linter.unusedVariables false

theorem l1Flags (f : Int) (w : World) :
    Calls Try.prog 39 #[iv f] w fun e w' => e = .returned (.bool (Pl.flags f)) ∧ w' = w := by
  go_enter Try.func39, Try.ntmps39
  go_wp2_with fail
  refine (l1In f 0 31 _).mono ?_
  rintro e w' ⟨rfl, rfl⟩
  go_wp2_with fail
  go_ret
  exact ⟨rfl, rfl⟩

end Go.Proofs.Ytobegcbnjlnifaa

namespace Go.Proofs.Ytobegcbnjlnifaa
open Go.RowKit
set_option linter.unusedVariables false

theorem signedAs8 (v : Int) (w : World) (lo : -9223372036854775808 ≤ v) (hi : v ≤ 9223372036854775807) :
    Calls Try.prog 100 #[iv v] w fun e w' => e = .returned (.tuple #[iv (Pl.sgnV 1 v), .bool (Pl.okv 1 v)]) ∧ w' = w := by
  by_cases h : 0 ≤ v ∧ v < 256
  · obtain ⟨h0, h1⟩ := h
    have hs : IntKind.u8.signed = false := rfl
    have hm : IntKind.u8.max = 255 := by decide
    have hb : bits .xor .u8 255 0 = 255 := by decide
    by_cases h : 127 < v
    all_goals
      go_enter Try.func100, Try.ntmps100
      go_wp2
      go_ret2
      exact ⟨rIB (by simp [Pl.sgnV, Pl.okv, Pl.sg, Pl.top, h0, h1]; omega) (by simp [Pl.okv, Pl.top, h0, h1]), rfl⟩
  · go_enter Try.func100, Try.ntmps100
    go_wp2
    go_ret2
    have k : Pl.okv 1 v = false := by
      cases c : Pl.okv 1 v
      · rfl
      · have := Pl.top_ok c; omega
    exact ⟨rIB (by simp [Pl.sgnV, k]) k.symm, rfl⟩

theorem signedAs16 (v : Int) (w : World) (lo : -9223372036854775808 ≤ v) (hi : v ≤ 9223372036854775807) :
    Calls Try.prog 101 #[iv v] w fun e w' => e = .returned (.tuple #[iv (Pl.sgnV 2 v), .bool (Pl.okv 2 v)]) ∧ w' = w := by
  by_cases h : 0 ≤ v ∧ v < 65536
  · obtain ⟨h0, h1⟩ := h
    have hs : IntKind.u16.signed = false := rfl
    have hm : IntKind.u16.max = 65535 := by decide
    have hb : bits .xor .u16 65535 0 = 65535 := by decide
    by_cases h : 32767 < v
    all_goals
      go_enter Try.func101, Try.ntmps101
      go_wp2
      go_ret2
      exact ⟨rIB (by simp [Pl.sgnV, Pl.okv, Pl.sg, Pl.top, h0, h1]; omega) (by simp [Pl.okv, Pl.top, h0, h1]), rfl⟩
  · have hw : IntKind.u16.wrap v = v % 65536 := IntKind.wrap_u16 v
    go_enter Try.func101, Try.ntmps101
    go_wp2
    go_ret2
    have k : Pl.okv 2 v = false := by
      cases c : Pl.okv 2 v
      · rfl
      · have := Pl.top_ok c; omega
    exact ⟨rIB (by simp [Pl.sgnV, k]) k.symm, rfl⟩

theorem signedOf (s v : Int) (w : World) (lo : -9223372036854775808 ≤ v) (hi : v ≤ 9223372036854775807) :
    Calls Try.prog 84 #[iv s, iv v] w fun e w' => e = .returned (.tuple #[iv (Pl.sgnV s v), .bool (Pl.okv s v)]) ∧ w' = w := by
  by_cases h1 : s = 1
  · subst h1
    go_enter Try.func84, Try.ntmps84
    go_wp2_with fail
    refine (signedAs8 v _ lo hi).mono ?_
    rintro e w' ⟨rfl, rfl⟩
    go_wp2_with fail
    go_ret2
    exact ⟨rfl, rfl⟩
  · by_cases h2 : s = 2
    · subst h2
      go_enter Try.func84, Try.ntmps84
      go_wp2_with fail
      refine (signedAs16 v _ lo hi).mono ?_
      rintro e w' ⟨rfl, rfl⟩
      go_wp2_with fail
      go_ret2
      exact ⟨rfl, rfl⟩
    · have k : Pl.okv s v = false := by simp [Pl.okv, h1, h2]
      have k1 : (s == 1) = false := by simpa using h1
      have k2 : (s == 2) = false := by simpa using h2
      go_enter Try.func84, Try.ntmps84
      go_wp2_with fail
      go_ret2
      exact ⟨rIB (by simp [Pl.sgnV, k]) k.symm, rfl⟩

end Go.Proofs.Ytobegcbnjlnifaa

namespace Go.Proofs.Ytobegcbnjlnifaa
open Go.RowKit
set_option linter.unusedVariables false

/-! ### the program's own -/

theorem isFlags (x : Int) (w : World) :
    Calls Try.prog 47 #[iv x] w fun e w' => e = .returned (.bool (Pl.flags x)) ∧ w' = w := by
  by_cases h0 : 0 ≤ x
  all_goals
    by_cases h1 : x ≤ 31
    all_goals
      go_enter Try.func47, Try.ntmps47
      go_wp2
      go_ret
      exact ⟨rB (by simp [Pl.flags]; omega), rfl⟩

/-! ### the model's -/

end Go.Proofs.Ytobegcbnjlnifaa

namespace Go.Proofs.Ytobegcbnjlnifaa
set_option linter.unusedVariables false

theorem signedPair (s a b : Int) (w : World) (la : -9223372036854775808 ≤ a) (ha : a ≤ 9223372036854775807) (lb : -9223372036854775808 ≤ b) (hb : b ≤ 9223372036854775807) :
    Calls Try.prog 54 #[iv s, iv a, iv b] w fun e w' => e = .returned (.tuple #[iv (Pl.sgnV s a), iv (Pl.sgnV s b), .bool (Pl.okv s a && Pl.okv s b)]) ∧ w' = w := by
  cases ka : Pl.okv s a
  all_goals
    cases kb : Pl.okv s b
    all_goals
      go_enter Try.func54, Try.ntmps54
      go_wp2_with fail
      refine (signedOf s a _ la ha).mono ?_
      rintro e w' ⟨rfl, rfl⟩
      go_wp2_with fail
      refine (signedOf s b _ lb hb).mono ?_
      rintro e w' ⟨rfl, rfl⟩
      go_wp2_with fail
      go_ret3
      exact ⟨rIIB rfl rfl rfl, rfl⟩

end Go.Proofs.Ytobegcbnjlnifaa

namespace Go.Proofs.Ytobegcbnjlnifaa
open Go.RowKit
set_option linter.unusedVariables false
theorem eqFo (a b : Pl.Fo) (w : World) : (binOp .eql 27 (.agg #[iv a.k, iv a.z, iv a.a, iv a.b]) (.agg #[iv b.k, iv b.z, iv b.a, iv b.b])).run Try.prog w = .ok (.bool (Pl.foSame a b)) w := by
  obtain ⟨a1, a2, a3, a4⟩ := a
  obtain ⟨b1, b2, b3, b4⟩ := b
  unfold Pl.foSame
  go_simp
  by_cases h1 : a1 = b1
  · by_cases h2 : a2 = b2
    · by_cases h3 : a3 = b3
      · by_cases h4 : a4 = b4
        · simp [h1, h2, h3, h4]
        · simp [h1, h2, h3, h4]
      · simp [h1, h2, h3]
    · simp [h1, h2]
  · simp [h1]
theorem eqFo0 (a : Pl.Fo) (w : World) : (binOp .eql 27 (.agg #[iv a.k, iv a.z, iv a.a, iv a.b]) (.agg #[iv 0, iv 0, iv 0, iv 0])).run Try.prog w = .ok (.bool (Pl.foNone a)) w := by
  obtain ⟨a1, a2, a3, a4⟩ := a
  unfold Pl.foNone
  go_simp
  by_cases h1 : a1 = 0 <;> by_cases h2 : a2 = 0 <;> by_cases h3 : a3 = 0 <;> by_cases h4 : a4 = 0 <;> simp [h1, h2, h3, h4]
theorem specNone (w : World) (x : Pl.Fo) : Calls Try.prog 57 #[.agg (foA x)] w fun e w' => e = .returned (.bool (Pl.foNone x)) ∧ Kept 0 0 w w' := by
  have he := eqFo0 x
  go_enter Try.func57, Try.ntmps57
  go_wp2_with fail
  go_ret
  exact ⟨rfl, kept_alloc _ _⟩
theorem specSum (w : World) (x : Pl.Fo) : Calls Try.prog 58 #[.agg (foA x)] w fun e w' => e = .returned (.bool (Pl.sumK x.k)) ∧ Kept 0 0 w w' := by
  obtain ⟨k, z, a, b⟩ := x
  by_cases h1 : k = 1
  · subst h1
    go_enter Try.func58, Try.ntmps58
    go_wp2_with fail
    go_ret
    exact ⟨rfl, kept_alloc _ _⟩
  · by_cases h2 : k = 2
    · subst h2
      go_enter Try.func58, Try.ntmps58
      go_wp2_with fail
      go_ret
      exact ⟨rfl, kept_alloc _ _⟩
    · have k1 : (k == 1) = false := by simpa using h1
      have k2 : (k == 2) = false := by simpa using h2
      go_enter Try.func58, Try.ntmps58
      go_wp2_with fail
      go_ret
      exact ⟨rB (by simp [Pl.sumK, h1, h2]), kept_alloc _ _⟩
theorem specFo (w : World) (x : Pl.Fo) : Calls Try.prog 22 #[.agg (foA x)] w fun e w' => e = .returned (.bool (Pl.foOk x)) ∧ Kept 0 0 w w' := by
  cases h1 : Pl.okv x.z x.a
  · go_enter Try.func22, Try.ntmps22
    go_wp2_with (go_at_call 52; refine st (l1Value _ _ _) ?_; rw [h1])
    go_ret
    exact ⟨rB (by simp [Pl.foOk, h1]), kept_alloc _ _⟩
  · cases h2 : Pl.okv x.z x.b
    · go_enter Try.func22, Try.ntmps22
      go_wp2_with (go_at_call 52; refine st (l1Value _ _ _) ?_; first | rw [h1] | rw [h2])
      go_ret
      exact ⟨rB (by simp [Pl.foOk, h1, h2]), kept_alloc _ _⟩
    · by_cases h3 : 1 ≤ x.k ∧ x.k ≤ 5
      · have h3b : (decide (1 ≤ x.k) && decide (x.k ≤ 5)) = true := by simp [h3]
        by_cases h4 : x.k ≤ 3
        all_goals
          go_enter Try.func22, Try.ntmps22
          go_wp2_with (first | (go_at_call 52; refine st (l1Value _ _ _) ?_; first | rw [h1] | rw [h2]) | (go_at_call 53; refine st (l1In _ _ _ _) ?_; rw [h3b]))
          go_ret
          exact ⟨rB (by simp [Pl.foOk, h1, h2, h3, h4]), kept_alloc _ _⟩
      · have h3b : (decide (1 ≤ x.k) && decide (x.k ≤ 5)) = false := by simp; omega
        go_enter Try.func22, Try.ntmps22
        go_wp2_with (first | (go_at_call 52; refine st (l1Value _ _ _) ?_; first | rw [h1] | rw [h2]) | (go_at_call 53; refine st (l1In _ _ _ _) ?_; rw [h3b]))
        go_ret
        exact ⟨rB (by simp [Pl.foOk, h1, h2, h3b]), kept_alloc _ _⟩
end Go.Proofs.Ytobegcbnjlnifaa

namespace Go.Proofs.Ytobegcbnjlnifaa
open Go.RowKit
set_option linter.unusedVariables false
/-- whether a note is good, as the model asks it -/
def Pl.lzM (z : Pl.Lz) : Bool := bif !Pl.flags z.b || (!Pl.foNone z.l && !Pl.foOk z.l) then false else bif Pl.foNone z.r then !Pl.sumK z.l.k else bif !Pl.sumK z.r.k || (!Pl.foOk z.r || Pl.foNone z.l) then false else !Pl.sumK z.l.k || Pl.foSame z.l z.r
theorem Pl.lzM_eq (z : Pl.Lz) : Pl.lzM z = Pl.lzOk z := by
  unfold Pl.lzM Pl.lzOk
  cases hF : Pl.flags z.b
  · rfl
  · cases hl : Pl.foNone z.l
    · cases ho : Pl.foOk z.l
      · rfl
      · cases hr : Pl.foNone z.r
        · cases hs : Pl.sumK z.l.k
          · cases h1 : Pl.sumK z.r.k <;> cases h2 : Pl.foOk z.r <;> rfl
          · cases h1 : Pl.sumK z.r.k
            · cases h3 : Pl.foSame z.r z.l
              · rfl
              · rw [Pl.foSame_ok h3, hs] at h1; cases h1
            · cases h2 : Pl.foOk z.r
              · cases h3 : Pl.foSame z.r z.l
                · rfl
                · rw [Pl.foSame_ok h3, ho] at h2; cases h2
              · show Pl.foSame z.l z.r = Pl.foSame z.r z.l
                exact Pl.foSame_comm _ _
        · cases hs : Pl.sumK z.l.k
          · rfl
          · cases h3 : Pl.foSame z.r z.l
            · rfl
            · rw [Pl.foSame_ok h3, hl] at hr; cases hr
    · have hs : Pl.sumK z.l.k = false := by rw [Pl.foNone_ok hl]; rfl
      rw [hs]
      cases hr : Pl.foNone z.r
      · cases h1 : Pl.sumK z.r.k <;> cases h2 : Pl.foOk z.r <;> rfl
      · rfl
set_option maxRecDepth 100000 in
set_option maxHeartbeats 4000000 in
theorem specGoodLazy (w : World) (z : Pl.Lz) : Calls Try.prog 29 #[.agg (lzA z)] w fun e w' => e = .returned (.bool (Pl.lzOk z)) ∧ Kept 0 0 w w' := by
  have he := eqFo z.l z.r
  have K0 := hide (kept_alloc w (.cells (lzA z) 29))
  have B0 := hide (Blk.new w (lzA z) 29)
  have q := B0.out.all
  rw [← Pl.lzM_eq]
  cases F : Pl.flags z.b
  · go_enter Try.func29, Try.ntmps29
    go_wp2_with (first | (go_at_call 39; refine st (l1Flags _ _) ?_; rw [F]) | (go_at_call 57; (first | (with_reducible refine (specNone _ z.l).mono ?_; rw [NL]) | (with_reducible refine (specNone _ z.r).mono ?_; rw [NR])); rintro e9 w9 ⟨rfl, k9⟩; replace K0 := hide (K0.out.trans k9); replace B0 := hide (B0.out.kept0 k9); clear q; have q := B0.out.all; clear k9) | (go_at_call 22; (first | (with_reducible refine (specFo _ z.l).mono ?_; rw [OL]) | (with_reducible refine (specFo _ z.r).mono ?_; rw [OR])); rintro e9 w9 ⟨rfl, k9⟩; replace K0 := hide (K0.out.trans k9); replace B0 := hide (B0.out.kept0 k9); clear q; have q := B0.out.all; clear k9) | (go_at_call 58; (first | (with_reducible refine (specSum _ z.l).mono ?_; rw [SL]) | (with_reducible refine (specSum _ z.r).mono ?_; rw [SR])); rintro e9 w9 ⟨rfl, k9⟩; replace K0 := hide (K0.out.trans k9); replace B0 := hide (B0.out.kept0 k9); clear q; have q := B0.out.all; clear k9))
    go_ret
    exact ⟨rB (by simp [Pl.lzM, F]), K0.out⟩
  · cases NL : Pl.foNone z.l
    · cases OL : Pl.foOk z.l
      · go_enter Try.func29, Try.ntmps29
        go_wp2_with (first | (go_at_call 39; refine st (l1Flags _ _) ?_; rw [F]) | (go_at_call 57; (first | (with_reducible refine (specNone _ z.l).mono ?_; rw [NL]) | (with_reducible refine (specNone _ z.r).mono ?_; rw [NR])); rintro e9 w9 ⟨rfl, k9⟩; replace K0 := hide (K0.out.trans k9); replace B0 := hide (B0.out.kept0 k9); clear q; have q := B0.out.all; clear k9) | (go_at_call 22; (first | (with_reducible refine (specFo _ z.l).mono ?_; rw [OL]) | (with_reducible refine (specFo _ z.r).mono ?_; rw [OR])); rintro e9 w9 ⟨rfl, k9⟩; replace K0 := hide (K0.out.trans k9); replace B0 := hide (B0.out.kept0 k9); clear q; have q := B0.out.all; clear k9) | (go_at_call 58; (first | (with_reducible refine (specSum _ z.l).mono ?_; rw [SL]) | (with_reducible refine (specSum _ z.r).mono ?_; rw [SR])); rintro e9 w9 ⟨rfl, k9⟩; replace K0 := hide (K0.out.trans k9); replace B0 := hide (B0.out.kept0 k9); clear q; have q := B0.out.all; clear k9))
        go_ret
        exact ⟨rB (by simp [Pl.lzM, F, NL, OL]), K0.out⟩
      · cases NR : Pl.foNone z.r
        · cases SR : Pl.sumK z.r.k
          · go_enter Try.func29, Try.ntmps29
            go_wp2_with (first | (go_at_call 39; refine st (l1Flags _ _) ?_; rw [F]) | (go_at_call 57; (first | (with_reducible refine (specNone _ z.l).mono ?_; rw [NL]) | (with_reducible refine (specNone _ z.r).mono ?_; rw [NR])); rintro e9 w9 ⟨rfl, k9⟩; replace K0 := hide (K0.out.trans k9); replace B0 := hide (B0.out.kept0 k9); clear q; have q := B0.out.all; clear k9) | (go_at_call 22; (first | (with_reducible refine (specFo _ z.l).mono ?_; rw [OL]) | (with_reducible refine (specFo _ z.r).mono ?_; rw [OR])); rintro e9 w9 ⟨rfl, k9⟩; replace K0 := hide (K0.out.trans k9); replace B0 := hide (B0.out.kept0 k9); clear q; have q := B0.out.all; clear k9) | (go_at_call 58; (first | (with_reducible refine (specSum _ z.l).mono ?_; rw [SL]) | (with_reducible refine (specSum _ z.r).mono ?_; rw [SR])); rintro e9 w9 ⟨rfl, k9⟩; replace K0 := hide (K0.out.trans k9); replace B0 := hide (B0.out.kept0 k9); clear q; have q := B0.out.all; clear k9))
            go_ret
            exact ⟨rB (by simp [Pl.lzM, F, NL, OL, NR, SR]), K0.out⟩
          · cases OR : Pl.foOk z.r
            · go_enter Try.func29, Try.ntmps29
              go_wp2_with (first | (go_at_call 39; refine st (l1Flags _ _) ?_; rw [F]) | (go_at_call 57; (first | (with_reducible refine (specNone _ z.l).mono ?_; rw [NL]) | (with_reducible refine (specNone _ z.r).mono ?_; rw [NR])); rintro e9 w9 ⟨rfl, k9⟩; replace K0 := hide (K0.out.trans k9); replace B0 := hide (B0.out.kept0 k9); clear q; have q := B0.out.all; clear k9) | (go_at_call 22; (first | (with_reducible refine (specFo _ z.l).mono ?_; rw [OL]) | (with_reducible refine (specFo _ z.r).mono ?_; rw [OR])); rintro e9 w9 ⟨rfl, k9⟩; replace K0 := hide (K0.out.trans k9); replace B0 := hide (B0.out.kept0 k9); clear q; have q := B0.out.all; clear k9) | (go_at_call 58; (first | (with_reducible refine (specSum _ z.l).mono ?_; rw [SL]) | (with_reducible refine (specSum _ z.r).mono ?_; rw [SR])); rintro e9 w9 ⟨rfl, k9⟩; replace K0 := hide (K0.out.trans k9); replace B0 := hide (B0.out.kept0 k9); clear q; have q := B0.out.all; clear k9))
              go_ret
              exact ⟨rB (by simp [Pl.lzM, F, NL, OL, NR, SR, OR]), K0.out⟩
            · cases SL : Pl.sumK z.l.k
              · go_enter Try.func29, Try.ntmps29
                go_wp2_with (first | (go_at_call 39; refine st (l1Flags _ _) ?_; rw [F]) | (go_at_call 57; (first | (with_reducible refine (specNone _ z.l).mono ?_; rw [NL]) | (with_reducible refine (specNone _ z.r).mono ?_; rw [NR])); rintro e9 w9 ⟨rfl, k9⟩; replace K0 := hide (K0.out.trans k9); replace B0 := hide (B0.out.kept0 k9); clear q; have q := B0.out.all; clear k9) | (go_at_call 22; (first | (with_reducible refine (specFo _ z.l).mono ?_; rw [OL]) | (with_reducible refine (specFo _ z.r).mono ?_; rw [OR])); rintro e9 w9 ⟨rfl, k9⟩; replace K0 := hide (K0.out.trans k9); replace B0 := hide (B0.out.kept0 k9); clear q; have q := B0.out.all; clear k9) | (go_at_call 58; (first | (with_reducible refine (specSum _ z.l).mono ?_; rw [SL]) | (with_reducible refine (specSum _ z.r).mono ?_; rw [SR])); rintro e9 w9 ⟨rfl, k9⟩; replace K0 := hide (K0.out.trans k9); replace B0 := hide (B0.out.kept0 k9); clear q; have q := B0.out.all; clear k9))
                go_ret
                exact ⟨rB (by simp [Pl.lzM, F, NL, OL, NR, SR, OR, SL]), K0.out⟩
              · go_enter Try.func29, Try.ntmps29
                go_wp2_with (first | (go_at_call 39; refine st (l1Flags _ _) ?_; rw [F]) | (go_at_call 57; (first | (with_reducible refine (specNone _ z.l).mono ?_; rw [NL]) | (with_reducible refine (specNone _ z.r).mono ?_; rw [NR])); rintro e9 w9 ⟨rfl, k9⟩; replace K0 := hide (K0.out.trans k9); replace B0 := hide (B0.out.kept0 k9); clear q; have q := B0.out.all; clear k9) | (go_at_call 22; (first | (with_reducible refine (specFo _ z.l).mono ?_; rw [OL]) | (with_reducible refine (specFo _ z.r).mono ?_; rw [OR])); rintro e9 w9 ⟨rfl, k9⟩; replace K0 := hide (K0.out.trans k9); replace B0 := hide (B0.out.kept0 k9); clear q; have q := B0.out.all; clear k9) | (go_at_call 58; (first | (with_reducible refine (specSum _ z.l).mono ?_; rw [SL]) | (with_reducible refine (specSum _ z.r).mono ?_; rw [SR])); rintro e9 w9 ⟨rfl, k9⟩; replace K0 := hide (K0.out.trans k9); replace B0 := hide (B0.out.kept0 k9); clear q; have q := B0.out.all; clear k9))
                go_ret
                exact ⟨rB (by simp [Pl.lzM, F, NL, OL, NR, SR, OR, SL]), K0.out⟩
        · cases SL : Pl.sumK z.l.k
          · go_enter Try.func29, Try.ntmps29
            go_wp2_with (first | (go_at_call 39; refine st (l1Flags _ _) ?_; rw [F]) | (go_at_call 57; (first | (with_reducible refine (specNone _ z.l).mono ?_; rw [NL]) | (with_reducible refine (specNone _ z.r).mono ?_; rw [NR])); rintro e9 w9 ⟨rfl, k9⟩; replace K0 := hide (K0.out.trans k9); replace B0 := hide (B0.out.kept0 k9); clear q; have q := B0.out.all; clear k9) | (go_at_call 22; (first | (with_reducible refine (specFo _ z.l).mono ?_; rw [OL]) | (with_reducible refine (specFo _ z.r).mono ?_; rw [OR])); rintro e9 w9 ⟨rfl, k9⟩; replace K0 := hide (K0.out.trans k9); replace B0 := hide (B0.out.kept0 k9); clear q; have q := B0.out.all; clear k9) | (go_at_call 58; (first | (with_reducible refine (specSum _ z.l).mono ?_; rw [SL]) | (with_reducible refine (specSum _ z.r).mono ?_; rw [SR])); rintro e9 w9 ⟨rfl, k9⟩; replace K0 := hide (K0.out.trans k9); replace B0 := hide (B0.out.kept0 k9); clear q; have q := B0.out.all; clear k9))
            go_ret
            exact ⟨rB (by simp [Pl.lzM, F, NL, OL, NR, SL]), K0.out⟩
          · go_enter Try.func29, Try.ntmps29
            go_wp2_with (first | (go_at_call 39; refine st (l1Flags _ _) ?_; rw [F]) | (go_at_call 57; (first | (with_reducible refine (specNone _ z.l).mono ?_; rw [NL]) | (with_reducible refine (specNone _ z.r).mono ?_; rw [NR])); rintro e9 w9 ⟨rfl, k9⟩; replace K0 := hide (K0.out.trans k9); replace B0 := hide (B0.out.kept0 k9); clear q; have q := B0.out.all; clear k9) | (go_at_call 22; (first | (with_reducible refine (specFo _ z.l).mono ?_; rw [OL]) | (with_reducible refine (specFo _ z.r).mono ?_; rw [OR])); rintro e9 w9 ⟨rfl, k9⟩; replace K0 := hide (K0.out.trans k9); replace B0 := hide (B0.out.kept0 k9); clear q; have q := B0.out.all; clear k9) | (go_at_call 58; (first | (with_reducible refine (specSum _ z.l).mono ?_; rw [SL]) | (with_reducible refine (specSum _ z.r).mono ?_; rw [SR])); rintro e9 w9 ⟨rfl, k9⟩; replace K0 := hide (K0.out.trans k9); replace B0 := hide (B0.out.kept0 k9); clear q; have q := B0.out.all; clear k9))
            go_ret
            exact ⟨rB (by simp [Pl.lzM, F, NL, OL, NR, SL]), K0.out⟩
    · cases NR : Pl.foNone z.r
      · cases SR : Pl.sumK z.r.k
        · go_enter Try.func29, Try.ntmps29
          go_wp2_with (first | (go_at_call 39; refine st (l1Flags _ _) ?_; rw [F]) | (go_at_call 57; (first | (with_reducible refine (specNone _ z.l).mono ?_; rw [NL]) | (with_reducible refine (specNone _ z.r).mono ?_; rw [NR])); rintro e9 w9 ⟨rfl, k9⟩; replace K0 := hide (K0.out.trans k9); replace B0 := hide (B0.out.kept0 k9); clear q; have q := B0.out.all; clear k9) | (go_at_call 22; (first | (with_reducible refine (specFo _ z.l).mono ?_; rw [OL]) | (with_reducible refine (specFo _ z.r).mono ?_; rw [OR])); rintro e9 w9 ⟨rfl, k9⟩; replace K0 := hide (K0.out.trans k9); replace B0 := hide (B0.out.kept0 k9); clear q; have q := B0.out.all; clear k9) | (go_at_call 58; (first | (with_reducible refine (specSum _ z.l).mono ?_; rw [SL]) | (with_reducible refine (specSum _ z.r).mono ?_; rw [SR])); rintro e9 w9 ⟨rfl, k9⟩; replace K0 := hide (K0.out.trans k9); replace B0 := hide (B0.out.kept0 k9); clear q; have q := B0.out.all; clear k9))
          go_ret
          exact ⟨rB (by simp [Pl.lzM, F, NL, NR, SR]), K0.out⟩
        · cases OR : Pl.foOk z.r
          · go_enter Try.func29, Try.ntmps29
            go_wp2_with (first | (go_at_call 39; refine st (l1Flags _ _) ?_; rw [F]) | (go_at_call 57; (first | (with_reducible refine (specNone _ z.l).mono ?_; rw [NL]) | (with_reducible refine (specNone _ z.r).mono ?_; rw [NR])); rintro e9 w9 ⟨rfl, k9⟩; replace K0 := hide (K0.out.trans k9); replace B0 := hide (B0.out.kept0 k9); clear q; have q := B0.out.all; clear k9) | (go_at_call 22; (first | (with_reducible refine (specFo _ z.l).mono ?_; rw [OL]) | (with_reducible refine (specFo _ z.r).mono ?_; rw [OR])); rintro e9 w9 ⟨rfl, k9⟩; replace K0 := hide (K0.out.trans k9); replace B0 := hide (B0.out.kept0 k9); clear q; have q := B0.out.all; clear k9) | (go_at_call 58; (first | (with_reducible refine (specSum _ z.l).mono ?_; rw [SL]) | (with_reducible refine (specSum _ z.r).mono ?_; rw [SR])); rintro e9 w9 ⟨rfl, k9⟩; replace K0 := hide (K0.out.trans k9); replace B0 := hide (B0.out.kept0 k9); clear q; have q := B0.out.all; clear k9))
            go_ret
            exact ⟨rB (by simp [Pl.lzM, F, NL, NR, SR, OR]), K0.out⟩
          · go_enter Try.func29, Try.ntmps29
            go_wp2_with (first | (go_at_call 39; refine st (l1Flags _ _) ?_; rw [F]) | (go_at_call 57; (first | (with_reducible refine (specNone _ z.l).mono ?_; rw [NL]) | (with_reducible refine (specNone _ z.r).mono ?_; rw [NR])); rintro e9 w9 ⟨rfl, k9⟩; replace K0 := hide (K0.out.trans k9); replace B0 := hide (B0.out.kept0 k9); clear q; have q := B0.out.all; clear k9) | (go_at_call 22; (first | (with_reducible refine (specFo _ z.l).mono ?_; rw [OL]) | (with_reducible refine (specFo _ z.r).mono ?_; rw [OR])); rintro e9 w9 ⟨rfl, k9⟩; replace K0 := hide (K0.out.trans k9); replace B0 := hide (B0.out.kept0 k9); clear q; have q := B0.out.all; clear k9) | (go_at_call 58; (first | (with_reducible refine (specSum _ z.l).mono ?_; rw [SL]) | (with_reducible refine (specSum _ z.r).mono ?_; rw [SR])); rintro e9 w9 ⟨rfl, k9⟩; replace K0 := hide (K0.out.trans k9); replace B0 := hide (B0.out.kept0 k9); clear q; have q := B0.out.all; clear k9))
            go_ret
            exact ⟨rB (by simp [Pl.lzM, F, NL, NR, SR, OR]), K0.out⟩
      · cases SL : Pl.sumK z.l.k
        · go_enter Try.func29, Try.ntmps29
          go_wp2_with (first | (go_at_call 39; refine st (l1Flags _ _) ?_; rw [F]) | (go_at_call 57; (first | (with_reducible refine (specNone _ z.l).mono ?_; rw [NL]) | (with_reducible refine (specNone _ z.r).mono ?_; rw [NR])); rintro e9 w9 ⟨rfl, k9⟩; replace K0 := hide (K0.out.trans k9); replace B0 := hide (B0.out.kept0 k9); clear q; have q := B0.out.all; clear k9) | (go_at_call 22; (first | (with_reducible refine (specFo _ z.l).mono ?_; rw [OL]) | (with_reducible refine (specFo _ z.r).mono ?_; rw [OR])); rintro e9 w9 ⟨rfl, k9⟩; replace K0 := hide (K0.out.trans k9); replace B0 := hide (B0.out.kept0 k9); clear q; have q := B0.out.all; clear k9) | (go_at_call 58; (first | (with_reducible refine (specSum _ z.l).mono ?_; rw [SL]) | (with_reducible refine (specSum _ z.r).mono ?_; rw [SR])); rintro e9 w9 ⟨rfl, k9⟩; replace K0 := hide (K0.out.trans k9); replace B0 := hide (B0.out.kept0 k9); clear q; have q := B0.out.all; clear k9))
          go_ret
          exact ⟨rB (by simp [Pl.lzM, F, NL, NR, SL]), K0.out⟩
        · go_enter Try.func29, Try.ntmps29
          go_wp2_with (first | (go_at_call 39; refine st (l1Flags _ _) ?_; rw [F]) | (go_at_call 57; (first | (with_reducible refine (specNone _ z.l).mono ?_; rw [NL]) | (with_reducible refine (specNone _ z.r).mono ?_; rw [NR])); rintro e9 w9 ⟨rfl, k9⟩; replace K0 := hide (K0.out.trans k9); replace B0 := hide (B0.out.kept0 k9); clear q; have q := B0.out.all; clear k9) | (go_at_call 22; (first | (with_reducible refine (specFo _ z.l).mono ?_; rw [OL]) | (with_reducible refine (specFo _ z.r).mono ?_; rw [OR])); rintro e9 w9 ⟨rfl, k9⟩; replace K0 := hide (K0.out.trans k9); replace B0 := hide (B0.out.kept0 k9); clear q; have q := B0.out.all; clear k9) | (go_at_call 58; (first | (with_reducible refine (specSum _ z.l).mono ?_; rw [SL]) | (with_reducible refine (specSum _ z.r).mono ?_; rw [SR])); rintro e9 w9 ⟨rfl, k9⟩; replace K0 := hide (K0.out.trans k9); replace B0 := hide (B0.out.kept0 k9); clear q; have q := B0.out.all; clear k9))
          go_ret
          exact ⟨rB (by simp [Pl.lzM, F, NL, NR, SL]), K0.out⟩
theorem specSumA (w : World) (x : Pl.Fo) : Calls Try.prog 58 #[.agg (foA x)] w fun e w' => e = .returned (.bool (Pl.sumK x.k)) ∧ ∃ o, w' = w.alloc o := by
  obtain ⟨k, z, a, b⟩ := x
  by_cases h1 : k = 1
  · subst h1
    go_enter Try.func58, Try.ntmps58
    go_wp2_with fail
    go_ret
    exact ⟨rfl, _, rfl⟩
  · by_cases h2 : k = 2
    · subst h2
      go_enter Try.func58, Try.ntmps58
      go_wp2_with fail
      go_ret
      exact ⟨rfl, _, rfl⟩
    · have k1 : (k == 1) = false := by simpa using h1
      have k2 : (k == 2) = false := by simpa using h2
      go_enter Try.func58, Try.ntmps58
      go_wp2_with fail
      go_ret
      exact ⟨rB (by simp [Pl.sumK, h1, h2]), _, rfl⟩
theorem specNote (w : World) (z : Pl.Lz) (x : Pl.Fo) : Calls Try.prog 41 #[.agg (lzA z), .agg (foA x)] w fun e w' => e = .returned (.agg (lzA (Pl.note z x))) ∧ Kept 0 0 w w' := by
  cases S : Pl.sumK x.k
  all_goals
    go_enter Try.func41, Try.ntmps41
    go_wp2_with (go_at_call 58; refine (specSumA _ x).mono ?_; rw [S]; rintro e9 w9 ⟨rfl, o9, rfl⟩)
    refine bodyPost_ret (v := .agg (lzA (Pl.note z x))) ?_ rfl ⟨rfl, ?_⟩
    · rw [results_one rfl]; go_simp; simp [Pl.note, S]
    · repeat (first | with_reducible exact Kept.refl _ _ _ | refine kept_new ?_ _ | refine kept_set ?_ _ _ _ (.inr (by simp)))
theorem results_c1t {fn : Func} {p q : Tmp} {ty : TypeId} (h : fn.results = #[.cell p ty, .tmp q]) (tmps : Array Value) (P : Program) (w : World) :
    (results fn tmps).run P w = ((asAddr (tmps.getD p undef)).run P w).andThen fun a w₁ => ((loadVar ty a).run P w₁).andThen fun v w₂ => .ok (.tuple #[v, tmps.getD q undef]) w₂ := by
  simp only [results, h]
  simp [Sem.run_bind, Result.andThen]
end Go.Proofs.Ytobegcbnjlnifaa

namespace Go.Proofs.Ytobegcbnjlnifaa
open Go.RowKit
set_option linter.unusedVariables false
set_option maxRecDepth 100000 in
set_option maxHeartbeats 4000000 in
theorem specNoteOf (w : World) (z : Pl.Lz) (x : Pl.Fo) : Calls Try.prog 31 #[.agg (lzA z), .agg (foA x)] w fun e w' => e = .returned (.tuple #[.agg (lzA (Pl.noteV z x)), .bool (Pl.lzOk z && Pl.foOk x)]) ∧ Kept 0 0 w w' := by
  have K0 := hide (kept_new (kept_new (kept_alloc w (.cells (lzA z) 29)) (.cells (foA x) 27)) (.cells #[iv 0, iv 0, iv 0, iv 0, iv 0, iv 0, iv 0, iv 0, iv 0] 29))
  have B0 := hide (((Blk.new w (lzA z) 29).alloc (.cells (foA x) 27)).alloc (.cells #[iv 0, iv 0, iv 0, iv 0, iv 0, iv 0, iv 0, iv 0, iv 0] 29))
  have B1 := (Blk.new (w.alloc (.cells (lzA z) 29)) (foA x) 27).alloc (.cells #[iv 0, iv 0, iv 0, iv 0, iv 0, iv 0, iv 0, iv 0, iv 0] 29)
  have B2 := Blk.new ((w.alloc (.cells (lzA z) 29)).alloc (.cells (foA x) 27)) #[iv 0, iv 0, iv 0, iv 0, iv 0, iv 0, iv 0, iv 0, iv 0] 29
  simp only [World.size_alloc] at B1 B2
  replace B1 := hide B1
  replace B2 := hide B2
  have q := B0.out.all
  have q1 := B1.out.all
  have q2 := B2.out.all
  have f2 := B2.out.fz
  cases G : Pl.lzOk z
  · have E : Hid (Pl.noteV z x = Pl.lzNo) := hide (by simp [Pl.noteV, G])
    go_enter Try.func31, Try.ntmps31
    go_wp2_with (go_at_call 29; with_reducible refine (specGoodLazy _ z).mono ?_; rw [G]; rintro e9 w9 ⟨rfl, k9⟩; replace K0 := hide (K0.out.trans k9); replace B0 := hide (B0.out.kept0 k9); replace B1 := hide (B1.out.kept0 k9); replace B2 := hide (B2.out.kept0 k9); clear q q1 q2 f2; have q := B0.out.all; have q1 := B1.out.all; have q2 := B2.out.all; have f2 := B2.out.fz; clear k9)
    refine bodyPost_ret (v := .tuple #[.agg (lzA Pl.lzNo), .bool false]) ?_ rfl ⟨by rw [E.out]; rfl, ?_⟩
    · rw [results_c1t rfl]; go_simp; simp [Pl.lzNo, Pl.foNo]
    · repeat (first | with_reducible exact K0.out | refine kept_set ?_ _ _ _ (.inr (by omega)))
  · cases O : Pl.foOk x
    · have E : Hid (Pl.noteV z x = Pl.lzNo) := hide (by simp [Pl.noteV, G, O])
      go_enter Try.func31, Try.ntmps31
      go_wp2_with (first | (go_at_call 29; with_reducible refine (specGoodLazy _ z).mono ?_; rw [G]; rintro e9 w9 ⟨rfl, k9⟩; replace K0 := hide (K0.out.trans k9); replace B0 := hide (B0.out.kept0 k9); replace B1 := hide (B1.out.kept0 k9); replace B2 := hide (B2.out.kept0 k9); clear q q1 q2 f2; have q := B0.out.all; have q1 := B1.out.all; have q2 := B2.out.all; have f2 := B2.out.fz; clear k9) | (go_at_call 22; with_reducible refine (specFo _ x).mono ?_; rw [O]; rintro e9 w9 ⟨rfl, k9⟩; replace K0 := hide (K0.out.trans k9); replace B0 := hide (B0.out.kept0 k9); replace B1 := hide (B1.out.kept0 k9); replace B2 := hide (B2.out.kept0 k9); clear q q1 q2 f2; have q := B0.out.all; have q1 := B1.out.all; have q2 := B2.out.all; have f2 := B2.out.fz; clear k9))
      refine bodyPost_ret (v := .tuple #[.agg (lzA Pl.lzNo), .bool false]) ?_ rfl ⟨by rw [E.out]; rfl, ?_⟩
      · rw [results_c1t rfl]; go_simp; simp [Pl.lzNo, Pl.foNo]
      · repeat (first | with_reducible exact K0.out | refine kept_set ?_ _ _ _ (.inr (by omega)))
    · have E : Hid (Pl.noteV z x = Pl.note z x) := hide (by simp [Pl.noteV, G, O])
      obtain ⟨N, hN⟩ : ∃ N, Pl.note z x = N := ⟨_, rfl⟩
      have HN := hide hN
      clear hN
      go_enter Try.func31, Try.ntmps31
      go_wp2_with (first | (go_at_call 29; with_reducible refine (specGoodLazy _ z).mono ?_; rw [G]; rintro e9 w9 ⟨rfl, k9⟩; replace K0 := hide (K0.out.trans k9); replace B0 := hide (B0.out.kept0 k9); replace B1 := hide (B1.out.kept0 k9); replace B2 := hide (B2.out.kept0 k9); clear q q1 q2 f2; have q := B0.out.all; have q1 := B1.out.all; have q2 := B2.out.all; have f2 := B2.out.fz; clear k9) | (go_at_call 22; with_reducible refine (specFo _ x).mono ?_; rw [O]; rintro e9 w9 ⟨rfl, k9⟩; replace K0 := hide (K0.out.trans k9); replace B0 := hide (B0.out.kept0 k9); replace B1 := hide (B1.out.kept0 k9); replace B2 := hide (B2.out.kept0 k9); clear q q1 q2 f2; have q := B0.out.all; have q1 := B1.out.all; have q2 := B2.out.all; have f2 := B2.out.fz; clear k9) | (go_at_call 41; with_reducible refine (specNote _ z x).mono ?_; rw [HN.out]; rintro e9 w9 ⟨rfl, k9⟩; replace K0 := hide (K0.out.trans k9); replace B0 := hide (B0.out.kept0 k9); replace B1 := hide (B1.out.kept0 k9); replace B2 := hide (B2.out.kept0 k9); clear q q1 q2 f2; have q := B0.out.all; have q1 := B1.out.all; have q2 := B2.out.all; have f2 := B2.out.fz; clear k9))
      refine bodyPost_ret (v := .tuple #[.agg (lzA N), .bool true]) ?_ rfl ⟨by rw [E.out, HN.out]; rfl, ?_⟩
      · rw [results_c1t rfl]; go_simp
      · repeat (first | with_reducible exact K0.out | refine kept_set ?_ _ _ _ (.inr (by omega)))
end Go.Proofs.Ytobegcbnjlnifaa

namespace Go.Proofs.Ytobegcbnjlnifaa
open Go.RowKit
set_option linter.unusedVariables false
theorem implNone (w : World) (x : Pl.Fo) : Calls Try.prog 48 #[.agg (foA x)] w fun e w' => e = .returned (.bool (Pl.foNone x)) ∧ Kept 0 0 w w' := by
  have he := eqFo0 x
  go_enter Try.func48, Try.ntmps48
  go_wp2_with fail
  go_ret
  exact ⟨rfl, kept_alloc _ _⟩
theorem implSum (k : Int) (w : World) : Calls Try.prog 49 #[iv k] w fun e w' => e = .returned (.bool (Pl.sumK k)) ∧ w' = w := by
  by_cases h1 : k = 1
  · subst h1
    go_enter Try.func49, Try.ntmps49
    go_wp2_with fail
    go_ret
    exact ⟨rfl, rfl⟩
  · have k1 : (k == 1) = false := by simpa using h1
    go_enter Try.func49, Try.ntmps49
    go_wp2_with fail
    go_ret
    exact ⟨rB (by simp [Pl.sumK, h1]), rfl⟩
theorem implTakesB (k : Int) (w : World) : Calls Try.prog 55 #[iv k] w fun e w' => e = .returned (.bool (Pl.sumK k || (k == 3))) ∧ w' = w := by
  cases S : Pl.sumK k
  all_goals
    go_enter Try.func55, Try.ntmps55
    go_wp2_with (go_at_call 49; refine st (implSum k _) ?_; rw [S])
    go_ret
    exact ⟨rB (by simp), rfl⟩
theorem implFo (w : World) (x : Pl.Fo) (wf : FoW x) : Calls Try.prog 24 #[.agg (foA x)] w fun e w' => e = .returned (.bool (Pl.foOk x)) ∧ Kept 0 0 w w' := by
  obtain ⟨la, ha⟩ := bounds_i64 wf.a
  obtain ⟨lb, hb⟩ := bounds_i64 wf.b
  obtain ⟨k, z, a, b⟩ := x
  simp only at la ha lb hb
  clear wf
  cases P : (Pl.okv z a && Pl.okv z b)
  · go_enter Try.func24, Try.ntmps24
    go_wp2_with (go_at_call 54; refine st (signedPair z a b _ la ha lb hb) ?_; rw [P])
    go_ret
    exact ⟨rB (by simp only [Pl.foOk]; rw [P]; rfl), kept_alloc _ _⟩
  · by_cases h1 : 1 ≤ k
    · by_cases h5 : k ≤ 5
      · cases T : (Pl.sumK k || (k == 3))
        · have h3 : ¬ k ≤ 3 := by simp [Pl.sumK] at T; omega
          have E : Hid (Pl.foOk ⟨k, z, a, b⟩ = (b == 0)) := hide (by simp only [Pl.foOk]; rw [P, decide_eq_true h1, decide_eq_true h5, decide_eq_false h3]; simp)
          go_enter Try.func24, Try.ntmps24
          go_wp2_with (first | (go_at_call 54; refine st (signedPair z a b _ la ha lb hb) ?_; rw [P]) | (go_at_call 55; refine st (implTakesB k _) ?_; rw [T]))
          go_ret
          exact ⟨rB E.out.symm, kept_alloc _ _⟩
        · have h3 : k ≤ 3 := by simp [Pl.sumK] at T; omega
          have E : Hid (Pl.foOk ⟨k, z, a, b⟩ = true) := hide (by simp only [Pl.foOk]; rw [P, decide_eq_true h1, decide_eq_true h5, decide_eq_true h3]; simp)
          go_enter Try.func24, Try.ntmps24
          go_wp2_with (first | (go_at_call 54; refine st (signedPair z a b _ la ha lb hb) ?_; rw [P]) | (go_at_call 55; refine st (implTakesB k _) ?_; rw [T]))
          go_ret
          exact ⟨rB E.out.symm, kept_alloc _ _⟩
      · have E : Hid (Pl.foOk ⟨k, z, a, b⟩ = false) := hide (by simp only [Pl.foOk]; rw [decide_eq_false h5]; simp)
        go_enter Try.func24, Try.ntmps24
        go_wp2_with (go_at_call 54; refine st (signedPair z a b _ la ha lb hb) ?_; rw [P])
        go_ret
        exact ⟨rB E.out.symm, kept_alloc _ _⟩
    · have E : Hid (Pl.foOk ⟨k, z, a, b⟩ = false) := hide (by simp only [Pl.foOk]; rw [decide_eq_false h1]; simp)
      go_enter Try.func24, Try.ntmps24
      go_wp2_with (go_at_call 54; refine st (signedPair z a b _ la ha lb hb) ?_; rw [P])
      go_ret
      exact ⟨rB E.out.symm, kept_alloc _ _⟩
set_option maxRecDepth 100000 in
set_option maxHeartbeats 4000000 in
theorem implGoodLazy (w : World) (z : Pl.Lz) (wf : LzW z) : Calls Try.prog 19 #[.agg (lzA z)] w fun e w' => e = .returned (.bool (Pl.lzOk z)) ∧ Kept 0 0 w w' := by
  have he := eqFo z.r z.l
  have K0 := hide (kept_alloc w (.cells (lzA z) 29))
  have B0 := hide (Blk.new w (lzA z) 29)
  have q := B0.out.all
  cases F : Pl.flags z.b
  · go_enter Try.func19, Try.ntmps19
    go_wp2_with (first | (go_at_call 47; refine st (isFlags _ _) ?_; rw [F]) | (go_at_call 48; (first | (with_reducible refine (implNone _ z.l).mono ?_; rw [NL]) | (with_reducible refine (implNone _ z.r).mono ?_; rw [NR])); rintro e9 w9 ⟨rfl, k9⟩; replace K0 := hide (K0.out.trans k9); replace B0 := hide (B0.out.kept0 k9); clear q; have q := B0.out.all; clear k9) | (go_at_call 24; (first | (with_reducible refine (implFo _ z.l wf.l).mono ?_; rw [OL]) | (with_reducible refine (implFo _ z.r wf.r).mono ?_; rw [OR])); rintro e9 w9 ⟨rfl, k9⟩; replace K0 := hide (K0.out.trans k9); replace B0 := hide (B0.out.kept0 k9); clear q; have q := B0.out.all; clear k9) | (go_at_call 49; (first | (with_reducible refine st (implSum z.l.k _) ?_; rw [SL]) | (with_reducible refine st (implSum z.r.k _) ?_; rw [SR]))))
    go_ret
    exact ⟨rB (by simp [Pl.lzOk, F]), K0.out⟩
  · cases NL : Pl.foNone z.l
    · cases OL : Pl.foOk z.l
      · go_enter Try.func19, Try.ntmps19
        go_wp2_with (first | (go_at_call 47; refine st (isFlags _ _) ?_; rw [F]) | (go_at_call 48; (first | (with_reducible refine (implNone _ z.l).mono ?_; rw [NL]) | (with_reducible refine (implNone _ z.r).mono ?_; rw [NR])); rintro e9 w9 ⟨rfl, k9⟩; replace K0 := hide (K0.out.trans k9); replace B0 := hide (B0.out.kept0 k9); clear q; have q := B0.out.all; clear k9) | (go_at_call 24; (first | (with_reducible refine (implFo _ z.l wf.l).mono ?_; rw [OL]) | (with_reducible refine (implFo _ z.r wf.r).mono ?_; rw [OR])); rintro e9 w9 ⟨rfl, k9⟩; replace K0 := hide (K0.out.trans k9); replace B0 := hide (B0.out.kept0 k9); clear q; have q := B0.out.all; clear k9) | (go_at_call 49; (first | (with_reducible refine st (implSum z.l.k _) ?_; rw [SL]) | (with_reducible refine st (implSum z.r.k _) ?_; rw [SR]))))
        go_ret
        exact ⟨rB (by simp [Pl.lzOk, F, NL, OL]), K0.out⟩
      · cases SL : Pl.sumK z.l.k
        · cases NR : Pl.foNone z.r
          · cases SR : Pl.sumK z.r.k
            · go_enter Try.func19, Try.ntmps19
              go_wp2_with (first | (go_at_call 47; refine st (isFlags _ _) ?_; rw [F]) | (go_at_call 48; (first | (with_reducible refine (implNone _ z.l).mono ?_; rw [NL]) | (with_reducible refine (implNone _ z.r).mono ?_; rw [NR])); rintro e9 w9 ⟨rfl, k9⟩; replace K0 := hide (K0.out.trans k9); replace B0 := hide (B0.out.kept0 k9); clear q; have q := B0.out.all; clear k9) | (go_at_call 24; (first | (with_reducible refine (implFo _ z.l wf.l).mono ?_; rw [OL]) | (with_reducible refine (implFo _ z.r wf.r).mono ?_; rw [OR])); rintro e9 w9 ⟨rfl, k9⟩; replace K0 := hide (K0.out.trans k9); replace B0 := hide (B0.out.kept0 k9); clear q; have q := B0.out.all; clear k9) | (go_at_call 49; (first | (with_reducible refine st (implSum z.l.k _) ?_; rw [SL]) | (with_reducible refine st (implSum z.r.k _) ?_; rw [SR]))))
              go_ret
              exact ⟨rB (by simp [Pl.lzOk, F, NL, OL, SL, NR, SR]), K0.out⟩
            · cases OR : Pl.foOk z.r
              · go_enter Try.func19, Try.ntmps19
                go_wp2_with (first | (go_at_call 47; refine st (isFlags _ _) ?_; rw [F]) | (go_at_call 48; (first | (with_reducible refine (implNone _ z.l).mono ?_; rw [NL]) | (with_reducible refine (implNone _ z.r).mono ?_; rw [NR])); rintro e9 w9 ⟨rfl, k9⟩; replace K0 := hide (K0.out.trans k9); replace B0 := hide (B0.out.kept0 k9); clear q; have q := B0.out.all; clear k9) | (go_at_call 24; (first | (with_reducible refine (implFo _ z.l wf.l).mono ?_; rw [OL]) | (with_reducible refine (implFo _ z.r wf.r).mono ?_; rw [OR])); rintro e9 w9 ⟨rfl, k9⟩; replace K0 := hide (K0.out.trans k9); replace B0 := hide (B0.out.kept0 k9); clear q; have q := B0.out.all; clear k9) | (go_at_call 49; (first | (with_reducible refine st (implSum z.l.k _) ?_; rw [SL]) | (with_reducible refine st (implSum z.r.k _) ?_; rw [SR]))))
                go_ret
                exact ⟨rB (by simp [Pl.lzOk, F, NL, OL, SL, NR, SR, OR]), K0.out⟩
              · go_enter Try.func19, Try.ntmps19
                go_wp2_with (first | (go_at_call 47; refine st (isFlags _ _) ?_; rw [F]) | (go_at_call 48; (first | (with_reducible refine (implNone _ z.l).mono ?_; rw [NL]) | (with_reducible refine (implNone _ z.r).mono ?_; rw [NR])); rintro e9 w9 ⟨rfl, k9⟩; replace K0 := hide (K0.out.trans k9); replace B0 := hide (B0.out.kept0 k9); clear q; have q := B0.out.all; clear k9) | (go_at_call 24; (first | (with_reducible refine (implFo _ z.l wf.l).mono ?_; rw [OL]) | (with_reducible refine (implFo _ z.r wf.r).mono ?_; rw [OR])); rintro e9 w9 ⟨rfl, k9⟩; replace K0 := hide (K0.out.trans k9); replace B0 := hide (B0.out.kept0 k9); clear q; have q := B0.out.all; clear k9) | (go_at_call 49; (first | (with_reducible refine st (implSum z.l.k _) ?_; rw [SL]) | (with_reducible refine st (implSum z.r.k _) ?_; rw [SR]))))
                go_ret
                exact ⟨rB (by simp [Pl.lzOk, F, NL, OL, SL, NR, SR, OR]), K0.out⟩
          · go_enter Try.func19, Try.ntmps19
            go_wp2_with (first | (go_at_call 47; refine st (isFlags _ _) ?_; rw [F]) | (go_at_call 48; (first | (with_reducible refine (implNone _ z.l).mono ?_; rw [NL]) | (with_reducible refine (implNone _ z.r).mono ?_; rw [NR])); rintro e9 w9 ⟨rfl, k9⟩; replace K0 := hide (K0.out.trans k9); replace B0 := hide (B0.out.kept0 k9); clear q; have q := B0.out.all; clear k9) | (go_at_call 24; (first | (with_reducible refine (implFo _ z.l wf.l).mono ?_; rw [OL]) | (with_reducible refine (implFo _ z.r wf.r).mono ?_; rw [OR])); rintro e9 w9 ⟨rfl, k9⟩; replace K0 := hide (K0.out.trans k9); replace B0 := hide (B0.out.kept0 k9); clear q; have q := B0.out.all; clear k9) | (go_at_call 49; (first | (with_reducible refine st (implSum z.l.k _) ?_; rw [SL]) | (with_reducible refine st (implSum z.r.k _) ?_; rw [SR]))))
            go_ret
            exact ⟨rB (by simp [Pl.lzOk, F, NL, OL, SL, NR]), K0.out⟩
        · go_enter Try.func19, Try.ntmps19
          go_wp2_with (first | (go_at_call 47; refine st (isFlags _ _) ?_; rw [F]) | (go_at_call 48; (first | (with_reducible refine (implNone _ z.l).mono ?_; rw [NL]) | (with_reducible refine (implNone _ z.r).mono ?_; rw [NR])); rintro e9 w9 ⟨rfl, k9⟩; replace K0 := hide (K0.out.trans k9); replace B0 := hide (B0.out.kept0 k9); clear q; have q := B0.out.all; clear k9) | (go_at_call 24; (first | (with_reducible refine (implFo _ z.l wf.l).mono ?_; rw [OL]) | (with_reducible refine (implFo _ z.r wf.r).mono ?_; rw [OR])); rintro e9 w9 ⟨rfl, k9⟩; replace K0 := hide (K0.out.trans k9); replace B0 := hide (B0.out.kept0 k9); clear q; have q := B0.out.all; clear k9) | (go_at_call 49; (first | (with_reducible refine st (implSum z.l.k _) ?_; rw [SL]) | (with_reducible refine st (implSum z.r.k _) ?_; rw [SR]))))
          go_ret
          exact ⟨rB (by simp [Pl.lzOk, F, NL, OL, SL]), K0.out⟩
    · cases NR : Pl.foNone z.r
      · go_enter Try.func19, Try.ntmps19
        go_wp2_with (first | (go_at_call 47; refine st (isFlags _ _) ?_; rw [F]) | (go_at_call 48; (first | (with_reducible refine (implNone _ z.l).mono ?_; rw [NL]) | (with_reducible refine (implNone _ z.r).mono ?_; rw [NR])); rintro e9 w9 ⟨rfl, k9⟩; replace K0 := hide (K0.out.trans k9); replace B0 := hide (B0.out.kept0 k9); clear q; have q := B0.out.all; clear k9) | (go_at_call 24; (first | (with_reducible refine (implFo _ z.l wf.l).mono ?_; rw [OL]) | (with_reducible refine (implFo _ z.r wf.r).mono ?_; rw [OR])); rintro e9 w9 ⟨rfl, k9⟩; replace K0 := hide (K0.out.trans k9); replace B0 := hide (B0.out.kept0 k9); clear q; have q := B0.out.all; clear k9) | (go_at_call 49; (first | (with_reducible refine st (implSum z.l.k _) ?_; rw [SL]) | (with_reducible refine st (implSum z.r.k _) ?_; rw [SR]))))
        go_ret
        exact ⟨rB (by simp [Pl.lzOk, F, NL, NR]), K0.out⟩
      · go_enter Try.func19, Try.ntmps19
        go_wp2_with (first | (go_at_call 47; refine st (isFlags _ _) ?_; rw [F]) | (go_at_call 48; (first | (with_reducible refine (implNone _ z.l).mono ?_; rw [NL]) | (with_reducible refine (implNone _ z.r).mono ?_; rw [NR])); rintro e9 w9 ⟨rfl, k9⟩; replace K0 := hide (K0.out.trans k9); replace B0 := hide (B0.out.kept0 k9); clear q; have q := B0.out.all; clear k9) | (go_at_call 24; (first | (with_reducible refine (implFo _ z.l wf.l).mono ?_; rw [OL]) | (with_reducible refine (implFo _ z.r wf.r).mono ?_; rw [OR])); rintro e9 w9 ⟨rfl, k9⟩; replace K0 := hide (K0.out.trans k9); replace B0 := hide (B0.out.kept0 k9); clear q; have q := B0.out.all; clear k9) | (go_at_call 49; (first | (with_reducible refine st (implSum z.l.k _) ?_; rw [SL]) | (with_reducible refine st (implSum z.r.k _) ?_; rw [SR]))))
        go_ret
        exact ⟨rB (by simp [Pl.lzOk, F, NL, NR]), K0.out⟩
theorem implNote (w : World) (z : Pl.Lz) (x : Pl.Fo) : Calls Try.prog 38 #[.agg (lzA z), .agg (foA x)] w fun e w' => e = .returned (.agg (lzA (Pl.note z x))) ∧ Kept 0 0 w w' := by
  cases S : Pl.sumK x.k
  all_goals
    go_enter Try.func38, Try.ntmps38
    go_wp2_with (go_at_call 49; refine st (implSum x.k _) ?_; rw [S])
    refine bodyPost_ret (v := .agg (lzA (Pl.note z x))) ?_ rfl ⟨rfl, ?_⟩
    · rw [results_one rfl]; go_simp; simp [Pl.note, S]
    · repeat (first | with_reducible exact Kept.refl _ _ _ | refine kept_new ?_ _ | refine kept_set ?_ _ _ _ (.inr (by simp)))
set_option maxRecDepth 100000 in
set_option maxHeartbeats 4000000 in
theorem implNoteOf (w : World) (z : Pl.Lz) (x : Pl.Fo) (wz : LzW z) (wx : FoW x) : Calls Try.prog 32 #[.agg (lzA z), .agg (foA x)] w fun e w' => e = .returned (.tuple #[.agg (lzA (Pl.noteV z x)), .bool (Pl.lzOk z && Pl.foOk x)]) ∧ Kept 0 0 w w' := by
  have K0 := hide (kept_new (kept_new (kept_alloc w (.cells (lzA z) 29)) (.cells (foA x) 27)) (.cells #[iv 0, iv 0, iv 0, iv 0, iv 0, iv 0, iv 0, iv 0, iv 0] 29))
  have B0 := hide (((Blk.new w (lzA z) 29).alloc (.cells (foA x) 27)).alloc (.cells #[iv 0, iv 0, iv 0, iv 0, iv 0, iv 0, iv 0, iv 0, iv 0] 29))
  have B1 := (Blk.new (w.alloc (.cells (lzA z) 29)) (foA x) 27).alloc (.cells #[iv 0, iv 0, iv 0, iv 0, iv 0, iv 0, iv 0, iv 0, iv 0] 29)
  have B2 := Blk.new ((w.alloc (.cells (lzA z) 29)).alloc (.cells (foA x) 27)) #[iv 0, iv 0, iv 0, iv 0, iv 0, iv 0, iv 0, iv 0, iv 0] 29
  simp only [World.size_alloc] at B1 B2
  replace B1 := hide B1
  replace B2 := hide B2
  have q := B0.out.all
  have q1 := B1.out.all
  have q2 := B2.out.all
  have f2 := B2.out.fz
  cases G : Pl.lzOk z
  · have E : Hid (Pl.noteV z x = Pl.lzNo) := hide (by simp [Pl.noteV, G])
    go_enter Try.func32, Try.ntmps32
    go_wp2_with (go_at_call 19; with_reducible refine (implGoodLazy _ z wz).mono ?_; rw [G]; rintro e9 w9 ⟨rfl, k9⟩; replace K0 := hide (K0.out.trans k9); replace B0 := hide (B0.out.kept0 k9); replace B1 := hide (B1.out.kept0 k9); replace B2 := hide (B2.out.kept0 k9); clear q q1 q2 f2; have q := B0.out.all; have q1 := B1.out.all; have q2 := B2.out.all; have f2 := B2.out.fz; clear k9)
    refine bodyPost_ret (v := .tuple #[.agg (lzA Pl.lzNo), .bool false]) ?_ rfl ⟨by rw [E.out]; rfl, ?_⟩
    · rw [results_c1t rfl]; go_simp; simp [Pl.lzNo, Pl.foNo]
    · repeat (first | with_reducible exact K0.out | refine kept_set ?_ _ _ _ (.inr (by omega)))
  · cases O : Pl.foOk x
    · have E : Hid (Pl.noteV z x = Pl.lzNo) := hide (by simp [Pl.noteV, G, O])
      go_enter Try.func32, Try.ntmps32
      go_wp2_with (first | (go_at_call 19; with_reducible refine (implGoodLazy _ z wz).mono ?_; rw [G]; rintro e9 w9 ⟨rfl, k9⟩; replace K0 := hide (K0.out.trans k9); replace B0 := hide (B0.out.kept0 k9); replace B1 := hide (B1.out.kept0 k9); replace B2 := hide (B2.out.kept0 k9); clear q q1 q2 f2; have q := B0.out.all; have q1 := B1.out.all; have q2 := B2.out.all; have f2 := B2.out.fz; clear k9) | (go_at_call 24; with_reducible refine (implFo _ x wx).mono ?_; rw [O]; rintro e9 w9 ⟨rfl, k9⟩; replace K0 := hide (K0.out.trans k9); replace B0 := hide (B0.out.kept0 k9); replace B1 := hide (B1.out.kept0 k9); replace B2 := hide (B2.out.kept0 k9); clear q q1 q2 f2; have q := B0.out.all; have q1 := B1.out.all; have q2 := B2.out.all; have f2 := B2.out.fz; clear k9))
      refine bodyPost_ret (v := .tuple #[.agg (lzA Pl.lzNo), .bool false]) ?_ rfl ⟨by rw [E.out]; rfl, ?_⟩
      · rw [results_c1t rfl]; go_simp; simp [Pl.lzNo, Pl.foNo]
      · repeat (first | with_reducible exact K0.out | refine kept_set ?_ _ _ _ (.inr (by omega)))
    · have E : Hid (Pl.noteV z x = Pl.note z x) := hide (by simp [Pl.noteV, G, O])
      obtain ⟨N, hN⟩ : ∃ N, Pl.note z x = N := ⟨_, rfl⟩
      have HN := hide hN
      clear hN
      go_enter Try.func32, Try.ntmps32
      go_wp2_with (first | (go_at_call 19; with_reducible refine (implGoodLazy _ z wz).mono ?_; rw [G]; rintro e9 w9 ⟨rfl, k9⟩; replace K0 := hide (K0.out.trans k9); replace B0 := hide (B0.out.kept0 k9); replace B1 := hide (B1.out.kept0 k9); replace B2 := hide (B2.out.kept0 k9); clear q q1 q2 f2; have q := B0.out.all; have q1 := B1.out.all; have q2 := B2.out.all; have f2 := B2.out.fz; clear k9) | (go_at_call 24; with_reducible refine (implFo _ x wx).mono ?_; rw [O]; rintro e9 w9 ⟨rfl, k9⟩; replace K0 := hide (K0.out.trans k9); replace B0 := hide (B0.out.kept0 k9); replace B1 := hide (B1.out.kept0 k9); replace B2 := hide (B2.out.kept0 k9); clear q q1 q2 f2; have q := B0.out.all; have q1 := B1.out.all; have q2 := B2.out.all; have f2 := B2.out.fz; clear k9) | (go_at_call 38; with_reducible refine (implNote _ z x).mono ?_; rw [HN.out]; rintro e9 w9 ⟨rfl, k9⟩; replace K0 := hide (K0.out.trans k9); replace B0 := hide (B0.out.kept0 k9); replace B1 := hide (B1.out.kept0 k9); replace B2 := hide (B2.out.kept0 k9); clear q q1 q2 f2; have q := B0.out.all; have q1 := B1.out.all; have q2 := B2.out.all; have f2 := B2.out.fz; clear k9))
      refine bodyPost_ret (v := .tuple #[.agg (lzA N), .bool true]) ?_ rfl ⟨by rw [E.out, HN.out]; rfl, ?_⟩
      · rw [results_c1t rfl]; go_simp
      · repeat (first | with_reducible exact K0.out | refine kept_set ?_ _ _ _ (.inr (by omega)))
end Go.Proofs.Ytobegcbnjlnifaa

namespace Go.Proofs.Ytobegcbnjlnifaa
open Go.RowKit
set_option linter.unusedVariables false

/-- operation k of the region waits for operation j -/
def waitsB (md : Region.Mode) (ops : Array Oper) (i k : Nat) : Bool := ((ops[i]?).map fun o => o.after.any fun e => Region.binds md e && e.on == k).getD false
theorem ready_new {md : Region.Mode} {ops : Array Oper} {l : Array Bool} {i : Nat} (h : i ∈ Region.ready md ops l) : i < ops.size ∧ l.getD i true = false := by
  unfold Region.ready at h
  rw [List.mem_filter, Bool.and_eq_true] at h
  refine ⟨List.mem_range.1 h.1, ?_⟩
  have := h.2.1
  revert this
  cases l.getD i true <;> simp
theorem getD_true {l : Array Bool} {k : Nat} (h : l.getD k false = true) : l.getD k true = true := by
  unfold Array.getD at *
  split
  · rename_i hk; simpa [hk] using h
  · rfl
theorem ready_dep {md : Region.Mode} {ops : Array Oper} {l : Array Bool} {i : Nat} (h : i ∈ Region.ready md ops l) (k : Nat) (hk : waitsB md ops i k = true) : l.getD k true = true := by
  unfold Region.ready at h
  rw [List.mem_filter, Bool.and_eq_true] at h
  have h2 := h.2.2
  unfold waitsB at hk
  cases ho : ops[i]? with
  | none => rw [ho] at hk; simp at hk
  | some o =>
    rw [ho] at hk h2
    simp only [Option.map_some, Option.getD_some] at hk h2
    rw [Array.any_eq_true'] at hk
    obtain ⟨e, he, hb⟩ := hk
    rw [Array.all_eq_true'] at h2
    have h3 := h2 e he
    rw [Bool.and_eq_true] at hb
    rw [hb.1] at h3
    have h4 : e.on = k := by simpa using hb.2
    rw [h4] at h3
    exact getD_true (by simpa using h3)
theorem filter_lt {xs : List Nat} {p q : Nat → Bool} (hpq : ∀ x, q x = true → p x = true) {i : Nat} (hi : i ∈ xs) (hp : p i = true) (hq : q i = false) : (xs.filter q).length < (xs.filter p).length := by
  induction xs with
  | nil => cases hi
  | cons x t ih =>
    have hle : (t.filter q).length ≤ (t.filter p).length := by
      clear ih hi
      induction t with
      | nil => simp
      | cons y t ih =>
        cases h1 : q y
        · cases h2 : p y <;> simp [h1, h2] <;> omega
        · simp [h1, hpq y h1]; exact ih
    rcases List.mem_cons.1 hi with rfl | hi
    · simp [hp, hq]; omega
    · have := ih hi
      cases h1 : q x
      · cases h2 : p x <;> simp [h1, h2] <;> omega
      · simp [h1, hpq x h1]; exact this
theorem getD_set_ne {l : Array Bool} {i j : Nat} (h : j ≠ i) : (l.setIfInBounds i true).getD j true = l.getD j true := by
  simp only [Array.getD_eq_getD_getElem?]
  rw [Array.getElem?_setIfInBounds_ne (Ne.symm h)]
theorem getD_set_eq {l : Array Bool} {i : Nat} : (l.setIfInBounds i true).getD i true = true := by
  simp only [Array.getD_eq_getD_getElem?, Array.getElem?_setIfInBounds]
  split
  · split <;> rfl
  · rename_i h; exact absurd trivial h

theorem wpAny_inv {P : Program} {md : Region.Mode} {ops : Array Oper} {Q : Exit → Act → World → Prop} {I : Array Bool → Act → World → Prop}
    (hfin : ∀ l a w, l.size = ops.size → I l a w → Region.ready md ops l = [] → Q .normal a w)
    (hstep : ∀ l a w i, I l a w → i ∈ Region.ready md ops l → wpOp P ops Q i (I (l.setIfInBounds i true)) a w) :
    ∀ (fuel : Nat) (l : Array Bool) (a : Act) (w : World), l.size = ops.size → ((List.range ops.size).filter fun i => !l.getD i true).length ≤ fuel → I l a w → wpAny P md ops Q fuel l a w := by
  intro fuel
  induction fuel with
  | zero =>
    intro l a w hz hn hI
    have h0 : Region.ready md ops l = [] := by
      cases hr : Region.ready md ops l with
      | nil => rfl
      | cons i t =>
        exfalso
        have hi : i ∈ Region.ready md ops l := by rw [hr]; simp
        obtain ⟨h1, h2⟩ := ready_new hi
        have : i ∈ (List.range ops.size).filter fun i => !l.getD i true := List.mem_filter.2 ⟨List.mem_range.2 h1, by rw [h2]; rfl⟩
        have := List.length_pos_of_mem this
        omega
    exact ⟨h0, hfin l a w hz hI h0⟩
  | succ n ih =>
    intro l a w hz hn hI
    refine ⟨fun h0 => hfin l a w hz hI h0, fun i hi => ?_⟩
    refine wpOp_mono (fun a' w' h' => ih _ a' w' (by simp [hz]) ?_ h') (hstep l a w i hI hi)
    obtain ⟨h1, h2⟩ := ready_new hi
    have := filter_lt (xs := List.range ops.size) (p := fun j => !l.getD j true) (q := fun j => !(l.setIfInBounds i true).getD j true) (i := i) (by
      intro x hx
      by_cases e : x = i
      · subst e; rw [h2]; rfl
      · rw [getD_set_ne e] at hx; exact hx) (List.mem_range.2 h1) (by rw [h2]; rfl) (by rw [getD_set_eq]; rfl)
    omega

/-- an operation waits for earlier ones alone -/
def lowB (md : Region.Mode) (ops : Array Oper) : Bool := (List.range ops.size).all fun i => ((ops[i]?).map fun o => o.after.all fun e => !Region.binds md e || decide (e.on < i)).getD true
theorem ready_none {md : Region.Mode} {ops : Array Oper} {l : Array Bool} (hz : l.size = ops.size) (hB : lowB md ops = true) (h0 : Region.ready md ops l = []) : ∀ i, i < ops.size → l.getD i true = true := by
  intro i
  induction i using Nat.strongRecOn with
  | ind i ih =>
    intro hi
    cases hl : l.getD i true
    · exfalso
      have hm : i ∈ Region.ready md ops l := by
        unfold Region.ready
        rw [List.mem_filter, Bool.and_eq_true]
        refine ⟨List.mem_range.2 hi, by rw [hl]; rfl, ?_⟩
        have hb := List.all_eq_true.1 hB i (List.mem_range.2 hi)
        rw [Array.getElem?_eq_getElem hi] at hb ⊢
        simp only [Option.map_some, Option.getD_some] at hb ⊢
        rw [Array.all_eq_true'] at hb ⊢
        intro e he
        have h1 := hb e he
        rw [Bool.or_eq_true] at h1 ⊢
        rcases h1 with h1 | h1
        · exact .inl h1
        · have h2 : e.on < i := by simpa using h1
          have h3 := ih e.on h2 (by omega)
          refine .inr ?_
          unfold Array.getD at h3 ⊢
          split
          · rename_i hk; simpa [hk] using h3
          · rename_i hk; omega
      rw [h0] at hm
      cases hm
    · rfl
theorem wp_region_inv {P : Program} {ops : Array Oper} {Q : Exit → Act → World → Prop} {id : Nat} {a : Act} {w : World} (I : Array Bool → Act → World → Prop) (hm : P.follows .mixedOrders = true) (hB : lowB .any ops = true)
    (hstart : I (Array.replicate ops.size false) a w.drew)
    (hfin : ∀ l a w, I l a w → (∀ i, i < ops.size → l.getD i true = true) → Q .normal a w)
    (hstep : ∀ l a w i, I l a w → i ∈ Region.ready .any ops l → wpOp P ops Q i (I (l.setIfInBounds i true)) a w) :
    (Code.region id ops true).wp P Q a w := by
  refine wp_region_any hm (wpAny_inv (I := I) (fun l a w hz h h0 => hfin l a w h (ready_none hz hB h0)) hstep _ _ _ _ (by simp) ?_ hstart)
  exact Nat.le_trans (List.length_filter_le _ _) (by simp)

/-- what holds once operation i has come up -/
def Once (l : Array Bool) (i : Nat) (p : Prop) : Prop := l.getD i true = true → p
theorem Once.past {l : Array Bool} {i j : Nat} {p q : Prop} (h : Once l j p) (hn : j ≠ i) (hp : p → q) : Once (l.setIfInBounds i true) j q := fun e => hp (h (by rwa [getD_set_ne hn] at e))
theorem Once.now {l : Array Bool} {i j : Nat} {p : Prop} (h : p) : Once (l.setIfInBounds i true) j p := fun _ => h
theorem once_start {n i : Nat} {p : Prop} (hi : i < n) : Once (Array.replicate n false) i p := by
  intro e
  simp [Array.getD_eq_getD_getElem?, hi] at e
theorem start_at {n i : Nat} (hi : i < n) : (Array.replicate n false).getD i true = false := by
  simp [Array.getD_eq_getD_getElem?, hi]
end Go.Proofs.Ytobegcbnjlnifaa

namespace Go.Proofs.Ytobegcbnjlnifaa
open Go.RowKit
set_option linter.unusedVariables false

/-- the frame A is A0 but for these slots -/
structure FR (SL : List Nat) (A0 A : Act) : Prop where
  size : A.tmps.size = A0.tmps.size
  defers : A.defers = A0.defers
  out : ∀ k, k ∉ SL → A.tmps[k]? = A0.tmps[k]?
theorem FR.refl (SL : List Nat) (A : Act) : FR SL A A := ⟨rfl, rfl, fun _ _ => rfl⟩
theorem put_ne {A : Act} {j k : Nat} {v : Value} (h : k ≠ j) : (A.put (some j) v).tmps[k]? = A.tmps[k]? := by
  show (A.tmps.setIfInBounds j v)[k]? = _
  rw [Array.getElem?_setIfInBounds_ne (Ne.symm h)]
theorem put_eq {A : Act} {k : Nat} {v : Value} (h : k < A.tmps.size) : (A.put (some k) v).tmps[k]? = some v := by
  show (A.tmps.setIfInBounds k v)[k]? = _
  rw [Array.getElem?_setIfInBounds]
  simp [h]
theorem FR.put {SL : List Nat} {A0 A : Act} (h : FR SL A0 A) {k : Nat} (hk : k ∈ SL) (v : Value) : FR SL A0 (A.put (some k) v) := by
  refine ⟨?_, h.defers, fun j hj => ?_⟩
  · show (A.tmps.setIfInBounds k v).size = _
    rw [Array.size_setIfInBounds]; exact h.size
  · rw [put_ne (fun e => hj (by rw [e]; exact hk))]; exact h.out j hj
theorem act_ext {A B : Act} (hs : A.tmps.size = B.tmps.size) (hd : A.defers = B.defers) (h : ∀ k : Nat, A.tmps[k]? = B.tmps[k]?) : A = B := by
  cases A; cases B
  simp only at hs hd h
  subst hd
  congr 1
  exact Array.ext_getElem? h
theorem chain_of {A : Act} : ∀ (SL : List Nat) (B : Act), A.tmps.size = B.tmps.size → A.defers = B.defers → (∀ k, k ∉ SL → A.tmps[k]? = B.tmps[k]?) → A = SL.foldl (fun a k => a.put (some k) (A.tmps.getD k undef)) B
  | [], B, hs, hd, h => act_ext hs hd (fun k => h k (by simp))
  | k :: t, B, hs, hd, h => by
    refine chain_of t (B.put (some k) (A.tmps.getD k undef)) ?_ hd (fun j hj => ?_)
    · show _ = (B.tmps.setIfInBounds k _).size
      rw [Array.size_setIfInBounds]; exact hs
    · by_cases e : j = k
      · subst e
        by_cases hb : j < B.tmps.size
        · rw [put_eq hb]
          have : j < A.tmps.size := by omega
          rw [Array.getElem?_eq_getElem this]
          simp [Array.getD_eq_getD_getElem?, this]
        · show _ = (B.tmps.setIfInBounds j _)[j]?
          rw [Array.getElem?_eq_none (by omega), Array.getElem?_eq_none (by rw [Array.size_setIfInBounds]; omega)]
      · rw [put_ne e]
        exact h j (by simp [e, hj])
theorem FR.chain {SL : List Nat} {A0 A : Act} (h : FR SL A0 A) : A = SL.foldl (fun a k => a.put (some k) (A.tmps.getD k undef)) A0 := chain_of SL A0 h.size h.defers h.out
theorem getD_of {A : Act} {k : Nat} {v : Value} (h : A.tmps[k]? = some v) : A.tmps.getD k undef = v := by
  rw [Array.getD_eq_getD_getElem?, h]; rfl
theorem wp_region_inv2 {P : Program} {ops : Array Oper} {Q : Exit → Act → World → Prop} {id : Nat} {a : Act} {w : World} (I : Act → Array Bool → Act → World → Prop) (hm : P.follows .mixedOrders = true) (hB : lowB .any ops = true)
    (hstart : I a (Array.replicate ops.size false) a w.drew)
    (hfin : ∀ l A w, I a l A w → (∀ i, i < ops.size → l.getD i true = true) → Q .normal A w)
    (hstep : ∀ l A w i, I a l A w → i ∈ Region.ready .any ops l → wpOp P ops Q i (I a (l.setIfInBounds i true)) A w) :
    (Code.region id ops true).wp P Q a w := wp_region_inv (I a) hm hB hstart hfin hstep
end Go.Proofs.Ytobegcbnjlnifaa

namespace Go.Proofs.Ytobegcbnjlnifaa
open Go.RowKit
set_option linter.unusedVariables false
theorem Blk.set9 {w : World} {b : Nat} {c0 c1 c2 c3 c4 c5 c6 c7 c8 : Value} {ty : TypeId} (h : Blk w b #[c0, c1, c2, c3, c4, c5, c6, c7, c8] ty) (v0 v1 v2 v3 v4 v5 v6 v7 v8 : Value) :
    Blk (((((((((w.setCell ⟨b, 0, none⟩ v0).setCell ⟨b, 1, none⟩ v1).setCell ⟨b, 2, none⟩ v2).setCell ⟨b, 3, none⟩ v3).setCell ⟨b, 4, none⟩ v4).setCell ⟨b, 5, none⟩ v5).setCell ⟨b, 6, none⟩ v6).setCell ⟨b, 7, none⟩ v7).setCell ⟨b, 8, none⟩ v8) b #[v0, v1, v2, v3, v4, v5, v6, v7, v8] ty := by
  have h0 : Blk (w.setCell ⟨b, 0, none⟩ v0) b #[v0, c1, c2, c3, c4, c5, c6, c7, c8] ty := h.set 0 v0
  have h1 : Blk ((w.setCell ⟨b, 0, none⟩ v0).setCell ⟨b, 1, none⟩ v1) b #[v0, v1, c2, c3, c4, c5, c6, c7, c8] ty := h0.set 1 v1
  have h2 : Blk (((w.setCell ⟨b, 0, none⟩ v0).setCell ⟨b, 1, none⟩ v1).setCell ⟨b, 2, none⟩ v2) b #[v0, v1, v2, c3, c4, c5, c6, c7, c8] ty := h1.set 2 v2
  have h3 : Blk ((((w.setCell ⟨b, 0, none⟩ v0).setCell ⟨b, 1, none⟩ v1).setCell ⟨b, 2, none⟩ v2).setCell ⟨b, 3, none⟩ v3) b #[v0, v1, v2, v3, c4, c5, c6, c7, c8] ty := h2.set 3 v3
  have h4 : Blk (((((w.setCell ⟨b, 0, none⟩ v0).setCell ⟨b, 1, none⟩ v1).setCell ⟨b, 2, none⟩ v2).setCell ⟨b, 3, none⟩ v3).setCell ⟨b, 4, none⟩ v4) b #[v0, v1, v2, v3, v4, c5, c6, c7, c8] ty := h3.set 4 v4
  have h5 : Blk ((((((w.setCell ⟨b, 0, none⟩ v0).setCell ⟨b, 1, none⟩ v1).setCell ⟨b, 2, none⟩ v2).setCell ⟨b, 3, none⟩ v3).setCell ⟨b, 4, none⟩ v4).setCell ⟨b, 5, none⟩ v5) b #[v0, v1, v2, v3, v4, v5, c6, c7, c8] ty := h4.set 5 v5
  have h6 : Blk (((((((w.setCell ⟨b, 0, none⟩ v0).setCell ⟨b, 1, none⟩ v1).setCell ⟨b, 2, none⟩ v2).setCell ⟨b, 3, none⟩ v3).setCell ⟨b, 4, none⟩ v4).setCell ⟨b, 5, none⟩ v5).setCell ⟨b, 6, none⟩ v6) b #[v0, v1, v2, v3, v4, v5, v6, c7, c8] ty := h5.set 6 v6
  have h7 : Blk ((((((((w.setCell ⟨b, 0, none⟩ v0).setCell ⟨b, 1, none⟩ v1).setCell ⟨b, 2, none⟩ v2).setCell ⟨b, 3, none⟩ v3).setCell ⟨b, 4, none⟩ v4).setCell ⟨b, 5, none⟩ v5).setCell ⟨b, 6, none⟩ v6).setCell ⟨b, 7, none⟩ v7) b #[v0, v1, v2, v3, v4, v5, v6, v7, c8] ty := h6.set 7 v7
  have h8 : Blk (((((((((w.setCell ⟨b, 0, none⟩ v0).setCell ⟨b, 1, none⟩ v1).setCell ⟨b, 2, none⟩ v2).setCell ⟨b, 3, none⟩ v3).setCell ⟨b, 4, none⟩ v4).setCell ⟨b, 5, none⟩ v5).setCell ⟨b, 6, none⟩ v6).setCell ⟨b, 7, none⟩ v7).setCell ⟨b, 8, none⟩ v8) b #[v0, v1, v2, v3, v4, v5, v6, v7, v8] ty := h7.set 8 v8
  exact h8
end Go.Proofs.Ytobegcbnjlnifaa

namespace Go.Proofs.Ytobegcbnjlnifaa
open Go.RowKit
set_option linter.unusedVariables false
set_option maxRecDepth 100000 in
set_option maxHeartbeats 8000000 in
theorem lawNoteFlagOp (z : Pl.Lz) (x : Pl.Fo) (w : World) (wz : LzW z) (wx : FoW x) : Calls Try.prog 8 #[.agg (lzA z), .agg (foA x)] w fun r' w' => r' = .returned (.bool true) ∧ Below w.heap.size w w' := by
  have K0 := hide (kept_new (kept_alloc w (.cells (lzA z) 54)) (.cells (foA x) 43))
  have HZ := hide ((Blk.new w (lzA z) 54).alloc (.cells (foA x) 43))
  have HX := Blk.new (w.alloc (.cells (lzA z) 54)) (foA x) 43
  simp only [World.size_alloc] at HX
  replace HX := hide HX
  obtain ⟨w1, hw1⟩ : ∃ X : World, (w.alloc (.cells (lzA z) 54)).alloc (.cells (foA x) 43) = X := ⟨_, rfl⟩
  rw [hw1] at K0 HZ HX
  generalize hN : Pl.noteV z x = N
  generalize hO : (Pl.lzOk z && Pl.foOk x) = O
  replace hN := hide hN
  replace hO := hide hO
  go_enter Try.func8, Try.ntmps8
  go_wp2_with fail
  clear hw1
  refine wp_region_inv2 (fun A0 l A W => FR [10, 11, 12, 13, 14, 9, 15, 16, 5, 6] A0 A ∧ Once l 0 (A.tmps[10]? = some (.agg (lzA z))) ∧ Once l 1 (A.tmps[11]? = some (.agg (lzA z))) ∧ Once l 2 (A.tmps[12]? = some (.agg (foA x))) ∧ Once l 3 (A.tmps[13]? = some (.agg (foA x))) ∧ Once l 4 (A.tmps[14]? = some (.tuple #[.agg (lzA N), .bool O])) ∧ Once l 5 (A.tmps[9]? = some (.tuple #[.agg (lzA N), .bool O])) ∧ Once l 6 (A.tmps[15]? = some (.agg (lzA N))) ∧ Once l 7 (A.tmps[16]? = some (.bool O)) ∧ Once l 8 (∃ (B : Nat) (cs : Array Value), A.tmps[5]? = some (.pointer (some ⟨B, 0, none⟩)) ∧ w1.heap.size ≤ B ∧ Blk W B cs 29 ∧ cs.size = 9) ∧ Once l 9 (∃ B : Nat, A.tmps[5]? = some (.pointer (some ⟨B, 0, none⟩)) ∧ w1.heap.size ≤ B ∧ Blk W B (lzA N) 29) ∧ Once l 10 (A.tmps[6]? = some (.bool O)) ∧ (l.getD 9 true = true → l.getD 8 true = true) ∧ Kept 0 0 w1 W) (by kernel_rfl) (by kernel_rfl) ?start ?fin ?step
  case start => exact ⟨FR.refl _ _, once_start (by decide), once_start (by decide), once_start (by decide), once_start (by decide), once_start (by decide), once_start (by decide), once_start (by decide), once_start (by decide), once_start (by decide), once_start (by decide), once_start (by decide), (fun q => by rw [start_at (by decide)] at q; cases q), kept_drew (Kept.refl _ _ _)⟩
  case fin =>
    intro l A W h hl
    obtain ⟨hFR, o0, o1, o2, o3, o4, o5, o6, o7, o8, o9, o10, hIm, hK⟩ := h
    obtain ⟨B1, g8, hb, hB⟩ := o9 (hl 9 (by decide))
    have g10 := o10 (hl 10 (by decide))
    have HB1 := hide hB
    have hb1 := hide hb
    have QQ := hide hK
    have hc9 := hFR.chain
    simp only [List.foldl] at hc9
    rw [getD_of g8, getD_of g10] at hc9
    clear hl hK hFR hIm hb hB g8 g10 o0 o1 o2 o3 o4 o5 o6 o7 o8 o9 o10
    generalize A.tmps.getD 10 undef = s10 at hc9
    generalize A.tmps.getD 11 undef = s11 at hc9
    generalize A.tmps.getD 12 undef = s12 at hc9
    generalize A.tmps.getD 13 undef = s13 at hc9
    generalize A.tmps.getD 14 undef = s14 at hc9
    generalize A.tmps.getD 9 undef = s9 at hc9
    generalize A.tmps.getD 15 undef = s15 at hc9
    generalize A.tmps.getD 16 undef = s16 at hc9
    subst hc9
    go_simp
    obtain ⟨X1, hX1⟩ : ∃ X : World, W = X := ⟨_, rfl⟩
    rw [hX1] at HB1 QQ
    rw [hX1]
    clear hX1
    replace K0 := hide (K0.out.trans QQ.out)
    replace HZ := hide (HZ.out.kept0 QQ.out)
    replace HX := hide (HX.out.kept0 QQ.out)
    clear QQ
    go_wp2_with fail
    refine wp_region_inv2 (fun A0 l A W => FR [18, 19, 20, 21, 22, 17, 23, 24, 7, 8] A0 A ∧ Once l 0 (A.tmps[18]? = some (.agg (lzA z))) ∧ Once l 1 (A.tmps[19]? = some (.agg (lzA z))) ∧ Once l 2 (A.tmps[20]? = some (.agg (foA x))) ∧ Once l 3 (A.tmps[21]? = some (.agg (foA x))) ∧ Once l 4 (A.tmps[22]? = some (.tuple #[.agg (lzA N), .bool O])) ∧ Once l 5 (A.tmps[17]? = some (.tuple #[.agg (lzA N), .bool O])) ∧ Once l 6 (A.tmps[23]? = some (.agg (lzA N))) ∧ Once l 7 (A.tmps[24]? = some (.bool O)) ∧ Once l 8 (∃ (B : Nat) (cs : Array Value), A.tmps[7]? = some (.pointer (some ⟨B, 0, none⟩)) ∧ X1.heap.size ≤ B ∧ Blk W B cs 29 ∧ cs.size = 9) ∧ Once l 9 (∃ B : Nat, A.tmps[7]? = some (.pointer (some ⟨B, 0, none⟩)) ∧ X1.heap.size ≤ B ∧ Blk W B (lzA N) 29) ∧ Once l 10 (A.tmps[8]? = some (.bool O)) ∧ (l.getD 9 true = true → l.getD 8 true = true) ∧ Kept 0 0 X1 W) (by kernel_rfl) (by kernel_rfl) ?start2 ?fin2 ?step2
    case start2 => exact ⟨FR.refl _ _, once_start (by decide), once_start (by decide), once_start (by decide), once_start (by decide), once_start (by decide), once_start (by decide), once_start (by decide), once_start (by decide), once_start (by decide), once_start (by decide), once_start (by decide), (fun q => by rw [start_at (by decide)] at q; cases q), kept_drew (Kept.refl _ _ _)⟩
    case fin2 =>
      intro l A W h hl
      obtain ⟨hFR, o0, o1, o2, o3, o4, o5, o6, o7, o8, o9, o10, hIm, hK⟩ := h
      obtain ⟨B2, g8, hb, hB⟩ := o9 (hl 9 (by decide))
      have g10 := o10 (hl 10 (by decide))
      have HB2 := hide hB
      have hb2 := hide hb
      have QQ := hide hK
      have hc9 := hFR.chain
      simp only [List.foldl] at hc9
      rw [getD_of g8, getD_of g10] at hc9
      clear hl hK hFR hIm hb hB g8 g10 o0 o1 o2 o3 o4 o5 o6 o7 o8 o9 o10
      generalize A.tmps.getD 18 undef = s18 at hc9
      generalize A.tmps.getD 19 undef = s19 at hc9
      generalize A.tmps.getD 20 undef = s20 at hc9
      generalize A.tmps.getD 21 undef = s21 at hc9
      generalize A.tmps.getD 22 undef = s22 at hc9
      generalize A.tmps.getD 17 undef = s17 at hc9
      generalize A.tmps.getD 23 undef = s23 at hc9
      generalize A.tmps.getD 24 undef = s24 at hc9
      subst hc9
      go_simp
      replace HB1 := hide (HB1.out.kept0 QQ.out)
      replace K0 := hide (K0.out.trans QQ.out)
      have q1 := HB1.out.all
      have q2 := HB2.out.all
      clear QQ
      go_wp2_with (go_at_call 28; (with_reducible refine (eqLz _ N).mono ?_); rintro e9 w9 ⟨rfl, k9⟩; have K9 := hide (K0.out.trans k9); clear k9)
      go_ret
      exact ⟨rfl, K9.out.below⟩
    case step2 =>
      intro l A W i hI hm
      obtain ⟨hFR, o0, o1, o2, o3, o4, o5, o6, o7, o8, o9, o10, hIm, hK⟩ := hI
      obtain ⟨hi1, hi2⟩ := ready_new hm
      have hsz : Hid (24 < A.tmps.size) := hide (by rw [hFR.size]; simp)
      have m2 : A.tmps[2]? = some (.pointer (some ⟨w.heap.size, 0, none⟩)) := (hFR.out 2 (by decide)).trans rfl
      have m3 : A.tmps[3]? = some (.pointer (some ⟨w.heap.size + 1, 0, none⟩)) := (hFR.out 3 (by decide)).trans rfl
      rcases i with _ | _ | _ | _ | _ | _ | _ | _ | _ | _ | _ | i
      · have BL := (HZ.out.kept0 hK).all
        refine wpOp_step rfl (fun KK hK2 => ?_)
        go_simp
        exact hK2 (A.put (some 18) (.agg (lzA z))) _ ⟨hFR.put (by decide) _, .now (put_eq (by have hz := hsz.out; omega)), o1.past (by decide) (fun h => (put_ne (by decide)).trans h), o2.past (by decide) (fun h => (put_ne (by decide)).trans h), o3.past (by decide) (fun h => (put_ne (by decide)).trans h), o4.past (by decide) (fun h => (put_ne (by decide)).trans h), o5.past (by decide) (fun h => (put_ne (by decide)).trans h), o6.past (by decide) (fun h => (put_ne (by decide)).trans h), o7.past (by decide) (fun h => (put_ne (by decide)).trans h), o8.past (by decide) (fun ⟨B, cs, h1, h2, h3, h4⟩ => ⟨B, cs, (put_ne (by decide)).trans h1, h2, h3, h4⟩), o9.past (by decide) (fun ⟨B, h1, h2, h3⟩ => ⟨B, (put_ne (by decide)).trans h1, h2, h3⟩), o10.past (by decide) (fun h => (put_ne (by decide)).trans h), (fun q => by rw [getD_set_ne (by decide)] at q ⊢; exact hIm q), hK⟩
      · have e0 := o0 (ready_dep hm 0 (by kernel_rfl))
        refine wpOp_step rfl (fun KK hK2 => ?_)
        go_simp
        refine (toLz W z).mono ?_
        rintro r9 y ⟨rfl, kd⟩
        go_simp
        exact hK2 (A.put (some 19) (.agg (lzA z))) _ ⟨hFR.put (by decide) _, o0.past (by decide) (fun h => (put_ne (by decide)).trans h), .now (put_eq (by have hz := hsz.out; omega)), o2.past (by decide) (fun h => (put_ne (by decide)).trans h), o3.past (by decide) (fun h => (put_ne (by decide)).trans h), o4.past (by decide) (fun h => (put_ne (by decide)).trans h), o5.past (by decide) (fun h => (put_ne (by decide)).trans h), o6.past (by decide) (fun h => (put_ne (by decide)).trans h), o7.past (by decide) (fun h => (put_ne (by decide)).trans h), o8.past (by decide) (fun ⟨B, cs, h1, h2, h3, h4⟩ => ⟨B, cs, (put_ne (by decide)).trans h1, h2, h3.kept0 kd, h4⟩), o9.past (by decide) (fun ⟨B, h1, h2, h3⟩ => ⟨B, (put_ne (by decide)).trans h1, h2, h3.kept0 kd⟩), o10.past (by decide) (fun h => (put_ne (by decide)).trans h), (fun q => by rw [getD_set_ne (by decide)] at q ⊢; exact hIm q), (hK.trans kd)⟩
      · have BL := (HX.out.kept0 hK).all
        refine wpOp_step rfl (fun KK hK2 => ?_)
        go_simp
        exact hK2 (A.put (some 20) (.agg (foA x))) _ ⟨hFR.put (by decide) _, o0.past (by decide) (fun h => (put_ne (by decide)).trans h), o1.past (by decide) (fun h => (put_ne (by decide)).trans h), .now (put_eq (by have hz := hsz.out; omega)), o3.past (by decide) (fun h => (put_ne (by decide)).trans h), o4.past (by decide) (fun h => (put_ne (by decide)).trans h), o5.past (by decide) (fun h => (put_ne (by decide)).trans h), o6.past (by decide) (fun h => (put_ne (by decide)).trans h), o7.past (by decide) (fun h => (put_ne (by decide)).trans h), o8.past (by decide) (fun ⟨B, cs, h1, h2, h3, h4⟩ => ⟨B, cs, (put_ne (by decide)).trans h1, h2, h3, h4⟩), o9.past (by decide) (fun ⟨B, h1, h2, h3⟩ => ⟨B, (put_ne (by decide)).trans h1, h2, h3⟩), o10.past (by decide) (fun h => (put_ne (by decide)).trans h), (fun q => by rw [getD_set_ne (by decide)] at q ⊢; exact hIm q), hK⟩
      · have e2 := o2 (ready_dep hm 2 (by kernel_rfl))
        refine wpOp_step rfl (fun KK hK2 => ?_)
        go_simp
        refine (toFo W x).mono ?_
        rintro r9 y ⟨rfl, kd⟩
        go_simp
        exact hK2 (A.put (some 21) (.agg (foA x))) _ ⟨hFR.put (by decide) _, o0.past (by decide) (fun h => (put_ne (by decide)).trans h), o1.past (by decide) (fun h => (put_ne (by decide)).trans h), o2.past (by decide) (fun h => (put_ne (by decide)).trans h), .now (put_eq (by have hz := hsz.out; omega)), o4.past (by decide) (fun h => (put_ne (by decide)).trans h), o5.past (by decide) (fun h => (put_ne (by decide)).trans h), o6.past (by decide) (fun h => (put_ne (by decide)).trans h), o7.past (by decide) (fun h => (put_ne (by decide)).trans h), o8.past (by decide) (fun ⟨B, cs, h1, h2, h3, h4⟩ => ⟨B, cs, (put_ne (by decide)).trans h1, h2, h3.kept0 kd, h4⟩), o9.past (by decide) (fun ⟨B, h1, h2, h3⟩ => ⟨B, (put_ne (by decide)).trans h1, h2, h3.kept0 kd⟩), o10.past (by decide) (fun h => (put_ne (by decide)).trans h), (fun q => by rw [getD_set_ne (by decide)] at q ⊢; exact hIm q), (hK.trans kd)⟩
      · have e1 := o1 (ready_dep hm 1 (by kernel_rfl))
        have e3 := o3 (ready_dep hm 3 (by kernel_rfl))
        refine wpOp_step rfl (fun KK hK2 => ?_)
        go_simp
        refine (implNoteOf W z x wz wx).mono ?_
        rw [hN.out, hO.out]
        rintro r9 y ⟨rfl, kd⟩
        go_simp
        exact hK2 (A.put (some 22) (.tuple #[.agg (lzA N), .bool O])) _ ⟨hFR.put (by decide) _, o0.past (by decide) (fun h => (put_ne (by decide)).trans h), o1.past (by decide) (fun h => (put_ne (by decide)).trans h), o2.past (by decide) (fun h => (put_ne (by decide)).trans h), o3.past (by decide) (fun h => (put_ne (by decide)).trans h), .now (put_eq (by have hz := hsz.out; omega)), o5.past (by decide) (fun h => (put_ne (by decide)).trans h), o6.past (by decide) (fun h => (put_ne (by decide)).trans h), o7.past (by decide) (fun h => (put_ne (by decide)).trans h), o8.past (by decide) (fun ⟨B, cs, h1, h2, h3, h4⟩ => ⟨B, cs, (put_ne (by decide)).trans h1, h2, h3.kept0 kd, h4⟩), o9.past (by decide) (fun ⟨B, h1, h2, h3⟩ => ⟨B, (put_ne (by decide)).trans h1, h2, h3.kept0 kd⟩), o10.past (by decide) (fun h => (put_ne (by decide)).trans h), (fun q => by rw [getD_set_ne (by decide)] at q ⊢; exact hIm q), (hK.trans kd)⟩
      · have e4 := o4 (ready_dep hm 4 (by kernel_rfl))
        refine wpOp_step rfl (fun KK hK2 => ?_)
        go_simp
        exact hK2 (A.put (some 17) (.tuple #[.agg (lzA N), .bool O])) _ ⟨hFR.put (by decide) _, o0.past (by decide) (fun h => (put_ne (by decide)).trans h), o1.past (by decide) (fun h => (put_ne (by decide)).trans h), o2.past (by decide) (fun h => (put_ne (by decide)).trans h), o3.past (by decide) (fun h => (put_ne (by decide)).trans h), o4.past (by decide) (fun h => (put_ne (by decide)).trans h), .now (put_eq (by have hz := hsz.out; omega)), o6.past (by decide) (fun h => (put_ne (by decide)).trans h), o7.past (by decide) (fun h => (put_ne (by decide)).trans h), o8.past (by decide) (fun ⟨B, cs, h1, h2, h3, h4⟩ => ⟨B, cs, (put_ne (by decide)).trans h1, h2, h3, h4⟩), o9.past (by decide) (fun ⟨B, h1, h2, h3⟩ => ⟨B, (put_ne (by decide)).trans h1, h2, h3⟩), o10.past (by decide) (fun h => (put_ne (by decide)).trans h), (fun q => by rw [getD_set_ne (by decide)] at q ⊢; exact hIm q), hK⟩
      · have e5 := o5 (ready_dep hm 5 (by kernel_rfl))
        refine wpOp_step rfl (fun KK hK2 => ?_)
        go_simp
        exact hK2 (A.put (some 23) (.agg (lzA N))) _ ⟨hFR.put (by decide) _, o0.past (by decide) (fun h => (put_ne (by decide)).trans h), o1.past (by decide) (fun h => (put_ne (by decide)).trans h), o2.past (by decide) (fun h => (put_ne (by decide)).trans h), o3.past (by decide) (fun h => (put_ne (by decide)).trans h), o4.past (by decide) (fun h => (put_ne (by decide)).trans h), o5.past (by decide) (fun h => (put_ne (by decide)).trans h), .now (put_eq (by have hz := hsz.out; omega)), o7.past (by decide) (fun h => (put_ne (by decide)).trans h), o8.past (by decide) (fun ⟨B, cs, h1, h2, h3, h4⟩ => ⟨B, cs, (put_ne (by decide)).trans h1, h2, h3, h4⟩), o9.past (by decide) (fun ⟨B, h1, h2, h3⟩ => ⟨B, (put_ne (by decide)).trans h1, h2, h3⟩), o10.past (by decide) (fun h => (put_ne (by decide)).trans h), (fun q => by rw [getD_set_ne (by decide)] at q ⊢; exact hIm q), hK⟩
      · have e5 := o5 (ready_dep hm 5 (by kernel_rfl))
        refine wpOp_step rfl (fun KK hK2 => ?_)
        go_simp
        exact hK2 (A.put (some 24) (.bool O)) _ ⟨hFR.put (by decide) _, o0.past (by decide) (fun h => (put_ne (by decide)).trans h), o1.past (by decide) (fun h => (put_ne (by decide)).trans h), o2.past (by decide) (fun h => (put_ne (by decide)).trans h), o3.past (by decide) (fun h => (put_ne (by decide)).trans h), o4.past (by decide) (fun h => (put_ne (by decide)).trans h), o5.past (by decide) (fun h => (put_ne (by decide)).trans h), o6.past (by decide) (fun h => (put_ne (by decide)).trans h), .now (put_eq (by have hz := hsz.out; omega)), o8.past (by decide) (fun ⟨B, cs, h1, h2, h3, h4⟩ => ⟨B, cs, (put_ne (by decide)).trans h1, h2, h3, h4⟩), o9.past (by decide) (fun ⟨B, h1, h2, h3⟩ => ⟨B, (put_ne (by decide)).trans h1, h2, h3⟩), o10.past (by decide) (fun h => (put_ne (by decide)).trans h), (fun q => by rw [getD_set_ne (by decide)] at q ⊢; exact hIm q), hK⟩
      · refine wpOp_step rfl (fun KK hK2 => ?_)
        go_simp
        exact hK2 (A.put (some 7) (.pointer (some ⟨W.heap.size, 0, none⟩))) _ ⟨hFR.put (by decide) _, o0.past (by decide) (fun h => (put_ne (by decide)).trans h), o1.past (by decide) (fun h => (put_ne (by decide)).trans h), o2.past (by decide) (fun h => (put_ne (by decide)).trans h), o3.past (by decide) (fun h => (put_ne (by decide)).trans h), o4.past (by decide) (fun h => (put_ne (by decide)).trans h), o5.past (by decide) (fun h => (put_ne (by decide)).trans h), o6.past (by decide) (fun h => (put_ne (by decide)).trans h), o7.past (by decide) (fun h => (put_ne (by decide)).trans h), .now ⟨W.heap.size, _, put_eq (by have hz := hsz.out; omega), hK.size, Blk.new W _ _, rfl⟩, (fun q => by rw [getD_set_ne (by decide)] at q; have q2 := hIm q; rw [hi2] at q2; cases q2), o10.past (by decide) (fun h => (put_ne (by decide)).trans h), (fun _ => getD_set_eq), (kept_new hK _)⟩
      · have e6 := o6 (ready_dep hm 6 (by kernel_rfl))
        obtain ⟨B, cs, hB1, hB2, hB3, hB4⟩ := o8 (ready_dep hm 8 (by kernel_rfl))
        obtain ⟨c0, c1, c2, c3, c4, c5, c6, c7, c8, rfl⟩ : ∃ c0 c1 c2 c3 c4 c5 c6 c7 c8, cs = #[c0, c1, c2, c3, c4, c5, c6, c7, c8] := by
          obtain ⟨cl⟩ := cs
          match cl, hB4 with
          | [c0, c1, c2, c3, c4, c5, c6, c7, c8], _ => exact ⟨c0, c1, c2, c3, c4, c5, c6, c7, c8, rfl⟩
        have r := hB3.all
        have f := hB3.fz
        refine wpOp_step rfl (fun KK hK2 => ?_)
        go_simp
        have hB9 := hB3.set9 (iv N.b) (iv N.l.k) (iv N.l.z) (iv N.l.a) (iv N.l.b) (iv N.r.k) (iv N.r.z) (iv N.r.a) (iv N.r.b)
        have oA9 : Once (l.setIfInBounds 9 true) 8 (∃ (B : Nat) (cs : Array Value), A.tmps[7]? = some (.pointer (some ⟨B, 0, none⟩)) ∧ X1.heap.size ≤ B ∧ Blk _ B cs 29 ∧ cs.size = 9) := fun _ => ⟨B, _, hB1, hB2, hB9, rfl⟩
        exact hK2 A _ ⟨hFR, o0.past (by decide) id, o1.past (by decide) id, o2.past (by decide) id, o3.past (by decide) id, o4.past (by decide) id, o5.past (by decide) id, o6.past (by decide) id, o7.past (by decide) id, oA9, .now ⟨B, hB1, hB2, hB9⟩, o10.past (by decide) id, (fun _ => by rw [getD_set_ne (by decide)]; exact ready_dep hm 8 (by kernel_rfl)), (kept_set (kept_set (kept_set (kept_set (kept_set (kept_set (kept_set (kept_set (kept_set hK _ _ _ (.inr hB2)) _ _ _ (.inr hB2)) _ _ _ (.inr hB2)) _ _ _ (.inr hB2)) _ _ _ (.inr hB2)) _ _ _ (.inr hB2)) _ _ _ (.inr hB2)) _ _ _ (.inr hB2)) _ _ _ (.inr hB2))⟩
      · have e7 := o7 (ready_dep hm 7 (by kernel_rfl))
        refine wpOp_step rfl (fun KK hK2 => ?_)
        go_simp
        exact hK2 (A.put (some 8) (.bool O)) _ ⟨hFR.put (by decide) _, o0.past (by decide) (fun h => (put_ne (by decide)).trans h), o1.past (by decide) (fun h => (put_ne (by decide)).trans h), o2.past (by decide) (fun h => (put_ne (by decide)).trans h), o3.past (by decide) (fun h => (put_ne (by decide)).trans h), o4.past (by decide) (fun h => (put_ne (by decide)).trans h), o5.past (by decide) (fun h => (put_ne (by decide)).trans h), o6.past (by decide) (fun h => (put_ne (by decide)).trans h), o7.past (by decide) (fun h => (put_ne (by decide)).trans h), o8.past (by decide) (fun ⟨B, cs, h1, h2, h3, h4⟩ => ⟨B, cs, (put_ne (by decide)).trans h1, h2, h3, h4⟩), o9.past (by decide) (fun ⟨B, h1, h2, h3⟩ => ⟨B, (put_ne (by decide)).trans h1, h2, h3⟩), .now (put_eq (by have hz := hsz.out; omega)), (fun q => by rw [getD_set_ne (by decide)] at q ⊢; exact hIm q), hK⟩
      · simp at hi1
        omega
  case step =>
    intro l A W i hI hm
    obtain ⟨hFR, o0, o1, o2, o3, o4, o5, o6, o7, o8, o9, o10, hIm, hK⟩ := hI
    obtain ⟨hi1, hi2⟩ := ready_new hm
    have hsz : Hid (16 < A.tmps.size) := hide (by rw [hFR.size]; simp)
    have m2 : A.tmps[2]? = some (.pointer (some ⟨w.heap.size, 0, none⟩)) := (hFR.out 2 (by decide)).trans rfl
    have m3 : A.tmps[3]? = some (.pointer (some ⟨w.heap.size + 1, 0, none⟩)) := (hFR.out 3 (by decide)).trans rfl
    rcases i with _ | _ | _ | _ | _ | _ | _ | _ | _ | _ | _ | i
    · have BL := (HZ.out.kept0 hK).all
      refine wpOp_step rfl (fun KK hK2 => ?_)
      go_simp
      exact hK2 (A.put (some 10) (.agg (lzA z))) _ ⟨hFR.put (by decide) _, .now (put_eq (by have hz := hsz.out; omega)), o1.past (by decide) (fun h => (put_ne (by decide)).trans h), o2.past (by decide) (fun h => (put_ne (by decide)).trans h), o3.past (by decide) (fun h => (put_ne (by decide)).trans h), o4.past (by decide) (fun h => (put_ne (by decide)).trans h), o5.past (by decide) (fun h => (put_ne (by decide)).trans h), o6.past (by decide) (fun h => (put_ne (by decide)).trans h), o7.past (by decide) (fun h => (put_ne (by decide)).trans h), o8.past (by decide) (fun ⟨B, cs, h1, h2, h3, h4⟩ => ⟨B, cs, (put_ne (by decide)).trans h1, h2, h3, h4⟩), o9.past (by decide) (fun ⟨B, h1, h2, h3⟩ => ⟨B, (put_ne (by decide)).trans h1, h2, h3⟩), o10.past (by decide) (fun h => (put_ne (by decide)).trans h), (fun q => by rw [getD_set_ne (by decide)] at q ⊢; exact hIm q), hK⟩
    · have e0 := o0 (ready_dep hm 0 (by kernel_rfl))
      refine wpOp_step rfl (fun KK hK2 => ?_)
      go_simp
      refine (toLz W z).mono ?_
      rintro r9 y ⟨rfl, kd⟩
      go_simp
      exact hK2 (A.put (some 11) (.agg (lzA z))) _ ⟨hFR.put (by decide) _, o0.past (by decide) (fun h => (put_ne (by decide)).trans h), .now (put_eq (by have hz := hsz.out; omega)), o2.past (by decide) (fun h => (put_ne (by decide)).trans h), o3.past (by decide) (fun h => (put_ne (by decide)).trans h), o4.past (by decide) (fun h => (put_ne (by decide)).trans h), o5.past (by decide) (fun h => (put_ne (by decide)).trans h), o6.past (by decide) (fun h => (put_ne (by decide)).trans h), o7.past (by decide) (fun h => (put_ne (by decide)).trans h), o8.past (by decide) (fun ⟨B, cs, h1, h2, h3, h4⟩ => ⟨B, cs, (put_ne (by decide)).trans h1, h2, h3.kept0 kd, h4⟩), o9.past (by decide) (fun ⟨B, h1, h2, h3⟩ => ⟨B, (put_ne (by decide)).trans h1, h2, h3.kept0 kd⟩), o10.past (by decide) (fun h => (put_ne (by decide)).trans h), (fun q => by rw [getD_set_ne (by decide)] at q ⊢; exact hIm q), (hK.trans kd)⟩
    · have BL := (HX.out.kept0 hK).all
      refine wpOp_step rfl (fun KK hK2 => ?_)
      go_simp
      exact hK2 (A.put (some 12) (.agg (foA x))) _ ⟨hFR.put (by decide) _, o0.past (by decide) (fun h => (put_ne (by decide)).trans h), o1.past (by decide) (fun h => (put_ne (by decide)).trans h), .now (put_eq (by have hz := hsz.out; omega)), o3.past (by decide) (fun h => (put_ne (by decide)).trans h), o4.past (by decide) (fun h => (put_ne (by decide)).trans h), o5.past (by decide) (fun h => (put_ne (by decide)).trans h), o6.past (by decide) (fun h => (put_ne (by decide)).trans h), o7.past (by decide) (fun h => (put_ne (by decide)).trans h), o8.past (by decide) (fun ⟨B, cs, h1, h2, h3, h4⟩ => ⟨B, cs, (put_ne (by decide)).trans h1, h2, h3, h4⟩), o9.past (by decide) (fun ⟨B, h1, h2, h3⟩ => ⟨B, (put_ne (by decide)).trans h1, h2, h3⟩), o10.past (by decide) (fun h => (put_ne (by decide)).trans h), (fun q => by rw [getD_set_ne (by decide)] at q ⊢; exact hIm q), hK⟩
    · have e2 := o2 (ready_dep hm 2 (by kernel_rfl))
      refine wpOp_step rfl (fun KK hK2 => ?_)
      go_simp
      refine (toFo W x).mono ?_
      rintro r9 y ⟨rfl, kd⟩
      go_simp
      exact hK2 (A.put (some 13) (.agg (foA x))) _ ⟨hFR.put (by decide) _, o0.past (by decide) (fun h => (put_ne (by decide)).trans h), o1.past (by decide) (fun h => (put_ne (by decide)).trans h), o2.past (by decide) (fun h => (put_ne (by decide)).trans h), .now (put_eq (by have hz := hsz.out; omega)), o4.past (by decide) (fun h => (put_ne (by decide)).trans h), o5.past (by decide) (fun h => (put_ne (by decide)).trans h), o6.past (by decide) (fun h => (put_ne (by decide)).trans h), o7.past (by decide) (fun h => (put_ne (by decide)).trans h), o8.past (by decide) (fun ⟨B, cs, h1, h2, h3, h4⟩ => ⟨B, cs, (put_ne (by decide)).trans h1, h2, h3.kept0 kd, h4⟩), o9.past (by decide) (fun ⟨B, h1, h2, h3⟩ => ⟨B, (put_ne (by decide)).trans h1, h2, h3.kept0 kd⟩), o10.past (by decide) (fun h => (put_ne (by decide)).trans h), (fun q => by rw [getD_set_ne (by decide)] at q ⊢; exact hIm q), (hK.trans kd)⟩
    · have e1 := o1 (ready_dep hm 1 (by kernel_rfl))
      have e3 := o3 (ready_dep hm 3 (by kernel_rfl))
      refine wpOp_step rfl (fun KK hK2 => ?_)
      go_simp
      refine (specNoteOf W z x).mono ?_
      rw [hN.out, hO.out]
      rintro r9 y ⟨rfl, kd⟩
      go_simp
      exact hK2 (A.put (some 14) (.tuple #[.agg (lzA N), .bool O])) _ ⟨hFR.put (by decide) _, o0.past (by decide) (fun h => (put_ne (by decide)).trans h), o1.past (by decide) (fun h => (put_ne (by decide)).trans h), o2.past (by decide) (fun h => (put_ne (by decide)).trans h), o3.past (by decide) (fun h => (put_ne (by decide)).trans h), .now (put_eq (by have hz := hsz.out; omega)), o5.past (by decide) (fun h => (put_ne (by decide)).trans h), o6.past (by decide) (fun h => (put_ne (by decide)).trans h), o7.past (by decide) (fun h => (put_ne (by decide)).trans h), o8.past (by decide) (fun ⟨B, cs, h1, h2, h3, h4⟩ => ⟨B, cs, (put_ne (by decide)).trans h1, h2, h3.kept0 kd, h4⟩), o9.past (by decide) (fun ⟨B, h1, h2, h3⟩ => ⟨B, (put_ne (by decide)).trans h1, h2, h3.kept0 kd⟩), o10.past (by decide) (fun h => (put_ne (by decide)).trans h), (fun q => by rw [getD_set_ne (by decide)] at q ⊢; exact hIm q), (hK.trans kd)⟩
    · have e4 := o4 (ready_dep hm 4 (by kernel_rfl))
      refine wpOp_step rfl (fun KK hK2 => ?_)
      go_simp
      exact hK2 (A.put (some 9) (.tuple #[.agg (lzA N), .bool O])) _ ⟨hFR.put (by decide) _, o0.past (by decide) (fun h => (put_ne (by decide)).trans h), o1.past (by decide) (fun h => (put_ne (by decide)).trans h), o2.past (by decide) (fun h => (put_ne (by decide)).trans h), o3.past (by decide) (fun h => (put_ne (by decide)).trans h), o4.past (by decide) (fun h => (put_ne (by decide)).trans h), .now (put_eq (by have hz := hsz.out; omega)), o6.past (by decide) (fun h => (put_ne (by decide)).trans h), o7.past (by decide) (fun h => (put_ne (by decide)).trans h), o8.past (by decide) (fun ⟨B, cs, h1, h2, h3, h4⟩ => ⟨B, cs, (put_ne (by decide)).trans h1, h2, h3, h4⟩), o9.past (by decide) (fun ⟨B, h1, h2, h3⟩ => ⟨B, (put_ne (by decide)).trans h1, h2, h3⟩), o10.past (by decide) (fun h => (put_ne (by decide)).trans h), (fun q => by rw [getD_set_ne (by decide)] at q ⊢; exact hIm q), hK⟩
    · have e5 := o5 (ready_dep hm 5 (by kernel_rfl))
      refine wpOp_step rfl (fun KK hK2 => ?_)
      go_simp
      exact hK2 (A.put (some 15) (.agg (lzA N))) _ ⟨hFR.put (by decide) _, o0.past (by decide) (fun h => (put_ne (by decide)).trans h), o1.past (by decide) (fun h => (put_ne (by decide)).trans h), o2.past (by decide) (fun h => (put_ne (by decide)).trans h), o3.past (by decide) (fun h => (put_ne (by decide)).trans h), o4.past (by decide) (fun h => (put_ne (by decide)).trans h), o5.past (by decide) (fun h => (put_ne (by decide)).trans h), .now (put_eq (by have hz := hsz.out; omega)), o7.past (by decide) (fun h => (put_ne (by decide)).trans h), o8.past (by decide) (fun ⟨B, cs, h1, h2, h3, h4⟩ => ⟨B, cs, (put_ne (by decide)).trans h1, h2, h3, h4⟩), o9.past (by decide) (fun ⟨B, h1, h2, h3⟩ => ⟨B, (put_ne (by decide)).trans h1, h2, h3⟩), o10.past (by decide) (fun h => (put_ne (by decide)).trans h), (fun q => by rw [getD_set_ne (by decide)] at q ⊢; exact hIm q), hK⟩
    · have e5 := o5 (ready_dep hm 5 (by kernel_rfl))
      refine wpOp_step rfl (fun KK hK2 => ?_)
      go_simp
      exact hK2 (A.put (some 16) (.bool O)) _ ⟨hFR.put (by decide) _, o0.past (by decide) (fun h => (put_ne (by decide)).trans h), o1.past (by decide) (fun h => (put_ne (by decide)).trans h), o2.past (by decide) (fun h => (put_ne (by decide)).trans h), o3.past (by decide) (fun h => (put_ne (by decide)).trans h), o4.past (by decide) (fun h => (put_ne (by decide)).trans h), o5.past (by decide) (fun h => (put_ne (by decide)).trans h), o6.past (by decide) (fun h => (put_ne (by decide)).trans h), .now (put_eq (by have hz := hsz.out; omega)), o8.past (by decide) (fun ⟨B, cs, h1, h2, h3, h4⟩ => ⟨B, cs, (put_ne (by decide)).trans h1, h2, h3, h4⟩), o9.past (by decide) (fun ⟨B, h1, h2, h3⟩ => ⟨B, (put_ne (by decide)).trans h1, h2, h3⟩), o10.past (by decide) (fun h => (put_ne (by decide)).trans h), (fun q => by rw [getD_set_ne (by decide)] at q ⊢; exact hIm q), hK⟩
    · refine wpOp_step rfl (fun KK hK2 => ?_)
      go_simp
      exact hK2 (A.put (some 5) (.pointer (some ⟨W.heap.size, 0, none⟩))) _ ⟨hFR.put (by decide) _, o0.past (by decide) (fun h => (put_ne (by decide)).trans h), o1.past (by decide) (fun h => (put_ne (by decide)).trans h), o2.past (by decide) (fun h => (put_ne (by decide)).trans h), o3.past (by decide) (fun h => (put_ne (by decide)).trans h), o4.past (by decide) (fun h => (put_ne (by decide)).trans h), o5.past (by decide) (fun h => (put_ne (by decide)).trans h), o6.past (by decide) (fun h => (put_ne (by decide)).trans h), o7.past (by decide) (fun h => (put_ne (by decide)).trans h), .now ⟨W.heap.size, _, put_eq (by have hz := hsz.out; omega), hK.size, Blk.new W _ _, rfl⟩, (fun q => by rw [getD_set_ne (by decide)] at q; have q2 := hIm q; rw [hi2] at q2; cases q2), o10.past (by decide) (fun h => (put_ne (by decide)).trans h), (fun _ => getD_set_eq), (kept_new hK _)⟩
    · have e6 := o6 (ready_dep hm 6 (by kernel_rfl))
      obtain ⟨B, cs, hB1, hB2, hB3, hB4⟩ := o8 (ready_dep hm 8 (by kernel_rfl))
      obtain ⟨c0, c1, c2, c3, c4, c5, c6, c7, c8, rfl⟩ : ∃ c0 c1 c2 c3 c4 c5 c6 c7 c8, cs = #[c0, c1, c2, c3, c4, c5, c6, c7, c8] := by
        obtain ⟨cl⟩ := cs
        match cl, hB4 with
        | [c0, c1, c2, c3, c4, c5, c6, c7, c8], _ => exact ⟨c0, c1, c2, c3, c4, c5, c6, c7, c8, rfl⟩
      have r := hB3.all
      have f := hB3.fz
      refine wpOp_step rfl (fun KK hK2 => ?_)
      go_simp
      have hB9 := hB3.set9 (iv N.b) (iv N.l.k) (iv N.l.z) (iv N.l.a) (iv N.l.b) (iv N.r.k) (iv N.r.z) (iv N.r.a) (iv N.r.b)
      have oA9 : Once (l.setIfInBounds 9 true) 8 (∃ (B : Nat) (cs : Array Value), A.tmps[5]? = some (.pointer (some ⟨B, 0, none⟩)) ∧ w1.heap.size ≤ B ∧ Blk _ B cs 29 ∧ cs.size = 9) := fun _ => ⟨B, _, hB1, hB2, hB9, rfl⟩
      exact hK2 A _ ⟨hFR, o0.past (by decide) id, o1.past (by decide) id, o2.past (by decide) id, o3.past (by decide) id, o4.past (by decide) id, o5.past (by decide) id, o6.past (by decide) id, o7.past (by decide) id, oA9, .now ⟨B, hB1, hB2, hB9⟩, o10.past (by decide) id, (fun _ => by rw [getD_set_ne (by decide)]; exact ready_dep hm 8 (by kernel_rfl)), (kept_set (kept_set (kept_set (kept_set (kept_set (kept_set (kept_set (kept_set (kept_set hK _ _ _ (.inr hB2)) _ _ _ (.inr hB2)) _ _ _ (.inr hB2)) _ _ _ (.inr hB2)) _ _ _ (.inr hB2)) _ _ _ (.inr hB2)) _ _ _ (.inr hB2)) _ _ _ (.inr hB2)) _ _ _ (.inr hB2))⟩
    · have e7 := o7 (ready_dep hm 7 (by kernel_rfl))
      refine wpOp_step rfl (fun KK hK2 => ?_)
      go_simp
      exact hK2 (A.put (some 6) (.bool O)) _ ⟨hFR.put (by decide) _, o0.past (by decide) (fun h => (put_ne (by decide)).trans h), o1.past (by decide) (fun h => (put_ne (by decide)).trans h), o2.past (by decide) (fun h => (put_ne (by decide)).trans h), o3.past (by decide) (fun h => (put_ne (by decide)).trans h), o4.past (by decide) (fun h => (put_ne (by decide)).trans h), o5.past (by decide) (fun h => (put_ne (by decide)).trans h), o6.past (by decide) (fun h => (put_ne (by decide)).trans h), o7.past (by decide) (fun h => (put_ne (by decide)).trans h), o8.past (by decide) (fun ⟨B, cs, h1, h2, h3, h4⟩ => ⟨B, cs, (put_ne (by decide)).trans h1, h2, h3, h4⟩), o9.past (by decide) (fun ⟨B, h1, h2, h3⟩ => ⟨B, (put_ne (by decide)).trans h1, h2, h3⟩), .now (put_eq (by have hz := hsz.out; omega)), (fun q => by rw [getD_set_ne (by decide)] at q ⊢; exact hIm q), hK⟩
    · simp at hi1
      omega
end Go.Proofs.Ytobegcbnjlnifaa

namespace Go.Proofs.Ytobegcbnjlnifaa
open Go.RowKit Go.WideShapes Go.ChangeShapes Go.ChangeAt
set_option linter.unusedVariables false
set_option maxRecDepth 100000

theorem Try.cellsInt : Try.prog.cellsOf 3 = 1 := by kernel_rfl
theorem Try.cells_FlagOp : Try.prog.cellsOf 43 = 4 := by kernel_rfl

section
variable {H : Type} {enc : TypeId × Value → H} {w : World} {base : Nat} {spare : Nat → Bool} {held : Bool}

theorem open_FlagOp {r : Reach} {b0 : Nat} {v : Value} {d : DataW H} {p : List MemPlace} (hv : Value.okWide Try.prog w r b0 43 v) (h : DataW.Trod enc Try.prog w base spare held 43 v d p) :
    ∃ (i0 : Int) (i1 : Int) (i2 : Int) (i3 : Int), v = .agg #[.int .i64 i0, .int .i64 i1, .int .i64 i2, .int .i64 i3] ∧ (Lit.int .i64 i0).wf = true ∧ (Lit.int .i64 i1).wf = true ∧ (Lit.int .i64 i2).wf = true ∧ (Lit.int .i64 i3).wf = true := by
  obtain ⟨cs, rfl, hsz⟩ := okWide_struct Try.underlying43 hv
  rw [Try.cells_FlagOp] at hsz
  obtain ⟨cl⟩ := cs
  obtain ⟨c_0, c_1, c_2, c_3, rfl⟩ : ∃ c_0 c_1 c_2 c_3, cl = [c_0, c_1, c_2, c_3] := by
    match cl, hsz with
    | [c_0, c_1, c_2, c_3], _ => exact ⟨c_0, c_1, c_2, c_3, rfl⟩
  obtain ⟨fuel, hf0⟩ := h
  obtain ⟨zs, k, _, _, _, hzl, hf⟩ := DataW.trod_struct Try.underlying43 hf0
  obtain ⟨z_0, z_1, z_2, z_3, rfl⟩ : ∃ z_0 z_1 z_2 z_3, zs = [z_0, z_1, z_2, z_3] := by
    match zs, hzl with
    | [z_0, z_1, z_2, z_3], _ => exact ⟨z_0, z_1, z_2, z_3, rfl⟩
  have t0 := hf 0 _ rfl
  have t1 := hf 1 _ rfl
  have t2 := hf 2 _ rfl
  have t3 := hf 3 _ rfl
  simp [Value.cells, Try.cellsInt] at t0 t1 t2 t3
  obtain ⟨i0, q0, _, wf0⟩ := DataW.trod_int Try.underlying3 t0
  obtain ⟨i1, q1, _, wf1⟩ := DataW.trod_int Try.underlying3 t1
  obtain ⟨i2, q2, _, wf2⟩ := DataW.trod_int Try.underlying3 t2
  obtain ⟨i3, q3, _, wf3⟩ := DataW.trod_int Try.underlying3 t3
  simp at q0 q1 q2 q3
  subst q0 q1 q2 q3
  exact ⟨i0, i1, i2, i3, rfl, wf0, wf1, wf2, wf3⟩

theorem Try.cells_Lazy : Try.prog.cellsOf 54 = 9 := by kernel_rfl
theorem open_foCells {fuel : Nat} {c0 c1 c2 c3 : Value} {y : DataW H × List MemPlace} (h : DataW.trod enc Try.prog w base spare held fuel 43 [c0, c1, c2, c3] = some y) :
    ∃ i0 i1 i2 i3 : Int, (c0 = .int .i64 i0 ∧ c1 = .int .i64 i1 ∧ c2 = .int .i64 i2 ∧ c3 = .int .i64 i3) ∧ (Lit.int .i64 i0).wf = true ∧ (Lit.int .i64 i1).wf = true ∧ (Lit.int .i64 i2).wf = true ∧ (Lit.int .i64 i3).wf = true := by
  obtain ⟨zs, k, _, _, _, hzl, hf⟩ := DataW.trod_struct Try.underlying43 h
  obtain ⟨z0, z1, z2, z3, rfl⟩ : ∃ z0 z1 z2 z3, zs = [z0, z1, z2, z3] := by
    match zs, hzl with
    | [z0, z1, z2, z3], _ => exact ⟨z0, z1, z2, z3, rfl⟩
  have t0 := hf 0 _ rfl
  have t1 := hf 1 _ rfl
  have t2 := hf 2 _ rfl
  have t3 := hf 3 _ rfl
  simp [Try.cellsInt] at t0 t1 t2 t3
  obtain ⟨i0, e0, _, b0⟩ := DataW.trod_int Try.underlying3 t0
  obtain ⟨i1, e1, _, b1⟩ := DataW.trod_int Try.underlying3 t1
  obtain ⟨i2, e2, _, b2⟩ := DataW.trod_int Try.underlying3 t2
  obtain ⟨i3, e3, _, b3⟩ := DataW.trod_int Try.underlying3 t3
  simp at e0 e1 e2 e3
  exact ⟨i0, i1, i2, i3, ⟨e0, e1, e2, e3⟩, b0, b1, b2, b3⟩
theorem open_Lazy {r : Reach} {b0 : Nat} {v : Value} {d : DataW H} {p : List MemPlace} (hv : Value.okWide Try.prog w r b0 54 v) (h : DataW.Trod enc Try.prog w base spare held 54 v d p) :
    ∃ i0 i1 i2 i3 i4 i5 i6 i7 i8 : Int, v = .agg #[.int .i64 i0, .int .i64 i1, .int .i64 i2, .int .i64 i3, .int .i64 i4, .int .i64 i5, .int .i64 i6, .int .i64 i7, .int .i64 i8] ∧ (Lit.int .i64 i0).wf = true ∧ (Lit.int .i64 i1).wf = true ∧ (Lit.int .i64 i2).wf = true ∧ (Lit.int .i64 i3).wf = true ∧ (Lit.int .i64 i4).wf = true ∧ (Lit.int .i64 i5).wf = true ∧ (Lit.int .i64 i6).wf = true ∧ (Lit.int .i64 i7).wf = true ∧ (Lit.int .i64 i8).wf = true := by
  obtain ⟨cs, rfl, hsz⟩ := okWide_struct Try.underlying54 hv
  rw [Try.cells_Lazy] at hsz
  obtain ⟨cl⟩ := cs
  obtain ⟨c0, c1, c2, c3, c4, c5, c6, c7, c8, rfl⟩ : ∃ c0 c1 c2 c3 c4 c5 c6 c7 c8, cl = [c0, c1, c2, c3, c4, c5, c6, c7, c8] := by
    match cl, hsz with
    | [c0, c1, c2, c3, c4, c5, c6, c7, c8], _ => exact ⟨c0, c1, c2, c3, c4, c5, c6, c7, c8, rfl⟩
  obtain ⟨fuel, hf0⟩ := h
  obtain ⟨zs, k, _, _, _, hzl, hf⟩ := DataW.trod_struct Try.underlying54 hf0
  obtain ⟨z0, z1, z2, rfl⟩ : ∃ z0 z1 z2, zs = [z0, z1, z2] := by
    match zs, hzl with
    | [z0, z1, z2], _ => exact ⟨z0, z1, z2, rfl⟩
  have t0 := hf 0 _ rfl
  have t1 := hf 1 _ rfl
  have t2 := hf 2 _ rfl
  simp [Value.cells, Try.cellsInt, Try.cells_FlagOp] at t0 t1 t2
  obtain ⟨i0, e0, _, b0⟩ := DataW.trod_int Try.underlying3 t0
  obtain ⟨i1, i2, i3, i4, ⟨e1, e2, e3, e4⟩, b1, b2, b3, b4⟩ := open_foCells t1
  obtain ⟨i5, i6, i7, i8, ⟨e5, e6, e7, e8⟩, b5, b6, b7, b8⟩ := open_foCells t2
  simp at e0
  subst e0 e1 e2 e3 e4 e5 e6 e7 e8
  exact ⟨i0, i1, i2, i3, i4, i5, i6, i7, i8, rfl, b0, b1, b2, b3, b4, b5, b6, b7, b8⟩
end
end Go.Proofs.Ytobegcbnjlnifaa

