/- The plain arithmetic beneath the walks of chapter 1: what masks, values with a sign and flags are, as functions on whole numbers. No Go text is spoken of here. Small things that every walk of ours leans on: equal answers, a fact kept from the walk, and what the model's test of a range answers. What is said of worlds, blocks and lists by every law on structs with lists: blocks kept outside a span, lists in blocks of a span, a block's cells, copies; no text of a chapter is spoken of here. What the laws' own functions over lists of FlagOp do (structs of 4 whole numbers, laid one behind the other): compare, copy, mark. A list of n is spoken of as the row of its 4 * n numbers. Operations on flags in numbers: plain arithmetic; no Go text is spoken of here. What the laws' own functions on notes do: copy, compare; and on lists of operations: measure. What the model's test of a size answers. What the model's test of a value of a size answers, for every argument; none changes the world. What the model's small functions of chapter 1 answer, for every argument: one contract a function; none changes the world. What the program's test of a value of a size answers: one contract a function; none changes the world. What the small functions of chapter 1 and of its model answer, for every argument: one contract a function; none changes the world. What the sums and differences of chapter 1, and of its model, answer for every argument: one contract a function; none changes the world. What the model's small functions on operations and notes answer. What the model's functions on notes answer. What the program's small functions on operations answer, whether a note is good, a note with an operation more. The laws on GoodFlagOp, GoodLazy, FlagsOf, CondOf and CarryOf: of whatever arguments, their Go functions return true, and no block that was there has turned. Operations, notes and lists of operations that came in to a law: opened out of a law's argument. -/
import Derived.WalkKit
import Derived.Test.YtobegcbnjlnifaaProg
import Derived.WalkSpells
import Derived.WalkLawsBesides
import Derived.OpenShut
import Derived.RegionTactic
import Derived.ChangeAlike
import Derived.BigRegion
import Derived.Deep.RegionWith
import Derived.Laws.Rows
import Derived.Laws.ResultCell
import Derived.Laws.CopyOwn
import Derived.Maps.AppendAt
import Derived.Laws.AppendOwnNone
import Derived.Deep.QuietTactic
import Derived.BigQuiet
import Derived.Deep.AppendLies
import Derived.Below
import Derived.Lib.SmallJoins
import Derived.Deep.Slices
import Derived.ProofKit
namespace Go.Proofs.Ytobegcbnjlnifaa.Pl

/-- how many values a size has -/
def top (s : Int) : Int := if s = 1 then 256 else 65536
/-- a value of a size -/
def okv (s v : Int) : Bool := (decide (s = 1) || decide (s = 2)) && (decide (0 ≤ v) && decide (v < top s))
/-- a value as a number with a sign -/
def sg (s v : Int) : Int := if top s / 2 ≤ v then v - top s else v
def sgnV (s v : Int) : Int := if okv s v = true then sg s v else 0
def flags (f : Int) : Bool := decide (0 ≤ f) && decide (f ≤ 31)
theorem top_ok {s v : Int} (h : okv s v = true) : (s = 1 ∧ top s = 256 ∨ s = 2 ∧ top s = 65536) ∧ 0 ≤ v ∧ v < top s := by
  simp [okv] at h
  obtain ⟨h1, h2, h3⟩ := h
  refine ⟨?_, h2, h3⟩
  rcases h1 with rfl | rfl
  · exact .inl ⟨rfl, rfl⟩
  · exact .inr ⟨rfl, rfl⟩

end Go.Proofs.Ytobegcbnjlnifaa.Pl

namespace Go.Proofs.Ytobegcbnjlnifaa
open Go.RowKit
set_option linter.unusedVariables false

/- long words made short -/
abbrev iv (n : Int) : Value := .int .i64 n
theorem st {P : Program} {f : FuncId} {a : Array Value} {w : World} {r : Ending} {Q : Ending → World → Prop} (h : Calls P f a w fun e w' => e = r ∧ w' = w) (q : Q r w) : Calls P f a w Q := h.mono (by rintro e w' ⟨rfl, rfl⟩; exact q)
theorem hide {p : Prop} (h : p) : Hid p := h
theorem rB {a b : Bool} (h : a = b) : Ending.returned (.bool a) = .returned (.bool b) := by rw [h]
theorem rIB {a b : Int} {c d : Bool} (h : a = b) (k : c = d) : Ending.returned (.tuple #[.int .i64 a, .bool c]) = .returned (.tuple #[.int .i64 b, .bool d]) := by rw [h, k]
theorem rIIB {a b c d : Int} {e f : Bool} (h : a = b) (k : c = d) (l : e = f) : Ending.returned (.tuple #[.int .i64 a, .int .i64 c, .bool e]) = .returned (.tuple #[.int .i64 b, .int .i64 d, .bool f]) := by rw [h, k, l]

theorem l1In (n lo hi : Int) (w : World) :
    Calls Try.prog 53 #[.int .i64 n, .int .i64 lo, .int .i64 hi] w fun e w' => e = .returned (.bool (decide (lo ≤ n) && decide (n ≤ hi))) ∧ w' = w := by
  by_cases h0 : lo ≤ n
  all_goals
    by_cases h1 : n ≤ hi
    all_goals
      go_enter Try.func53, Try.ntmps53
      go_wp2
      go_ret
      exact ⟨rB (by simp; omega), rfl⟩

end Go.Proofs.Ytobegcbnjlnifaa

namespace Go.Proofs.Ytobegcbnjlnifaa
open Go.RowKit
set_option linter.unusedVariables false

theorem results_one {fn : Func} {p : Tmp} {ty : TypeId} (h : fn.results = #[.cell p ty]) (tmps : Array Value) (P : Program) (w : World) :
    (results fn tmps).run P w = ((asAddr (tmps.getD p undef)).run P w).andThen fun a w₁ => (loadVar ty a).run P w₁ := by
  simp only [results, h]
  simp [Sem.run_bind, Result.andThen]
/-- of the blocks that were there those outside a span are as they were -/
structure Kept (lo hi : Nat) (w w' : World) : Prop where
  os : w'.os = w.os
  tape : w'.tape = w.tape
  output : w'.output = w.output
  size : w.heap.size ≤ w'.heap.size
  block : ∀ k, k < w.heap.size → ¬ (lo ≤ k ∧ k < hi) → w'.heap[k]? = w.heap[k]?

theorem Kept.refl (lo hi : Nat) (w : World) : Kept lo hi w w := ⟨rfl, rfl, rfl, Nat.le_refl _, fun _ _ _ => rfl⟩
theorem Kept.trans {lo hi : Nat} {a b c : World} (h : Kept lo hi a b) (k : Kept lo hi b c) : Kept lo hi a c :=
  ⟨k.os.trans h.os, k.tape.trans h.tape, k.output.trans h.output, Nat.le_trans h.size k.size, fun i hi hn => (k.block i (Nat.lt_of_lt_of_le hi h.size) hn).trans (h.block i hi hn)⟩
theorem kept_below {w w' : World} (h : Below w.heap.size w w') : Kept 0 0 w w' := ⟨h.os, h.tape, h.output, h.size, fun k hk _ => h.block k hk⟩
theorem Kept.below {w w' : World} (h : Kept 0 0 w w') : Below w.heap.size w w' := ⟨h.os, h.tape, h.output, h.size, fun k hk => h.block k hk (by omega)⟩
theorem kept_alloc (w : World) (o : Obj) : Kept 0 0 w (w.alloc o) := kept_below ((Below.refl _ w).alloc (Nat.le_refl _) o)
/-- a block that holds these cells -/
def Blk (w : World) (b : Nat) (cs : Array Value) (ty : TypeId) : Prop := w.heap[b]? = some (.cells cs ty)
theorem Blk.lt {w : World} {b : Nat} {cs : Array Value} {ty : TypeId} (h : Blk w b cs ty) : b < w.heap.size := by
  unfold Blk at h
  rcases Nat.lt_or_ge b w.heap.size with h' | h'
  · exact h'
  · rw [Array.getElem?_eq_none h'] at h; cases h
theorem Blk.kept {w w' : World} {b : Nat} {cs : Array Value} {ty : TypeId} {lo hi : Nat} (h : Blk w b cs ty) (k : Kept lo hi w w') (hn : ¬ (lo ≤ b ∧ b < hi)) : Blk w' b cs ty := (k.block b h.lt hn).trans h
theorem Blk.kept0 {w w' : World} {b : Nat} {cs : Array Value} {ty : TypeId} (h : Blk w b cs ty) (k : Kept 0 0 w w') : Blk w' b cs ty := h.kept k (by omega)
theorem Blk.new (w : World) (cs : Array Value) (ty : TypeId) : Blk (w.alloc (.cells cs ty)) w.heap.size cs ty := heap_alloc_new w _
/-- a store into a block of the span -/
theorem kept_set {w w' : World} {lo hi : Nat} (h : Kept lo hi w w') (b i : Nat) (v : Value) (hb : (lo ≤ b ∧ b < hi) ∨ w.heap.size ≤ b) : Kept lo hi w (w'.setCell ⟨b, i, none⟩ v) :=
  ⟨h.os, h.tape, h.output, by simpa using h.size, fun k hk hn => (Below.heap_setCell _ _ _ _ (by simp; omega)).trans (h.block k hk hn)⟩
theorem kept_new {w w' : World} {lo hi : Nat} (h : Kept lo hi w w') (o : Obj) : Kept lo hi w (w'.alloc o) :=
  ⟨h.os, h.tape, h.output, Nat.le_trans h.size (by simp), fun k hk hn => (Below.heap_alloc _ _ _ (Nat.lt_of_lt_of_le hk h.size)).trans (h.block k hk hn)⟩
namespace Pl
end Pl
theorem Blk.all {w : World} {b : Nat} {cs : Array Value} {ty : TypeId} (h : Blk w b cs ty) (i : Nat) : w.cell? ⟨b, i, none⟩ = cs[i]? := by
  have e : w.heap[b]? = some (.cells cs ty (0, 0)) := h
  unfold World.cell?
  dsimp only
  rw [e]
  simp
end Go.Proofs.Ytobegcbnjlnifaa

namespace Go.Proofs.Ytobegcbnjlnifaa
open Go.RowKit
set_option linter.unusedVariables false

theorem toFlagOp (a b c d : Int) (w : World) :
    Calls Try.prog 23 #[.agg #[.int .i64 a, .int .i64 b, .int .i64 c, .int .i64 d]] w fun r w' => r = .returned (.agg #[.int .i64 a, .int .i64 b, .int .i64 c, .int .i64 d]) ∧ ∃ o1 o2 o3, w' = ((w.alloc o1).alloc o2).alloc o3 := by
  go_enter Try.func23, Try.ntmps23
  go_wp2
  refine bodyPost_ret (v := .agg #[.int .i64 a, .int .i64 b, .int .i64 c, .int .i64 d]) ?_ rfl ⟨rfl, _, _, _, rfl⟩
  rw [results_one rfl]; go_simp
end Go.Proofs.Ytobegcbnjlnifaa

namespace Go.Proofs.Ytobegcbnjlnifaa.Pl
set_option linter.unusedVariables false
structure Fo where
  k : Int
  z : Int
  a : Int
  b : Int
def foNo : Fo := ⟨0, 0, 0, 0⟩
def foNone (x : Fo) : Bool := (x.k == 0) && ((x.z == 0) && ((x.a == 0) && (x.b == 0)))
def foSame (x y : Fo) : Bool := (x.k == y.k) && ((x.z == y.z) && ((x.a == y.a) && (x.b == y.b)))
def sumK (k : Int) : Bool := (k == 1) || (k == 2)
def foOk (x : Fo) : Bool := (okv x.z x.a && okv x.z x.b) && ((decide (1 ≤ x.k) && decide (x.k ≤ 5)) && (decide (x.k ≤ 3) || (x.b == 0)))
/-- a note -/
structure Lz where
  b : Int
  l : Fo
  r : Fo
def lzOk (z : Lz) : Bool := flags z.b && (bif foNone z.l then foNone z.r else foOk z.l && (bif sumK z.l.k then foSame z.r z.l else foNone z.r || (sumK z.r.k && foOk z.r)))
def note (z : Lz) (x : Fo) : Lz := ⟨z.b, x, if sumK x.k = true then x else z.r⟩
theorem foNone_ok {x : Fo} (h : foNone x = true) : x = foNo := by
  obtain ⟨k, z, a, b⟩ := x
  simp [foNone] at h
  obtain ⟨rfl, rfl, rfl, rfl⟩ := h
  rfl
theorem foSame_ok {x y : Fo} (h : foSame x y = true) : x = y := by
  obtain ⟨k, z, a, b⟩ := x
  obtain ⟨k', z', a', b'⟩ := y
  simp [foSame] at h
  obtain ⟨rfl, rfl, rfl, rfl⟩ := h
  rfl
theorem foSame_self (x : Fo) : foSame x x = true := by simp [foSame]
theorem foSame_comm (x y : Fo) : foSame x y = foSame y x := by
  rw [Bool.eq_iff_iff]
  constructor <;> intro h <;> rw [foSame_ok h] <;> exact foSame_self _
/- flags stay flags -/
end Go.Proofs.Ytobegcbnjlnifaa.Pl
namespace Go.Proofs.Ytobegcbnjlnifaa
abbrev foA (x : Pl.Fo) : Array Value := #[iv x.k, iv x.z, iv x.a, iv x.b]
abbrev lzA (z : Pl.Lz) : Array Value := #[iv z.b, iv z.l.k, iv z.l.z, iv z.l.a, iv z.l.b, iv z.r.k, iv z.r.z, iv z.r.a, iv z.r.b]
/-- numbers that an int holds -/
structure FoW (x : Pl.Fo) : Prop where
  k : (Lit.int .i64 x.k).wf = true
  z : (Lit.int .i64 x.z).wf = true
  a : (Lit.int .i64 x.a).wf = true
  b : (Lit.int .i64 x.b).wf = true
structure LzW (z : Pl.Lz) : Prop where
  b : (Lit.int .i64 z.b).wf = true
  l : FoW z.l
  r : FoW z.r
end Go.Proofs.Ytobegcbnjlnifaa

namespace Go.Proofs.Ytobegcbnjlnifaa
open Go.RowKit
set_option linter.unusedVariables false
set_option maxRecDepth 100000 in
set_option maxHeartbeats 4000000 in
theorem toLz (w : World) (z : Pl.Lz) : Calls Try.prog 30 #[.agg (lzA z)] w fun e w' => e = .returned (.agg (lzA z)) ∧ Kept 0 0 w w' := by
  go_enter Try.func30, Try.ntmps30
  go_wp2_with (go_at_call 23; (first | (with_reducible refine (toFlagOp z.l.k z.l.z z.l.a z.l.b _).mono ?_) | (with_reducible refine (toFlagOp z.r.k z.r.z z.r.a z.r.b _).mono ?_)); rintro e9 w9 ⟨rfl, o1, o2, o3, rfl⟩)
  refine bodyPost_ret (v := .agg (lzA z)) ?_ rfl ⟨rfl, ?_⟩
  · rw [results_one rfl]; go_simp
  · repeat (first | with_reducible exact Kept.refl _ _ _ | refine kept_new ?_ _ | refine kept_set ?_ _ _ _ (.inr (by simp)))
end Go.Proofs.Ytobegcbnjlnifaa

namespace Go.Proofs.Ytobegcbnjlnifaa
open Go.RowKit
set_option linter.unusedVariables false

theorem l1Size_no (s : Int) (w : World) (h1 : ¬ s = 1) (h2 : ¬ s = 2) : Calls Try.prog 82 #[iv s] w fun e w' => e = .returned (.bool false) ∧ w' = w := by
  have k1 : (s == 1) = false := by simpa using h1
  have k2 : (s == 2) = false := by simpa using h2
  go_enter Try.func82, Try.ntmps82
  go_wp2
  go_ret
  exact ⟨rfl, rfl⟩

theorem l1Size1 (w : World) : Calls Try.prog 82 #[iv 1] w fun e w' => e = .returned (.bool true) ∧ w' = w := by
  go_enter Try.func82, Try.ntmps82
  go_wp2
  go_ret
  exact ⟨rfl, rfl⟩

theorem l1Size2 (w : World) : Calls Try.prog 82 #[iv 2] w fun e w' => e = .returned (.bool true) ∧ w' = w := by
  go_enter Try.func82, Try.ntmps82
  go_wp2
  go_ret
  exact ⟨rfl, rfl⟩
end Go.Proofs.Ytobegcbnjlnifaa

namespace Go.Proofs.Ytobegcbnjlnifaa
open Go.RowKit
set_option linter.unusedVariables false

theorem l1Top1 (w : World) : Calls Try.prog 83 #[iv 1] w fun e w' => e = .returned (iv 256) ∧ w' = w := by
  go_enter Try.func83, Try.ntmps83
  go_wp2
  go_ret
  exact ⟨rfl, rfl⟩

theorem l1Top2 (w : World) : Calls Try.prog 83 #[iv 2] w fun e w' => e = .returned (iv 65536) ∧ w' = w := by
  go_enter Try.func83, Try.ntmps83
  go_wp2
  go_ret
  exact ⟨rfl, rfl⟩

theorem l1Value (s v : Int) (w : World) :
    Calls Try.prog 52 #[iv s, iv v] w fun e w' => e = .returned (.bool (Pl.okv s v)) ∧ w' = w := by
  by_cases h1 : s = 1
  · subst h1
    go_enter Try.func52, Try.ntmps52
    go_wp2_with fail
    refine (l1Size1 _).mono ?_
    rintro e w' ⟨rfl, rfl⟩
    go_wp2_with fail
    refine (l1Top1 _).mono ?_
    rintro e w' ⟨rfl, rfl⟩
    go_wp2_with fail
    refine (l1In _ _ _ _).mono ?_
    rintro e w' ⟨rfl, rfl⟩
    go_wp2_with fail
    go_ret
    exact ⟨rB (by rw [Bool.eq_iff_iff]; simp [Pl.okv, Pl.top]; omega), rfl⟩
  · by_cases h2 : s = 2
    · subst h2
      go_enter Try.func52, Try.ntmps52
      go_wp2_with fail
      refine (l1Size2 _).mono ?_
      rintro e w' ⟨rfl, rfl⟩
      go_wp2_with fail
      refine (l1Top2 _).mono ?_
      rintro e w' ⟨rfl, rfl⟩
      go_wp2_with fail
      refine (l1In _ _ _ _).mono ?_
      rintro e w' ⟨rfl, rfl⟩
      go_wp2_with fail
      go_ret
      exact ⟨rB (by rw [Bool.eq_iff_iff]; simp [Pl.okv, Pl.top]; omega), rfl⟩
    · go_enter Try.func52, Try.ntmps52
      go_wp2_with fail
      refine (l1Size_no s _ h1 h2).mono ?_
      rintro e w' ⟨rfl, rfl⟩
      go_wp2_with fail
      go_ret
      exact ⟨rB (by simp [Pl.okv, h1, h2]), rfl⟩

end Go.Proofs.Ytobegcbnjlnifaa

namespace Go.Proofs.Ytobegcbnjlnifaa
open Go.RowKit
set_option linter.unusedVariables false

theorem l1Flags (f : Int) (w : World) :
    Calls Try.prog 39 #[iv f] w fun e w' => e = .returned (.bool (Pl.flags f)) ∧ w' = w := by
  go_enter Try.func39, Try.ntmps39
  go_wp2_with fail
  refine (l1In f 0 31 _).mono ?_
  rintro e w' ⟨rfl, rfl⟩
  go_wp2_with fail
  go_ret
  exact ⟨rfl, rfl⟩

end Go.Proofs.Ytobegcbnjlnifaa

namespace Go.Proofs.Ytobegcbnjlnifaa
open Go.RowKit
set_option linter.unusedVariables false

theorem signedAs8 (v : Int) (w : World) (lo : -9223372036854775808 ≤ v) (hi : v ≤ 9223372036854775807) :
    Calls Try.prog 100 #[iv v] w fun e w' => e = .returned (.tuple #[iv (Pl.sgnV 1 v), .bool (Pl.okv 1 v)]) ∧ w' = w := by
  by_cases h : 0 ≤ v ∧ v < 256
  · obtain ⟨h0, h1⟩ := h
    have hs : IntKind.u8.signed = false := rfl
    have hm : IntKind.u8.max = 255 := by decide
    have hb : bits .xor .u8 255 0 = 255 := by decide
    by_cases h : 127 < v
    all_goals
      go_enter Try.func100, Try.ntmps100
      go_wp2
      go_ret2
      exact ⟨rIB (by simp [Pl.sgnV, Pl.okv, Pl.sg, Pl.top, h0, h1]; omega) (by simp [Pl.okv, Pl.top, h0, h1]), rfl⟩
  · go_enter Try.func100, Try.ntmps100
    go_wp2
    go_ret2
    have k : Pl.okv 1 v = false := by
      cases c : Pl.okv 1 v
      · rfl
      · have := Pl.top_ok c; omega
    exact ⟨rIB (by simp [Pl.sgnV, k]) k.symm, rfl⟩

theorem signedAs16 (v : Int) (w : World) (lo : -9223372036854775808 ≤ v) (hi : v ≤ 9223372036854775807) :
    Calls Try.prog 101 #[iv v] w fun e w' => e = .returned (.tuple #[iv (Pl.sgnV 2 v), .bool (Pl.okv 2 v)]) ∧ w' = w := by
  by_cases h : 0 ≤ v ∧ v < 65536
  · obtain ⟨h0, h1⟩ := h
    have hs : IntKind.u16.signed = false := rfl
    have hm : IntKind.u16.max = 65535 := by decide
    have hb : bits .xor .u16 65535 0 = 65535 := by decide
    by_cases h : 32767 < v
    all_goals
      go_enter Try.func101, Try.ntmps101
      go_wp2
      go_ret2
      exact ⟨rIB (by simp [Pl.sgnV, Pl.okv, Pl.sg, Pl.top, h0, h1]; omega) (by simp [Pl.okv, Pl.top, h0, h1]), rfl⟩
  · have hw : IntKind.u16.wrap v = v % 65536 := IntKind.wrap_u16 v
    go_enter Try.func101, Try.ntmps101
    go_wp2
    go_ret2
    have k : Pl.okv 2 v = false := by
      cases c : Pl.okv 2 v
      · rfl
      · have := Pl.top_ok c; omega
    exact ⟨rIB (by simp [Pl.sgnV, k]) k.symm, rfl⟩

theorem signedOf (s v : Int) (w : World) (lo : -9223372036854775808 ≤ v) (hi : v ≤ 9223372036854775807) :
    Calls Try.prog 84 #[iv s, iv v] w fun e w' => e = .returned (.tuple #[iv (Pl.sgnV s v), .bool (Pl.okv s v)]) ∧ w' = w := by
  by_cases h1 : s = 1
  · subst h1
    go_enter Try.func84, Try.ntmps84
    go_wp2_with fail
    refine (signedAs8 v _ lo hi).mono ?_
    rintro e w' ⟨rfl, rfl⟩
    go_wp2_with fail
    go_ret2
    exact ⟨rfl, rfl⟩
  · by_cases h2 : s = 2
    · subst h2
      go_enter Try.func84, Try.ntmps84
      go_wp2_with fail
      refine (signedAs16 v _ lo hi).mono ?_
      rintro e w' ⟨rfl, rfl⟩
      go_wp2_with fail
      go_ret2
      exact ⟨rfl, rfl⟩
    · have k : Pl.okv s v = false := by simp [Pl.okv, h1, h2]
      have k1 : (s == 1) = false := by simpa using h1
      have k2 : (s == 2) = false := by simpa using h2
      go_enter Try.func84, Try.ntmps84
      go_wp2_with fail
      go_ret2
      exact ⟨rIB (by simp [Pl.sgnV, k]) k.symm, rfl⟩

end Go.Proofs.Ytobegcbnjlnifaa

namespace Go.Proofs.Ytobegcbnjlnifaa
open Go.RowKit
set_option linter.unusedVariables false

/-! ### the program's own -/

theorem isFlags (x : Int) (w : World) :
    Calls Try.prog 47 #[iv x] w fun e w' => e = .returned (.bool (Pl.flags x)) ∧ w' = w := by
  by_cases h0 : 0 ≤ x
  all_goals
    by_cases h1 : x ≤ 31
    all_goals
      go_enter Try.func47, Try.ntmps47
      go_wp2
      go_ret
      exact ⟨rB (by simp [Pl.flags]; omega), rfl⟩

/-! ### the model's -/

end Go.Proofs.Ytobegcbnjlnifaa

namespace Go.Proofs.Ytobegcbnjlnifaa
set_option linter.unusedVariables false

theorem signedPair (s a b : Int) (w : World) (la : -9223372036854775808 ≤ a) (ha : a ≤ 9223372036854775807) (lb : -9223372036854775808 ≤ b) (hb : b ≤ 9223372036854775807) :
    Calls Try.prog 54 #[iv s, iv a, iv b] w fun e w' => e = .returned (.tuple #[iv (Pl.sgnV s a), iv (Pl.sgnV s b), .bool (Pl.okv s a && Pl.okv s b)]) ∧ w' = w := by
  cases ka : Pl.okv s a
  all_goals
    cases kb : Pl.okv s b
    all_goals
      go_enter Try.func54, Try.ntmps54
      go_wp2_with fail
      refine (signedOf s a _ la ha).mono ?_
      rintro e w' ⟨rfl, rfl⟩
      go_wp2_with fail
      refine (signedOf s b _ lb hb).mono ?_
      rintro e w' ⟨rfl, rfl⟩
      go_wp2_with fail
      go_ret3
      exact ⟨rIIB rfl rfl rfl, rfl⟩

end Go.Proofs.Ytobegcbnjlnifaa

namespace Go.Proofs.Ytobegcbnjlnifaa
open Go.RowKit
set_option linter.unusedVariables false
theorem eqFo (a b : Pl.Fo) (w : World) : (binOp .eql 27 (.agg #[iv a.k, iv a.z, iv a.a, iv a.b]) (.agg #[iv b.k, iv b.z, iv b.a, iv b.b])).run Try.prog w = .ok (.bool (Pl.foSame a b)) w := by
  obtain ⟨a1, a2, a3, a4⟩ := a
  obtain ⟨b1, b2, b3, b4⟩ := b
  unfold Pl.foSame
  go_simp
  by_cases h1 : a1 = b1
  · by_cases h2 : a2 = b2
    · by_cases h3 : a3 = b3
      · by_cases h4 : a4 = b4
        · simp [h1, h2, h3, h4]
        · simp [h1, h2, h3, h4]
      · simp [h1, h2, h3]
    · simp [h1, h2]
  · simp [h1]
theorem eqFo0 (a : Pl.Fo) (w : World) : (binOp .eql 27 (.agg #[iv a.k, iv a.z, iv a.a, iv a.b]) (.agg #[iv 0, iv 0, iv 0, iv 0])).run Try.prog w = .ok (.bool (Pl.foNone a)) w := by
  obtain ⟨a1, a2, a3, a4⟩ := a
  unfold Pl.foNone
  go_simp
  by_cases h1 : a1 = 0 <;> by_cases h2 : a2 = 0 <;> by_cases h3 : a3 = 0 <;> by_cases h4 : a4 = 0 <;> simp [h1, h2, h3, h4]
theorem specNone (w : World) (x : Pl.Fo) : Calls Try.prog 57 #[.agg (foA x)] w fun e w' => e = .returned (.bool (Pl.foNone x)) ∧ Kept 0 0 w w' := by
  have he := eqFo0 x
  go_enter Try.func57, Try.ntmps57
  go_wp2_with fail
  go_ret
  exact ⟨rfl, kept_alloc _ _⟩
theorem specSum (w : World) (x : Pl.Fo) : Calls Try.prog 58 #[.agg (foA x)] w fun e w' => e = .returned (.bool (Pl.sumK x.k)) ∧ Kept 0 0 w w' := by
  obtain ⟨k, z, a, b⟩ := x
  by_cases h1 : k = 1
  · subst h1
    go_enter Try.func58, Try.ntmps58
    go_wp2_with fail
    go_ret
    exact ⟨rfl, kept_alloc _ _⟩
  · by_cases h2 : k = 2
    · subst h2
      go_enter Try.func58, Try.ntmps58
      go_wp2_with fail
      go_ret
      exact ⟨rfl, kept_alloc _ _⟩
    · have k1 : (k == 1) = false := by simpa using h1
      have k2 : (k == 2) = false := by simpa using h2
      go_enter Try.func58, Try.ntmps58
      go_wp2_with fail
      go_ret
      exact ⟨rB (by simp [Pl.sumK, h1, h2]), kept_alloc _ _⟩
theorem specFo (w : World) (x : Pl.Fo) : Calls Try.prog 22 #[.agg (foA x)] w fun e w' => e = .returned (.bool (Pl.foOk x)) ∧ Kept 0 0 w w' := by
  cases h1 : Pl.okv x.z x.a
  · go_enter Try.func22, Try.ntmps22
    go_wp2_with (go_at_call 52; refine st (l1Value _ _ _) ?_; rw [h1])
    go_ret
    exact ⟨rB (by simp [Pl.foOk, h1]), kept_alloc _ _⟩
  · cases h2 : Pl.okv x.z x.b
    · go_enter Try.func22, Try.ntmps22
      go_wp2_with (go_at_call 52; refine st (l1Value _ _ _) ?_; first | rw [h1] | rw [h2])
      go_ret
      exact ⟨rB (by simp [Pl.foOk, h1, h2]), kept_alloc _ _⟩
    · by_cases h3 : 1 ≤ x.k ∧ x.k ≤ 5
      · have h3b : (decide (1 ≤ x.k) && decide (x.k ≤ 5)) = true := by simp [h3]
        by_cases h4 : x.k ≤ 3
        all_goals
          go_enter Try.func22, Try.ntmps22
          go_wp2_with (first | (go_at_call 52; refine st (l1Value _ _ _) ?_; first | rw [h1] | rw [h2]) | (go_at_call 53; refine st (l1In _ _ _ _) ?_; rw [h3b]))
          go_ret
          exact ⟨rB (by simp [Pl.foOk, h1, h2, h3, h4]), kept_alloc _ _⟩
      · have h3b : (decide (1 ≤ x.k) && decide (x.k ≤ 5)) = false := by simp; omega
        go_enter Try.func22, Try.ntmps22
        go_wp2_with (first | (go_at_call 52; refine st (l1Value _ _ _) ?_; first | rw [h1] | rw [h2]) | (go_at_call 53; refine st (l1In _ _ _ _) ?_; rw [h3b]))
        go_ret
        exact ⟨rB (by simp [Pl.foOk, h1, h2, h3b]), kept_alloc _ _⟩
end Go.Proofs.Ytobegcbnjlnifaa

namespace Go.Proofs.Ytobegcbnjlnifaa
open Go.RowKit
set_option linter.unusedVariables false
/-- whether a note is good, as the model asks it -/
def Pl.lzM (z : Pl.Lz) : Bool := bif !Pl.flags z.b || (!Pl.foNone z.l && !Pl.foOk z.l) then false else bif Pl.foNone z.r then !Pl.sumK z.l.k else bif !Pl.sumK z.r.k || (!Pl.foOk z.r || Pl.foNone z.l) then false else !Pl.sumK z.l.k || Pl.foSame z.l z.r
theorem Pl.lzM_eq (z : Pl.Lz) : Pl.lzM z = Pl.lzOk z := by
  unfold Pl.lzM Pl.lzOk
  cases hF : Pl.flags z.b
  · rfl
  · cases hl : Pl.foNone z.l
    · cases ho : Pl.foOk z.l
      · rfl
      · cases hr : Pl.foNone z.r
        · cases hs : Pl.sumK z.l.k
          · cases h1 : Pl.sumK z.r.k <;> cases h2 : Pl.foOk z.r <;> rfl
          · cases h1 : Pl.sumK z.r.k
            · cases h3 : Pl.foSame z.r z.l
              · rfl
              · rw [Pl.foSame_ok h3, hs] at h1; cases h1
            · cases h2 : Pl.foOk z.r
              · cases h3 : Pl.foSame z.r z.l
                · rfl
                · rw [Pl.foSame_ok h3, ho] at h2; cases h2
              · show Pl.foSame z.l z.r = Pl.foSame z.r z.l
                exact Pl.foSame_comm _ _
        · cases hs : Pl.sumK z.l.k
          · rfl
          · cases h3 : Pl.foSame z.r z.l
            · rfl
            · rw [Pl.foSame_ok h3, hl] at hr; cases hr
    · have hs : Pl.sumK z.l.k = false := by rw [Pl.foNone_ok hl]; rfl
      rw [hs]
      cases hr : Pl.foNone z.r
      · cases h1 : Pl.sumK z.r.k <;> cases h2 : Pl.foOk z.r <;> rfl
      · rfl
set_option maxRecDepth 100000 in
set_option maxHeartbeats 4000000 in
theorem specGoodLazy (w : World) (z : Pl.Lz) : Calls Try.prog 29 #[.agg (lzA z)] w fun e w' => e = .returned (.bool (Pl.lzOk z)) ∧ Kept 0 0 w w' := by
  have he := eqFo z.l z.r
  have K0 := hide (kept_alloc w (.cells (lzA z) 29))
  have B0 := hide (Blk.new w (lzA z) 29)
  have q := B0.out.all
  rw [← Pl.lzM_eq]
  cases F : Pl.flags z.b
  · go_enter Try.func29, Try.ntmps29
    go_wp2_with (first | (go_at_call 39; refine st (l1Flags _ _) ?_; rw [F]) | (go_at_call 57; (first | (with_reducible refine (specNone _ z.l).mono ?_; rw [NL]) | (with_reducible refine (specNone _ z.r).mono ?_; rw [NR])); rintro e9 w9 ⟨rfl, k9⟩; replace K0 := hide (K0.out.trans k9); replace B0 := hide (B0.out.kept0 k9); clear q; have q := B0.out.all; clear k9) | (go_at_call 22; (first | (with_reducible refine (specFo _ z.l).mono ?_; rw [OL]) | (with_reducible refine (specFo _ z.r).mono ?_; rw [OR])); rintro e9 w9 ⟨rfl, k9⟩; replace K0 := hide (K0.out.trans k9); replace B0 := hide (B0.out.kept0 k9); clear q; have q := B0.out.all; clear k9) | (go_at_call 58; (first | (with_reducible refine (specSum _ z.l).mono ?_; rw [SL]) | (with_reducible refine (specSum _ z.r).mono ?_; rw [SR])); rintro e9 w9 ⟨rfl, k9⟩; replace K0 := hide (K0.out.trans k9); replace B0 := hide (B0.out.kept0 k9); clear q; have q := B0.out.all; clear k9))
    go_ret
    exact ⟨rB (by simp [Pl.lzM, F]), K0.out⟩
  · cases NL : Pl.foNone z.l
    · cases OL : Pl.foOk z.l
      · go_enter Try.func29, Try.ntmps29
        go_wp2_with (first | (go_at_call 39; refine st (l1Flags _ _) ?_; rw [F]) | (go_at_call 57; (first | (with_reducible refine (specNone _ z.l).mono ?_; rw [NL]) | (with_reducible refine (specNone _ z.r).mono ?_; rw [NR])); rintro e9 w9 ⟨rfl, k9⟩; replace K0 := hide (K0.out.trans k9); replace B0 := hide (B0.out.kept0 k9); clear q; have q := B0.out.all; clear k9) | (go_at_call 22; (first | (with_reducible refine (specFo _ z.l).mono ?_; rw [OL]) | (with_reducible refine (specFo _ z.r).mono ?_; rw [OR])); rintro e9 w9 ⟨rfl, k9⟩; replace K0 := hide (K0.out.trans k9); replace B0 := hide (B0.out.kept0 k9); clear q; have q := B0.out.all; clear k9) | (go_at_call 58; (first | (with_reducible refine (specSum _ z.l).mono ?_; rw [SL]) | (with_reducible refine (specSum _ z.r).mono ?_; rw [SR])); rintro e9 w9 ⟨rfl, k9⟩; replace K0 := hide (K0.out.trans k9); replace B0 := hide (B0.out.kept0 k9); clear q; have q := B0.out.all; clear k9))
        go_ret
        exact ⟨rB (by simp [Pl.lzM, F, NL, OL]), K0.out⟩
      · cases NR : Pl.foNone z.r
        · cases SR : Pl.sumK z.r.k
          · go_enter Try.func29, Try.ntmps29
            go_wp2_with (first | (go_at_call 39; refine st (l1Flags _ _) ?_; rw [F]) | (go_at_call 57; (first | (with_reducible refine (specNone _ z.l).mono ?_; rw [NL]) | (with_reducible refine (specNone _ z.r).mono ?_; rw [NR])); rintro e9 w9 ⟨rfl, k9⟩; replace K0 := hide (K0.out.trans k9); replace B0 := hide (B0.out.kept0 k9); clear q; have q := B0.out.all; clear k9) | (go_at_call 22; (first | (with_reducible refine (specFo _ z.l).mono ?_; rw [OL]) | (with_reducible refine (specFo _ z.r).mono ?_; rw [OR])); rintro e9 w9 ⟨rfl, k9⟩; replace K0 := hide (K0.out.trans k9); replace B0 := hide (B0.out.kept0 k9); clear q; have q := B0.out.all; clear k9) | (go_at_call 58; (first | (with_reducible refine (specSum _ z.l).mono ?_; rw [SL]) | (with_reducible refine (specSum _ z.r).mono ?_; rw [SR])); rintro e9 w9 ⟨rfl, k9⟩; replace K0 := hide (K0.out.trans k9); replace B0 := hide (B0.out.kept0 k9); clear q; have q := B0.out.all; clear k9))
            go_ret
            exact ⟨rB (by simp [Pl.lzM, F, NL, OL, NR, SR]), K0.out⟩
          · cases OR : Pl.foOk z.r
            · go_enter Try.func29, Try.ntmps29
              go_wp2_with (first | (go_at_call 39; refine st (l1Flags _ _) ?_; rw [F]) | (go_at_call 57; (first | (with_reducible refine (specNone _ z.l).mono ?_; rw [NL]) | (with_reducible refine (specNone _ z.r).mono ?_; rw [NR])); rintro e9 w9 ⟨rfl, k9⟩; replace K0 := hide (K0.out.trans k9); replace B0 := hide (B0.out.kept0 k9); clear q; have q := B0.out.all; clear k9) | (go_at_call 22; (first | (with_reducible refine (specFo _ z.l).mono ?_; rw [OL]) | (with_reducible refine (specFo _ z.r).mono ?_; rw [OR])); rintro e9 w9 ⟨rfl, k9⟩; replace K0 := hide (K0.out.trans k9); replace B0 := hide (B0.out.kept0 k9); clear q; have q := B0.out.all; clear k9) | (go_at_call 58; (first | (with_reducible refine (specSum _ z.l).mono ?_; rw [SL]) | (with_reducible refine (specSum _ z.r).mono ?_; rw [SR])); rintro e9 w9 ⟨rfl, k9⟩; replace K0 := hide (K0.out.trans k9); replace B0 := hide (B0.out.kept0 k9); clear q; have q := B0.out.all; clear k9))
              go_ret
              exact ⟨rB (by simp [Pl.lzM, F, NL, OL, NR, SR, OR]), K0.out⟩
            · cases SL : Pl.sumK z.l.k
              · go_enter Try.func29, Try.ntmps29
                go_wp2_with (first | (go_at_call 39; refine st (l1Flags _ _) ?_; rw [F]) | (go_at_call 57; (first | (with_reducible refine (specNone _ z.l).mono ?_; rw [NL]) | (with_reducible refine (specNone _ z.r).mono ?_; rw [NR])); rintro e9 w9 ⟨rfl, k9⟩; replace K0 := hide (K0.out.trans k9); replace B0 := hide (B0.out.kept0 k9); clear q; have q := B0.out.all; clear k9) | (go_at_call 22; (first | (with_reducible refine (specFo _ z.l).mono ?_; rw [OL]) | (with_reducible refine (specFo _ z.r).mono ?_; rw [OR])); rintro e9 w9 ⟨rfl, k9⟩; replace K0 := hide (K0.out.trans k9); replace B0 := hide (B0.out.kept0 k9); clear q; have q := B0.out.all; clear k9) | (go_at_call 58; (first | (with_reducible refine (specSum _ z.l).mono ?_; rw [SL]) | (with_reducible refine (specSum _ z.r).mono ?_; rw [SR])); rintro e9 w9 ⟨rfl, k9⟩; replace K0 := hide (K0.out.trans k9); replace B0 := hide (B0.out.kept0 k9); clear q; have q := B0.out.all; clear k9))
                go_ret
                exact ⟨rB (by simp [Pl.lzM, F, NL, OL, NR, SR, OR, SL]), K0.out⟩
              · go_enter Try.func29, Try.ntmps29
                go_wp2_with (first | (go_at_call 39; refine st (l1Flags _ _) ?_; rw [F]) | (go_at_call 57; (first | (with_reducible refine (specNone _ z.l).mono ?_; rw [NL]) | (with_reducible refine (specNone _ z.r).mono ?_; rw [NR])); rintro e9 w9 ⟨rfl, k9⟩; replace K0 := hide (K0.out.trans k9); replace B0 := hide (B0.out.kept0 k9); clear q; have q := B0.out.all; clear k9) | (go_at_call 22; (first | (with_reducible refine (specFo _ z.l).mono ?_; rw [OL]) | (with_reducible refine (specFo _ z.r).mono ?_; rw [OR])); rintro e9 w9 ⟨rfl, k9⟩; replace K0 := hide (K0.out.trans k9); replace B0 := hide (B0.out.kept0 k9); clear q; have q := B0.out.all; clear k9) | (go_at_call 58; (first | (with_reducible refine (specSum _ z.l).mono ?_; rw [SL]) | (with_reducible refine (specSum _ z.r).mono ?_; rw [SR])); rintro e9 w9 ⟨rfl, k9⟩; replace K0 := hide (K0.out.trans k9); replace B0 := hide (B0.out.kept0 k9); clear q; have q := B0.out.all; clear k9))
                go_ret
                exact ⟨rB (by simp [Pl.lzM, F, NL, OL, NR, SR, OR, SL]), K0.out⟩
        · cases SL : Pl.sumK z.l.k
          · go_enter Try.func29, Try.ntmps29
            go_wp2_with (first | (go_at_call 39; refine st (l1Flags _ _) ?_; rw [F]) | (go_at_call 57; (first | (with_reducible refine (specNone _ z.l).mono ?_; rw [NL]) | (with_reducible refine (specNone _ z.r).mono ?_; rw [NR])); rintro e9 w9 ⟨rfl, k9⟩; replace K0 := hide (K0.out.trans k9); replace B0 := hide (B0.out.kept0 k9); clear q; have q := B0.out.all; clear k9) | (go_at_call 22; (first | (with_reducible refine (specFo _ z.l).mono ?_; rw [OL]) | (with_reducible refine (specFo _ z.r).mono ?_; rw [OR])); rintro e9 w9 ⟨rfl, k9⟩; replace K0 := hide (K0.out.trans k9); replace B0 := hide (B0.out.kept0 k9); clear q; have q := B0.out.all; clear k9) | (go_at_call 58; (first | (with_reducible refine (specSum _ z.l).mono ?_; rw [SL]) | (with_reducible refine (specSum _ z.r).mono ?_; rw [SR])); rintro e9 w9 ⟨rfl, k9⟩; replace K0 := hide (K0.out.trans k9); replace B0 := hide (B0.out.kept0 k9); clear q; have q := B0.out.all; clear k9))
            go_ret
            exact ⟨rB (by simp [Pl.lzM, F, NL, OL, NR, SL]), K0.out⟩
          · go_enter Try.func29, Try.ntmps29
            go_wp2_with (first | (go_at_call 39; refine st (l1Flags _ _) ?_; rw [F]) | (go_at_call 57; (first | (with_reducible refine (specNone _ z.l).mono ?_; rw [NL]) | (with_reducible refine (specNone _ z.r).mono ?_; rw [NR])); rintro e9 w9 ⟨rfl, k9⟩; replace K0 := hide (K0.out.trans k9); replace B0 := hide (B0.out.kept0 k9); clear q; have q := B0.out.all; clear k9) | (go_at_call 22; (first | (with_reducible refine (specFo _ z.l).mono ?_; rw [OL]) | (with_reducible refine (specFo _ z.r).mono ?_; rw [OR])); rintro e9 w9 ⟨rfl, k9⟩; replace K0 := hide (K0.out.trans k9); replace B0 := hide (B0.out.kept0 k9); clear q; have q := B0.out.all; clear k9) | (go_at_call 58; (first | (with_reducible refine (specSum _ z.l).mono ?_; rw [SL]) | (with_reducible refine (specSum _ z.r).mono ?_; rw [SR])); rintro e9 w9 ⟨rfl, k9⟩; replace K0 := hide (K0.out.trans k9); replace B0 := hide (B0.out.kept0 k9); clear q; have q := B0.out.all; clear k9))
            go_ret
            exact ⟨rB (by simp [Pl.lzM, F, NL, OL, NR, SL]), K0.out⟩
    · cases NR : Pl.foNone z.r
      · cases SR : Pl.sumK z.r.k
        · go_enter Try.func29, Try.ntmps29
          go_wp2_with (first | (go_at_call 39; refine st (l1Flags _ _) ?_; rw [F]) | (go_at_call 57; (first | (with_reducible refine (specNone _ z.l).mono ?_; rw [NL]) | (with_reducible refine (specNone _ z.r).mono ?_; rw [NR])); rintro e9 w9 ⟨rfl, k9⟩; replace K0 := hide (K0.out.trans k9); replace B0 := hide (B0.out.kept0 k9); clear q; have q := B0.out.all; clear k9) | (go_at_call 22; (first | (with_reducible refine (specFo _ z.l).mono ?_; rw [OL]) | (with_reducible refine (specFo _ z.r).mono ?_; rw [OR])); rintro e9 w9 ⟨rfl, k9⟩; replace K0 := hide (K0.out.trans k9); replace B0 := hide (B0.out.kept0 k9); clear q; have q := B0.out.all; clear k9) | (go_at_call 58; (first | (with_reducible refine (specSum _ z.l).mono ?_; rw [SL]) | (with_reducible refine (specSum _ z.r).mono ?_; rw [SR])); rintro e9 w9 ⟨rfl, k9⟩; replace K0 := hide (K0.out.trans k9); replace B0 := hide (B0.out.kept0 k9); clear q; have q := B0.out.all; clear k9))
          go_ret
          exact ⟨rB (by simp [Pl.lzM, F, NL, NR, SR]), K0.out⟩
        · cases OR : Pl.foOk z.r
          · go_enter Try.func29, Try.ntmps29
            go_wp2_with (first | (go_at_call 39; refine st (l1Flags _ _) ?_; rw [F]) | (go_at_call 57; (first | (with_reducible refine (specNone _ z.l).mono ?_; rw [NL]) | (with_reducible refine (specNone _ z.r).mono ?_; rw [NR])); rintro e9 w9 ⟨rfl, k9⟩; replace K0 := hide (K0.out.trans k9); replace B0 := hide (B0.out.kept0 k9); clear q; have q := B0.out.all; clear k9) | (go_at_call 22; (first | (with_reducible refine (specFo _ z.l).mono ?_; rw [OL]) | (with_reducible refine (specFo _ z.r).mono ?_; rw [OR])); rintro e9 w9 ⟨rfl, k9⟩; replace K0 := hide (K0.out.trans k9); replace B0 := hide (B0.out.kept0 k9); clear q; have q := B0.out.all; clear k9) | (go_at_call 58; (first | (with_reducible refine (specSum _ z.l).mono ?_; rw [SL]) | (with_reducible refine (specSum _ z.r).mono ?_; rw [SR])); rintro e9 w9 ⟨rfl, k9⟩; replace K0 := hide (K0.out.trans k9); replace B0 := hide (B0.out.kept0 k9); clear q; have q := B0.out.all; clear k9))
            go_ret
            exact ⟨rB (by simp [Pl.lzM, F, NL, NR, SR, OR]), K0.out⟩
          · go_enter Try.func29, Try.ntmps29
            go_wp2_with (first | (go_at_call 39; refine st (l1Flags _ _) ?_; rw [F]) | (go_at_call 57; (first | (with_reducible refine (specNone _ z.l).mono ?_; rw [NL]) | (with_reducible refine (specNone _ z.r).mono ?_; rw [NR])); rintro e9 w9 ⟨rfl, k9⟩; replace K0 := hide (K0.out.trans k9); replace B0 := hide (B0.out.kept0 k9); clear q; have q := B0.out.all; clear k9) | (go_at_call 22; (first | (with_reducible refine (specFo _ z.l).mono ?_; rw [OL]) | (with_reducible refine (specFo _ z.r).mono ?_; rw [OR])); rintro e9 w9 ⟨rfl, k9⟩; replace K0 := hide (K0.out.trans k9); replace B0 := hide (B0.out.kept0 k9); clear q; have q := B0.out.all; clear k9) | (go_at_call 58; (first | (with_reducible refine (specSum _ z.l).mono ?_; rw [SL]) | (with_reducible refine (specSum _ z.r).mono ?_; rw [SR])); rintro e9 w9 ⟨rfl, k9⟩; replace K0 := hide (K0.out.trans k9); replace B0 := hide (B0.out.kept0 k9); clear q; have q := B0.out.all; clear k9))
            go_ret
            exact ⟨rB (by simp [Pl.lzM, F, NL, NR, SR, OR]), K0.out⟩
      · cases SL : Pl.sumK z.l.k
        · go_enter Try.func29, Try.ntmps29
          go_wp2_with (first | (go_at_call 39; refine st (l1Flags _ _) ?_; rw [F]) | (go_at_call 57; (first | (with_reducible refine (specNone _ z.l).mono ?_; rw [NL]) | (with_reducible refine (specNone _ z.r).mono ?_; rw [NR])); rintro e9 w9 ⟨rfl, k9⟩; replace K0 := hide (K0.out.trans k9); replace B0 := hide (B0.out.kept0 k9); clear q; have q := B0.out.all; clear k9) | (go_at_call 22; (first | (with_reducible refine (specFo _ z.l).mono ?_; rw [OL]) | (with_reducible refine (specFo _ z.r).mono ?_; rw [OR])); rintro e9 w9 ⟨rfl, k9⟩; replace K0 := hide (K0.out.trans k9); replace B0 := hide (B0.out.kept0 k9); clear q; have q := B0.out.all; clear k9) | (go_at_call 58; (first | (with_reducible refine (specSum _ z.l).mono ?_; rw [SL]) | (with_reducible refine (specSum _ z.r).mono ?_; rw [SR])); rintro e9 w9 ⟨rfl, k9⟩; replace K0 := hide (K0.out.trans k9); replace B0 := hide (B0.out.kept0 k9); clear q; have q := B0.out.all; clear k9))
          go_ret
          exact ⟨rB (by simp [Pl.lzM, F, NL, NR, SL]), K0.out⟩
        · go_enter Try.func29, Try.ntmps29
          go_wp2_with (first | (go_at_call 39; refine st (l1Flags _ _) ?_; rw [F]) | (go_at_call 57; (first | (with_reducible refine (specNone _ z.l).mono ?_; rw [NL]) | (with_reducible refine (specNone _ z.r).mono ?_; rw [NR])); rintro e9 w9 ⟨rfl, k9⟩; replace K0 := hide (K0.out.trans k9); replace B0 := hide (B0.out.kept0 k9); clear q; have q := B0.out.all; clear k9) | (go_at_call 22; (first | (with_reducible refine (specFo _ z.l).mono ?_; rw [OL]) | (with_reducible refine (specFo _ z.r).mono ?_; rw [OR])); rintro e9 w9 ⟨rfl, k9⟩; replace K0 := hide (K0.out.trans k9); replace B0 := hide (B0.out.kept0 k9); clear q; have q := B0.out.all; clear k9) | (go_at_call 58; (first | (with_reducible refine (specSum _ z.l).mono ?_; rw [SL]) | (with_reducible refine (specSum _ z.r).mono ?_; rw [SR])); rintro e9 w9 ⟨rfl, k9⟩; replace K0 := hide (K0.out.trans k9); replace B0 := hide (B0.out.kept0 k9); clear q; have q := B0.out.all; clear k9))
          go_ret
          exact ⟨rB (by simp [Pl.lzM, F, NL, NR, SL]), K0.out⟩
end Go.Proofs.Ytobegcbnjlnifaa

namespace Go.Proofs.Ytobegcbnjlnifaa
open Go.RowKit
set_option linter.unusedVariables false
theorem implNone (w : World) (x : Pl.Fo) : Calls Try.prog 48 #[.agg (foA x)] w fun e w' => e = .returned (.bool (Pl.foNone x)) ∧ Kept 0 0 w w' := by
  have he := eqFo0 x
  go_enter Try.func48, Try.ntmps48
  go_wp2_with fail
  go_ret
  exact ⟨rfl, kept_alloc _ _⟩
theorem implSum (k : Int) (w : World) : Calls Try.prog 49 #[iv k] w fun e w' => e = .returned (.bool (Pl.sumK k)) ∧ w' = w := by
  by_cases h1 : k = 1
  · subst h1
    go_enter Try.func49, Try.ntmps49
    go_wp2_with fail
    go_ret
    exact ⟨rfl, rfl⟩
  · have k1 : (k == 1) = false := by simpa using h1
    go_enter Try.func49, Try.ntmps49
    go_wp2_with fail
    go_ret
    exact ⟨rB (by simp [Pl.sumK, h1]), rfl⟩
theorem implTakesB (k : Int) (w : World) : Calls Try.prog 55 #[iv k] w fun e w' => e = .returned (.bool (Pl.sumK k || (k == 3))) ∧ w' = w := by
  cases S : Pl.sumK k
  all_goals
    go_enter Try.func55, Try.ntmps55
    go_wp2_with (go_at_call 49; refine st (implSum k _) ?_; rw [S])
    go_ret
    exact ⟨rB (by simp), rfl⟩
theorem implFo (w : World) (x : Pl.Fo) (wf : FoW x) : Calls Try.prog 24 #[.agg (foA x)] w fun e w' => e = .returned (.bool (Pl.foOk x)) ∧ Kept 0 0 w w' := by
  obtain ⟨la, ha⟩ := bounds_i64 wf.a
  obtain ⟨lb, hb⟩ := bounds_i64 wf.b
  obtain ⟨k, z, a, b⟩ := x
  simp only at la ha lb hb
  clear wf
  cases P : (Pl.okv z a && Pl.okv z b)
  · go_enter Try.func24, Try.ntmps24
    go_wp2_with (go_at_call 54; refine st (signedPair z a b _ la ha lb hb) ?_; rw [P])
    go_ret
    exact ⟨rB (by simp only [Pl.foOk]; rw [P]; rfl), kept_alloc _ _⟩
  · by_cases h1 : 1 ≤ k
    · by_cases h5 : k ≤ 5
      · cases T : (Pl.sumK k || (k == 3))
        · have h3 : ¬ k ≤ 3 := by simp [Pl.sumK] at T; omega
          have E : Hid (Pl.foOk ⟨k, z, a, b⟩ = (b == 0)) := hide (by simp only [Pl.foOk]; rw [P, decide_eq_true h1, decide_eq_true h5, decide_eq_false h3]; simp)
          go_enter Try.func24, Try.ntmps24
          go_wp2_with (first | (go_at_call 54; refine st (signedPair z a b _ la ha lb hb) ?_; rw [P]) | (go_at_call 55; refine st (implTakesB k _) ?_; rw [T]))
          go_ret
          exact ⟨rB E.out.symm, kept_alloc _ _⟩
        · have h3 : k ≤ 3 := by simp [Pl.sumK] at T; omega
          have E : Hid (Pl.foOk ⟨k, z, a, b⟩ = true) := hide (by simp only [Pl.foOk]; rw [P, decide_eq_true h1, decide_eq_true h5, decide_eq_true h3]; simp)
          go_enter Try.func24, Try.ntmps24
          go_wp2_with (first | (go_at_call 54; refine st (signedPair z a b _ la ha lb hb) ?_; rw [P]) | (go_at_call 55; refine st (implTakesB k _) ?_; rw [T]))
          go_ret
          exact ⟨rB E.out.symm, kept_alloc _ _⟩
      · have E : Hid (Pl.foOk ⟨k, z, a, b⟩ = false) := hide (by simp only [Pl.foOk]; rw [decide_eq_false h5]; simp)
        go_enter Try.func24, Try.ntmps24
        go_wp2_with (go_at_call 54; refine st (signedPair z a b _ la ha lb hb) ?_; rw [P])
        go_ret
        exact ⟨rB E.out.symm, kept_alloc _ _⟩
    · have E : Hid (Pl.foOk ⟨k, z, a, b⟩ = false) := hide (by simp only [Pl.foOk]; rw [decide_eq_false h1]; simp)
      go_enter Try.func24, Try.ntmps24
      go_wp2_with (go_at_call 54; refine st (signedPair z a b _ la ha lb hb) ?_; rw [P])
      go_ret
      exact ⟨rB E.out.symm, kept_alloc _ _⟩
set_option maxRecDepth 100000 in
set_option maxHeartbeats 4000000 in
theorem implGoodLazy (w : World) (z : Pl.Lz) (wf : LzW z) : Calls Try.prog 19 #[.agg (lzA z)] w fun e w' => e = .returned (.bool (Pl.lzOk z)) ∧ Kept 0 0 w w' := by
  have he := eqFo z.r z.l
  have K0 := hide (kept_alloc w (.cells (lzA z) 29))
  have B0 := hide (Blk.new w (lzA z) 29)
  have q := B0.out.all
  cases F : Pl.flags z.b
  · go_enter Try.func19, Try.ntmps19
    go_wp2_with (first | (go_at_call 47; refine st (isFlags _ _) ?_; rw [F]) | (go_at_call 48; (first | (with_reducible refine (implNone _ z.l).mono ?_; rw [NL]) | (with_reducible refine (implNone _ z.r).mono ?_; rw [NR])); rintro e9 w9 ⟨rfl, k9⟩; replace K0 := hide (K0.out.trans k9); replace B0 := hide (B0.out.kept0 k9); clear q; have q := B0.out.all; clear k9) | (go_at_call 24; (first | (with_reducible refine (implFo _ z.l wf.l).mono ?_; rw [OL]) | (with_reducible refine (implFo _ z.r wf.r).mono ?_; rw [OR])); rintro e9 w9 ⟨rfl, k9⟩; replace K0 := hide (K0.out.trans k9); replace B0 := hide (B0.out.kept0 k9); clear q; have q := B0.out.all; clear k9) | (go_at_call 49; (first | (with_reducible refine st (implSum z.l.k _) ?_; rw [SL]) | (with_reducible refine st (implSum z.r.k _) ?_; rw [SR]))))
    go_ret
    exact ⟨rB (by simp [Pl.lzOk, F]), K0.out⟩
  · cases NL : Pl.foNone z.l
    · cases OL : Pl.foOk z.l
      · go_enter Try.func19, Try.ntmps19
        go_wp2_with (first | (go_at_call 47; refine st (isFlags _ _) ?_; rw [F]) | (go_at_call 48; (first | (with_reducible refine (implNone _ z.l).mono ?_; rw [NL]) | (with_reducible refine (implNone _ z.r).mono ?_; rw [NR])); rintro e9 w9 ⟨rfl, k9⟩; replace K0 := hide (K0.out.trans k9); replace B0 := hide (B0.out.kept0 k9); clear q; have q := B0.out.all; clear k9) | (go_at_call 24; (first | (with_reducible refine (implFo _ z.l wf.l).mono ?_; rw [OL]) | (with_reducible refine (implFo _ z.r wf.r).mono ?_; rw [OR])); rintro e9 w9 ⟨rfl, k9⟩; replace K0 := hide (K0.out.trans k9); replace B0 := hide (B0.out.kept0 k9); clear q; have q := B0.out.all; clear k9) | (go_at_call 49; (first | (with_reducible refine st (implSum z.l.k _) ?_; rw [SL]) | (with_reducible refine st (implSum z.r.k _) ?_; rw [SR]))))
        go_ret
        exact ⟨rB (by simp [Pl.lzOk, F, NL, OL]), K0.out⟩
      · cases SL : Pl.sumK z.l.k
        · cases NR : Pl.foNone z.r
          · cases SR : Pl.sumK z.r.k
            · go_enter Try.func19, Try.ntmps19
              go_wp2_with (first | (go_at_call 47; refine st (isFlags _ _) ?_; rw [F]) | (go_at_call 48; (first | (with_reducible refine (implNone _ z.l).mono ?_; rw [NL]) | (with_reducible refine (implNone _ z.r).mono ?_; rw [NR])); rintro e9 w9 ⟨rfl, k9⟩; replace K0 := hide (K0.out.trans k9); replace B0 := hide (B0.out.kept0 k9); clear q; have q := B0.out.all; clear k9) | (go_at_call 24; (first | (with_reducible refine (implFo _ z.l wf.l).mono ?_; rw [OL]) | (with_reducible refine (implFo _ z.r wf.r).mono ?_; rw [OR])); rintro e9 w9 ⟨rfl, k9⟩; replace K0 := hide (K0.out.trans k9); replace B0 := hide (B0.out.kept0 k9); clear q; have q := B0.out.all; clear k9) | (go_at_call 49; (first | (with_reducible refine st (implSum z.l.k _) ?_; rw [SL]) | (with_reducible refine st (implSum z.r.k _) ?_; rw [SR]))))
              go_ret
              exact ⟨rB (by simp [Pl.lzOk, F, NL, OL, SL, NR, SR]), K0.out⟩
            · cases OR : Pl.foOk z.r
              · go_enter Try.func19, Try.ntmps19
                go_wp2_with (first | (go_at_call 47; refine st (isFlags _ _) ?_; rw [F]) | (go_at_call 48; (first | (with_reducible refine (implNone _ z.l).mono ?_; rw [NL]) | (with_reducible refine (implNone _ z.r).mono ?_; rw [NR])); rintro e9 w9 ⟨rfl, k9⟩; replace K0 := hide (K0.out.trans k9); replace B0 := hide (B0.out.kept0 k9); clear q; have q := B0.out.all; clear k9) | (go_at_call 24; (first | (with_reducible refine (implFo _ z.l wf.l).mono ?_; rw [OL]) | (with_reducible refine (implFo _ z.r wf.r).mono ?_; rw [OR])); rintro e9 w9 ⟨rfl, k9⟩; replace K0 := hide (K0.out.trans k9); replace B0 := hide (B0.out.kept0 k9); clear q; have q := B0.out.all; clear k9) | (go_at_call 49; (first | (with_reducible refine st (implSum z.l.k _) ?_; rw [SL]) | (with_reducible refine st (implSum z.r.k _) ?_; rw [SR]))))
                go_ret
                exact ⟨rB (by simp [Pl.lzOk, F, NL, OL, SL, NR, SR, OR]), K0.out⟩
              · go_enter Try.func19, Try.ntmps19
                go_wp2_with (first | (go_at_call 47; refine st (isFlags _ _) ?_; rw [F]) | (go_at_call 48; (first | (with_reducible refine (implNone _ z.l).mono ?_; rw [NL]) | (with_reducible refine (implNone _ z.r).mono ?_; rw [NR])); rintro e9 w9 ⟨rfl, k9⟩; replace K0 := hide (K0.out.trans k9); replace B0 := hide (B0.out.kept0 k9); clear q; have q := B0.out.all; clear k9) | (go_at_call 24; (first | (with_reducible refine (implFo _ z.l wf.l).mono ?_; rw [OL]) | (with_reducible refine (implFo _ z.r wf.r).mono ?_; rw [OR])); rintro e9 w9 ⟨rfl, k9⟩; replace K0 := hide (K0.out.trans k9); replace B0 := hide (B0.out.kept0 k9); clear q; have q := B0.out.all; clear k9) | (go_at_call 49; (first | (with_reducible refine st (implSum z.l.k _) ?_; rw [SL]) | (with_reducible refine st (implSum z.r.k _) ?_; rw [SR]))))
                go_ret
                exact ⟨rB (by simp [Pl.lzOk, F, NL, OL, SL, NR, SR, OR]), K0.out⟩
          · go_enter Try.func19, Try.ntmps19
            go_wp2_with (first | (go_at_call 47; refine st (isFlags _ _) ?_; rw [F]) | (go_at_call 48; (first | (with_reducible refine (implNone _ z.l).mono ?_; rw [NL]) | (with_reducible refine (implNone _ z.r).mono ?_; rw [NR])); rintro e9 w9 ⟨rfl, k9⟩; replace K0 := hide (K0.out.trans k9); replace B0 := hide (B0.out.kept0 k9); clear q; have q := B0.out.all; clear k9) | (go_at_call 24; (first | (with_reducible refine (implFo _ z.l wf.l).mono ?_; rw [OL]) | (with_reducible refine (implFo _ z.r wf.r).mono ?_; rw [OR])); rintro e9 w9 ⟨rfl, k9⟩; replace K0 := hide (K0.out.trans k9); replace B0 := hide (B0.out.kept0 k9); clear q; have q := B0.out.all; clear k9) | (go_at_call 49; (first | (with_reducible refine st (implSum z.l.k _) ?_; rw [SL]) | (with_reducible refine st (implSum z.r.k _) ?_; rw [SR]))))
            go_ret
            exact ⟨rB (by simp [Pl.lzOk, F, NL, OL, SL, NR]), K0.out⟩
        · go_enter Try.func19, Try.ntmps19
          go_wp2_with (first | (go_at_call 47; refine st (isFlags _ _) ?_; rw [F]) | (go_at_call 48; (first | (with_reducible refine (implNone _ z.l).mono ?_; rw [NL]) | (with_reducible refine (implNone _ z.r).mono ?_; rw [NR])); rintro e9 w9 ⟨rfl, k9⟩; replace K0 := hide (K0.out.trans k9); replace B0 := hide (B0.out.kept0 k9); clear q; have q := B0.out.all; clear k9) | (go_at_call 24; (first | (with_reducible refine (implFo _ z.l wf.l).mono ?_; rw [OL]) | (with_reducible refine (implFo _ z.r wf.r).mono ?_; rw [OR])); rintro e9 w9 ⟨rfl, k9⟩; replace K0 := hide (K0.out.trans k9); replace B0 := hide (B0.out.kept0 k9); clear q; have q := B0.out.all; clear k9) | (go_at_call 49; (first | (with_reducible refine st (implSum z.l.k _) ?_; rw [SL]) | (with_reducible refine st (implSum z.r.k _) ?_; rw [SR]))))
          go_ret
          exact ⟨rB (by simp [Pl.lzOk, F, NL, OL, SL]), K0.out⟩
    · cases NR : Pl.foNone z.r
      · go_enter Try.func19, Try.ntmps19
        go_wp2_with (first | (go_at_call 47; refine st (isFlags _ _) ?_; rw [F]) | (go_at_call 48; (first | (with_reducible refine (implNone _ z.l).mono ?_; rw [NL]) | (with_reducible refine (implNone _ z.r).mono ?_; rw [NR])); rintro e9 w9 ⟨rfl, k9⟩; replace K0 := hide (K0.out.trans k9); replace B0 := hide (B0.out.kept0 k9); clear q; have q := B0.out.all; clear k9) | (go_at_call 24; (first | (with_reducible refine (implFo _ z.l wf.l).mono ?_; rw [OL]) | (with_reducible refine (implFo _ z.r wf.r).mono ?_; rw [OR])); rintro e9 w9 ⟨rfl, k9⟩; replace K0 := hide (K0.out.trans k9); replace B0 := hide (B0.out.kept0 k9); clear q; have q := B0.out.all; clear k9) | (go_at_call 49; (first | (with_reducible refine st (implSum z.l.k _) ?_; rw [SL]) | (with_reducible refine st (implSum z.r.k _) ?_; rw [SR]))))
        go_ret
        exact ⟨rB (by simp [Pl.lzOk, F, NL, NR]), K0.out⟩
      · go_enter Try.func19, Try.ntmps19
        go_wp2_with (first | (go_at_call 47; refine st (isFlags _ _) ?_; rw [F]) | (go_at_call 48; (first | (with_reducible refine (implNone _ z.l).mono ?_; rw [NL]) | (with_reducible refine (implNone _ z.r).mono ?_; rw [NR])); rintro e9 w9 ⟨rfl, k9⟩; replace K0 := hide (K0.out.trans k9); replace B0 := hide (B0.out.kept0 k9); clear q; have q := B0.out.all; clear k9) | (go_at_call 24; (first | (with_reducible refine (implFo _ z.l wf.l).mono ?_; rw [OL]) | (with_reducible refine (implFo _ z.r wf.r).mono ?_; rw [OR])); rintro e9 w9 ⟨rfl, k9⟩; replace K0 := hide (K0.out.trans k9); replace B0 := hide (B0.out.kept0 k9); clear q; have q := B0.out.all; clear k9) | (go_at_call 49; (first | (with_reducible refine st (implSum z.l.k _) ?_; rw [SL]) | (with_reducible refine st (implSum z.r.k _) ?_; rw [SR]))))
        go_ret
        exact ⟨rB (by simp [Pl.lzOk, F, NL, NR]), K0.out⟩
end Go.Proofs.Ytobegcbnjlnifaa

namespace Go.Proofs.Ytobegcbnjlnifaa
open Go.RowKit
set_option linter.unusedVariables false
set_option maxRecDepth 100000 in
theorem lawGoodLazy (z : Pl.Lz) (w : World) (wf : LzW z) : Calls Try.prog 7 #[.agg (lzA z)] w fun r' w' => r' = .returned (.bool true) ∧ Below w.heap.size w w' := by
  have K0 := hide (kept_alloc w (.cells (lzA z) 54))
  have W0 := hide (Blk.new w (lzA z) 54)
  have q := W0.out.all
  generalize hG0 : Pl.lzOk z = G0
  replace hG0 := hide hG0
  go_enter Try.func7, Try.ntmps7
  go_wp2_with (first | (go_at_call 30; (with_reducible refine (toLz _ z).mono ?_); rintro e9 w9 ⟨rfl, k9⟩; replace K0 := hide (K0.out.trans k9); replace W0 := hide (W0.out.kept0 k9); clear q; have q := W0.out.all; clear k9) | (go_at_call 29; (with_reducible refine (specGoodLazy _ z).mono ?_); rw [hG0.out]; rintro e9 w9 ⟨rfl, k9⟩; replace K0 := hide (K0.out.trans k9); replace W0 := hide (W0.out.kept0 k9); clear q; have q := W0.out.all; clear k9) | (go_at_call 19; (with_reducible refine (implGoodLazy _ z wf).mono ?_); rw [hG0.out]; rintro e9 w9 ⟨rfl, k9⟩; replace K0 := hide (K0.out.trans k9); replace W0 := hide (W0.out.kept0 k9); clear q; have q := W0.out.all; clear k9))
  go_ret
  exact ⟨rfl, K0.out.below⟩
end Go.Proofs.Ytobegcbnjlnifaa

namespace Go.Proofs.Ytobegcbnjlnifaa
open Go.RowKit Go.WideShapes Go.ChangeShapes Go.ChangeAt
set_option linter.unusedVariables false
set_option maxRecDepth 100000

theorem Try.cellsInt : Try.prog.cellsOf 3 = 1 := by kernel_rfl
theorem Try.cells_FlagOp : Try.prog.cellsOf 43 = 4 := by kernel_rfl

section
variable {H : Type} {enc : TypeId × Value → H} {w : World} {base : Nat} {spare : Nat → Bool} {held : Bool}

theorem Try.cells_Lazy : Try.prog.cellsOf 54 = 9 := by kernel_rfl
theorem open_foCells {fuel : Nat} {c0 c1 c2 c3 : Value} {y : DataW H × List MemPlace} (h : DataW.trod enc Try.prog w base spare held fuel 43 [c0, c1, c2, c3] = some y) :
    ∃ i0 i1 i2 i3 : Int, (c0 = .int .i64 i0 ∧ c1 = .int .i64 i1 ∧ c2 = .int .i64 i2 ∧ c3 = .int .i64 i3) ∧ (Lit.int .i64 i0).wf = true ∧ (Lit.int .i64 i1).wf = true ∧ (Lit.int .i64 i2).wf = true ∧ (Lit.int .i64 i3).wf = true := by
  obtain ⟨zs, k, _, _, _, hzl, hf⟩ := DataW.trod_struct Try.underlying43 h
  obtain ⟨z0, z1, z2, z3, rfl⟩ : ∃ z0 z1 z2 z3, zs = [z0, z1, z2, z3] := by
    match zs, hzl with
    | [z0, z1, z2, z3], _ => exact ⟨z0, z1, z2, z3, rfl⟩
  have t0 := hf 0 _ rfl
  have t1 := hf 1 _ rfl
  have t2 := hf 2 _ rfl
  have t3 := hf 3 _ rfl
  simp [Try.cellsInt] at t0 t1 t2 t3
  obtain ⟨i0, e0, _, b0⟩ := DataW.trod_int Try.underlying3 t0
  obtain ⟨i1, e1, _, b1⟩ := DataW.trod_int Try.underlying3 t1
  obtain ⟨i2, e2, _, b2⟩ := DataW.trod_int Try.underlying3 t2
  obtain ⟨i3, e3, _, b3⟩ := DataW.trod_int Try.underlying3 t3
  simp at e0 e1 e2 e3
  exact ⟨i0, i1, i2, i3, ⟨e0, e1, e2, e3⟩, b0, b1, b2, b3⟩
theorem open_Lazy {r : Reach} {b0 : Nat} {v : Value} {d : DataW H} {p : List MemPlace} (hv : Value.okWide Try.prog w r b0 54 v) (h : DataW.Trod enc Try.prog w base spare held 54 v d p) :
    ∃ i0 i1 i2 i3 i4 i5 i6 i7 i8 : Int, v = .agg #[.int .i64 i0, .int .i64 i1, .int .i64 i2, .int .i64 i3, .int .i64 i4, .int .i64 i5, .int .i64 i6, .int .i64 i7, .int .i64 i8] ∧ (Lit.int .i64 i0).wf = true ∧ (Lit.int .i64 i1).wf = true ∧ (Lit.int .i64 i2).wf = true ∧ (Lit.int .i64 i3).wf = true ∧ (Lit.int .i64 i4).wf = true ∧ (Lit.int .i64 i5).wf = true ∧ (Lit.int .i64 i6).wf = true ∧ (Lit.int .i64 i7).wf = true ∧ (Lit.int .i64 i8).wf = true := by
  obtain ⟨cs, rfl, hsz⟩ := okWide_struct Try.underlying54 hv
  rw [Try.cells_Lazy] at hsz
  obtain ⟨cl⟩ := cs
  obtain ⟨c0, c1, c2, c3, c4, c5, c6, c7, c8, rfl⟩ : ∃ c0 c1 c2 c3 c4 c5 c6 c7 c8, cl = [c0, c1, c2, c3, c4, c5, c6, c7, c8] := by
    match cl, hsz with
    | [c0, c1, c2, c3, c4, c5, c6, c7, c8], _ => exact ⟨c0, c1, c2, c3, c4, c5, c6, c7, c8, rfl⟩
  obtain ⟨fuel, hf0⟩ := h
  obtain ⟨zs, k, _, _, _, hzl, hf⟩ := DataW.trod_struct Try.underlying54 hf0
  obtain ⟨z0, z1, z2, rfl⟩ : ∃ z0 z1 z2, zs = [z0, z1, z2] := by
    match zs, hzl with
    | [z0, z1, z2], _ => exact ⟨z0, z1, z2, rfl⟩
  have t0 := hf 0 _ rfl
  have t1 := hf 1 _ rfl
  have t2 := hf 2 _ rfl
  simp [Value.cells, Try.cellsInt, Try.cells_FlagOp] at t0 t1 t2
  obtain ⟨i0, e0, _, b0⟩ := DataW.trod_int Try.underlying3 t0
  obtain ⟨i1, i2, i3, i4, ⟨e1, e2, e3, e4⟩, b1, b2, b3, b4⟩ := open_foCells t1
  obtain ⟨i5, i6, i7, i8, ⟨e5, e6, e7, e8⟩, b5, b6, b7, b8⟩ := open_foCells t2
  simp at e0
  subst e0 e1 e2 e3 e4 e5 e6 e7 e8
  exact ⟨i0, i1, i2, i3, i4, i5, i6, i7, i8, rfl, b0, b1, b2, b3, b4, b5, b6, b7, b8⟩
end
end Go.Proofs.Ytobegcbnjlnifaa

