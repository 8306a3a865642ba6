/- The plain arithmetic beneath the walks of chapter 1: what masks, values with a sign and flags are, as functions on whole numbers. No Go text is spoken of here. Small things that every walk of ours leans on: equal answers, a fact kept from the walk, and what the model's test of a range answers. What is said of worlds, blocks and lists by every law on structs with lists: blocks kept outside a span, lists in blocks of a span, a block's cells, copies; no text of a chapter is spoken of here. Registers in numbers, and what is done to them: plain arithmetic; no Go text is spoken of here. Instructions in numbers: plain arithmetic; no Go text is spoken of here. Conditions in numbers: plain arithmetic; no Go text is spoken of here. Flags that nobody reads, in numbers: plain arithmetic; no Go text is spoken of here. What the model's test of a size answers. What the model's tests of words and operands answer. What the small models of chapter 7 answer. -/
import Derived.WalkKit
import Derived.Test.YtloaedfoecjalaaProg
import Derived.WalkSpells
import Derived.WalkLawsBesides
import Derived.OpenShut
import Derived.RegionTactic
import Derived.ChangeAlike
import Derived.BigRegion
import Derived.Deep.RegionWith
import Derived.Laws.Rows
import Derived.Laws.ResultCell
import Derived.Laws.CopyOwn
import Derived.Maps.AppendAt
import Derived.Laws.AppendOwnNone
import Derived.Deep.QuietTactic
import Derived.BigQuiet
namespace Go.Proofs.Ytloaedfoecjalaa.Pl

/-- how many values a size has -/
def top (s : Int) : Int := if s = 1 then 256 else 65536
/-- a value of a size -/
def okv (s v : Int) : Bool := (decide (s = 1) || decide (s = 2)) && (decide (0 ≤ v) && decide (v < top s))
/-- a value as a number with a sign -/
def sg (s v : Int) : Int := if top s / 2 ≤ v then v - top s else v
/-- a flag where something is so -/
def fl (b : Bool) (f : Int) : Int := if b then f else 0
def sgnV (s v : Int) : Int := if okv s v = true then sg s v else 0
def flags (f : Int) : Bool := decide (0 ≤ f) && decide (f ≤ 31)
theorem top_ok {s v : Int} (h : okv s v = true) : (s = 1 ∧ top s = 256 ∨ s = 2 ∧ top s = 65536) ∧ 0 ≤ v ∧ v < top s := by
  simp [okv] at h
  obtain ⟨h1, h2, h3⟩ := h
  refine ⟨?_, h2, h3⟩
  rcases h1 with rfl | rfl
  · exact .inl ⟨rfl, rfl⟩
  · exact .inr ⟨rfl, rfl⟩

end Go.Proofs.Ytloaedfoecjalaa.Pl

namespace Go.Proofs.Ytloaedfoecjalaa
open Go.RowKit
set_option linter.unusedVariables false

/- long words made short -/
abbrev iv (n : Int) : Value := .int .i64 n
abbrev inA (op z r m k e s : Int) : Array Value := #[.int .i64 op, .int .i64 z, .int .i64 r, .int .i64 m, .int .i64 k, .int .i64 e, .int .i64 s]
theorem st {P : Program} {f : FuncId} {a : Array Value} {w : World} {r : Ending} {Q : Ending → World → Prop} (h : Calls P f a w fun e w' => e = r ∧ w' = w) (q : Q r w) : Calls P f a w Q := h.mono (by rintro e w' ⟨rfl, rfl⟩; exact q)
theorem hide {p : Prop} (h : p) : Hid p := h
theorem rI {a b : Int} (h : a = b) : Ending.returned (.int .i64 a) = .returned (.int .i64 b) := by rw [h]
theorem rB {a b : Bool} (h : a = b) : Ending.returned (.bool a) = .returned (.bool b) := by rw [h]
theorem rIB {a b : Int} {c d : Bool} (h : a = b) (k : c = d) : Ending.returned (.tuple #[.int .i64 a, .bool c]) = .returned (.tuple #[.int .i64 b, .bool d]) := by rw [h, k]
theorem l1In (n lo hi : Int) (w : World) :
    Calls Try.prog 48 #[.int .i64 n, .int .i64 lo, .int .i64 hi] w fun e w' => e = .returned (.bool (decide (lo ≤ n) && decide (n ≤ hi))) ∧ w' = w := by
  by_cases h0 : lo ≤ n
  all_goals
    by_cases h1 : n ≤ hi
    all_goals
      go_enter Try.func48, Try.ntmps48
      go_wp2
      go_ret
      exact ⟨rB (by simp; omega), rfl⟩

end Go.Proofs.Ytloaedfoecjalaa

namespace Go.Proofs.Ytloaedfoecjalaa
open Go.RowKit
set_option linter.unusedVariables false

theorem results_one {fn : Func} {p : Tmp} {ty : TypeId} (h : fn.results = #[.cell p ty]) (tmps : Array Value) (P : Program) (w : World) :
    (results fn tmps).run P w = ((asAddr (tmps.getD p undef)).run P w).andThen fun a w₁ => (loadVar ty a).run P w₁ := by
  simp only [results, h]
  simp [Sem.run_bind, Result.andThen]
/-- of the blocks that were there those outside a span are as they were -/
structure Kept (lo hi : Nat) (w w' : World) : Prop where
  os : w'.os = w.os
  tape : w'.tape = w.tape
  output : w'.output = w.output
  size : w.heap.size ≤ w'.heap.size
  block : ∀ k, k < w.heap.size → ¬ (lo ≤ k ∧ k < hi) → w'.heap[k]? = w.heap[k]?

theorem Kept.refl (lo hi : Nat) (w : World) : Kept lo hi w w := ⟨rfl, rfl, rfl, Nat.le_refl _, fun _ _ _ => rfl⟩
theorem Kept.trans {lo hi : Nat} {a b c : World} (h : Kept lo hi a b) (k : Kept lo hi b c) : Kept lo hi a c :=
  ⟨k.os.trans h.os, k.tape.trans h.tape, k.output.trans h.output, Nat.le_trans h.size k.size, fun i hi hn => (k.block i (Nat.lt_of_lt_of_le hi h.size) hn).trans (h.block i hi hn)⟩
theorem kept_below {w w' : World} (h : Below w.heap.size w w') : Kept 0 0 w w' := ⟨h.os, h.tape, h.output, h.size, fun k hk _ => h.block k hk⟩
theorem Kept.below {w w' : World} (h : Kept 0 0 w w') : Below w.heap.size w w' := ⟨h.os, h.tape, h.output, h.size, fun k hk => h.block k hk (by omega)⟩
theorem kept_alloc (w : World) (o : Obj) : Kept 0 0 w (w.alloc o) := kept_below ((Below.refl _ w).alloc (Nat.le_refl _) o)
theorem kept_drew {lo hi : Nat} {w w' : World} (h : Kept lo hi w w') : Kept lo hi w w'.drew := ⟨h.os, h.tape, h.output, h.size, h.block⟩
theorem kept_drewN {lo hi : Nat} {w w' : World} (h : Kept lo hi w w') (n : Nat) : Kept lo hi w (w'.drewN n) := ⟨h.os, h.tape, h.output, h.size, h.block⟩
/-- a block that holds these cells -/
def Blk (w : World) (b : Nat) (cs : Array Value) (ty : TypeId) : Prop := w.heap[b]? = some (.cells cs ty)
theorem Blk.lt {w : World} {b : Nat} {cs : Array Value} {ty : TypeId} (h : Blk w b cs ty) : b < w.heap.size := by
  unfold Blk at h
  rcases Nat.lt_or_ge b w.heap.size with h' | h'
  · exact h'
  · rw [Array.getElem?_eq_none h'] at h; cases h
theorem Blk.kept {w w' : World} {b : Nat} {cs : Array Value} {ty : TypeId} {lo hi : Nat} (h : Blk w b cs ty) (k : Kept lo hi w w') (hn : ¬ (lo ≤ b ∧ b < hi)) : Blk w' b cs ty := (k.block b h.lt hn).trans h
theorem Blk.kept0 {w w' : World} {b : Nat} {cs : Array Value} {ty : TypeId} (h : Blk w b cs ty) (k : Kept 0 0 w w') : Blk w' b cs ty := h.kept k (by omega)
theorem Blk.cell {w : World} {b : Nat} {cs : Array Value} {ty : TypeId} (h : Blk w b cs ty) {i : Nat} {v : Value} (hi : cs[i]? = some v) : w.cell? ⟨b, i, none⟩ = some v := by
  unfold Blk at h
  simp [World.cell?, h, hi]
theorem Blk.frozen {w : World} {b : Nat} {cs : Array Value} {ty : TypeId} (h : Blk w b cs ty) (i : Nat) : w.frozen? ⟨b, i, none⟩ = false := by
  unfold Blk at h
  simp [World.frozen?, h]
theorem Blk.new (w : World) (cs : Array Value) (ty : TypeId) : Blk (w.alloc (.cells cs ty)) w.heap.size cs ty := heap_alloc_new w _
theorem Blk.alloc {w : World} {b : Nat} {cs : Array Value} {ty : TypeId} (h : Blk w b cs ty) (o : Obj) : Blk (w.alloc o) b cs ty := (Below.heap_alloc _ _ _ h.lt).trans h
/-- a store into a block of the span -/
theorem kept_set {w w' : World} {lo hi : Nat} (h : Kept lo hi w w') (b i : Nat) (v : Value) (hb : (lo ≤ b ∧ b < hi) ∨ w.heap.size ≤ b) : Kept lo hi w (w'.setCell ⟨b, i, none⟩ v) :=
  ⟨h.os, h.tape, h.output, by simpa using h.size, fun k hk hn => (Below.heap_setCell _ _ _ _ (by simp; omega)).trans (h.block k hk hn)⟩
theorem kept_new {w w' : World} {lo hi : Nat} (h : Kept lo hi w w') (o : Obj) : Kept lo hi w (w'.alloc o) :=
  ⟨h.os, h.tape, h.output, Nat.le_trans h.size (by simp), fun k hk hn => (Below.heap_alloc _ _ _ (Nat.lt_of_lt_of_le hk h.size)).trans (h.block k hk hn)⟩
namespace Pl
end Pl
theorem Blk.all {w : World} {b : Nat} {cs : Array Value} {ty : TypeId} (h : Blk w b cs ty) (i : Nat) : w.cell? ⟨b, i, none⟩ = cs[i]? := by
  have e : w.heap[b]? = some (.cells cs ty (0, 0)) := h
  unfold World.cell?
  dsimp only
  rw [e]
  simp
end Go.Proofs.Ytloaedfoecjalaa

namespace Go.Proofs.Ytloaedfoecjalaa.Pl
set_option linter.unusedVariables false

def within (n lo hi : Int) : Bool := decide (lo ≤ n) && decide (n ≤ hi)
def wordOk (n : Int) : Bool := within n 0 65535
def extM (m : Int) : Bool := decide (5 ≤ m)
def modeOk (m : Int) : Bool := within m 0 7
def opOk (m r e : Int) : Bool := modeOk m && (within r 0 3 && ((decide (m < 6) || (r == 0)) && (wordOk e && (extM m || (e == 0)))))
end Go.Proofs.Ytloaedfoecjalaa.Pl
namespace Go.Proofs.Ytloaedfoecjalaa
end Go.Proofs.Ytloaedfoecjalaa

namespace Go.Proofs.Ytloaedfoecjalaa.Pl
set_option linter.unusedVariables false
structure In where
  op : Int
  z : Int
  r : Int
  m : Int
  k : Int
  e : Int
  s : Int
def memM (m : Int) : Bool := within m 2 6
def plainM (m : Int) : Bool := (m == 2) || ((m == 5) || (m == 6))
def zeroO (m k e : Int) : Bool := (m == 0) && ((k == 0) && (e == 0))
def nowO (m e : Int) : Bool := (m == 7) && decide (e ≤ 1023)
def byteNow (x : In) : Bool := ((x.m == 7) && (x.z == 1)) && decide (255 < x.e)
def inBase (x : In) : Bool := (decide (x.z = 1) || decide (x.z = 2)) && (within x.r 0 3 && (opOk x.m x.k x.e && (within x.s 0 7 && !byteNow x)))
def inKind (x : In) : Bool :=
  bif (x.op == 1) || ((x.op == 3) || ((x.op == 4) || ((x.op == 5) || ((x.op == 6) || ((x.op == 7) || (x.op == 8)))))) then (x.s == 0) && ((x.z == 2) || !(x.m == 1))
  else bif x.op == 2 then (x.s == 0) && ((x.m == 0) || memM x.m)
  else bif x.op == 9 then (x.z == 2) && (x.s == 0)
  else bif x.op == 10 then ((x.z == 2) && (x.s == 0)) && plainM x.m
  else bif x.op == 11 then ((x.r == 0) && decide (x.s ≤ 3)) && ((x.m == 0) || memM x.m)
  else bif x.op == 12 then (x.m == 0)
  else bif x.op == 13 then ((x.z == 2) && decide (x.r ≤ 1)) && (x.m == 7)
  else bif x.op == 14 then (((x.z == 2) && (x.r == 0)) && decide (x.s ≤ 1)) && plainM x.m
  else bif (x.op == 16) || (x.op == 17) then ((x.z == 2) && (x.s == 0)) && !(x.m == 1)
  else bif x.op == 18 then ((!(x.z == 2)) && decide (x.s ≤ 1)) && (x.m == 0)
  else bif x.op == 19 then (x.z == 2) && ((((x.s == 0) && (x.r == 0)) && nowO x.m x.e) || ((x.s == 1) && zeroO x.m x.k x.e))
  else bif x.op == 15 then (bif x.s == 3 then ((x.z == 2) && (x.r == 0)) && nowO x.m x.e else (((x.z == 2) && decide (x.s ≤ 6)) && zeroO x.m x.k x.e) && (decide (3 < x.s) || (x.r == 0)))
  else false
def inOk (x : In) : Bool := inBase x && inKind x
/-- the first word of an instruction -/
def word1 (x : In) : Int := x.op * 2048 + (x.z - 1) * 1024 + x.r * 256 + x.m * 32 + x.k * 8 + x.s
def longW (w : Int) : Int := if extM (w / 32 % 8) = true then 2 else 1
def decode (w v : Int) : In := ⟨w / 2048, w / 1024 % 2 + 1, w / 256 % 4, w / 32 % 8, w / 8 % 4, if longW w = 2 then v else 0, w % 8⟩
theorem modeR {x : In} (h : inOk x = true) : 1 ≤ x.op ∧ x.op ≤ 19 ∧ (x.z = 1 ∨ x.z = 2) ∧ 0 ≤ x.r ∧ x.r ≤ 3 ∧ 0 ≤ x.m ∧ x.m ≤ 7 ∧ 0 ≤ x.k ∧ x.k ≤ 3 ∧ 0 ≤ x.e ∧ x.e ≤ 65535 ∧ 0 ≤ x.s ∧ x.s ≤ 7 ∧ (extM x.m = false → x.e = 0) := by
  obtain ⟨op, z, r, m, k, e, s⟩ := x
  unfold inOk at h
  rw [Bool.and_eq_true] at h
  obtain ⟨h1, h2⟩ := h
  have hop : 1 ≤ op ∧ op ≤ 19 := by
    have : op = 1 ∨ op = 2 ∨ op = 3 ∨ op = 4 ∨ op = 5 ∨ op = 6 ∨ op = 7 ∨ op = 8 ∨ op = 9 ∨ op = 10 ∨ op = 11 ∨ op = 12 ∨ op = 13 ∨ op = 14 ∨ op = 15 ∨ op = 16 ∨ op = 17 ∨ op = 18 ∨ op = 19 := by
      by_cases q1 : op = 1; · simp [q1]
      by_cases q2 : op = 2; · simp [q2]
      by_cases q3 : op = 3; · simp [q3]
      by_cases q4 : op = 4; · simp [q4]
      by_cases q5 : op = 5; · simp [q5]
      by_cases q6 : op = 6; · simp [q6]
      by_cases q7 : op = 7; · simp [q7]
      by_cases q8 : op = 8; · simp [q8]
      by_cases q9 : op = 9; · simp [q9]
      by_cases q10 : op = 10; · simp [q10]
      by_cases q11 : op = 11; · simp [q11]
      by_cases q12 : op = 12; · simp [q12]
      by_cases q13 : op = 13; · simp [q13]
      by_cases q14 : op = 14; · simp [q14]
      by_cases q15 : op = 15; · simp [q15]
      by_cases q16 : op = 16; · simp [q16]
      by_cases q17 : op = 17; · simp [q17]
      by_cases q18 : op = 18; · simp [q18]
      by_cases q19 : op = 19; · simp [q19]
      simp [inKind, q1, q2, q3, q4, q5, q6, q7, q8, q9, q10, q11, q12, q13, q14, q15, q16, q17, q18, q19] at h2
    omega
  simp [inBase, opOk, modeOk, within, wordOk] at h1
  obtain ⟨hz, hr, ⟨hm, hk, _, he, hx⟩, hs, _⟩ := h1
  refine ⟨hop.1, hop.2, hz, hr.1, hr.2, hm.1, hm.2, hk.1, hk.2, he.1, he.2, hs.1, hs.2, fun q => ?_⟩
  rcases hx with hx | hx
  · rw [q] at hx; cases hx
  · exact hx
end Go.Proofs.Ytloaedfoecjalaa.Pl
namespace Go.Proofs.Ytloaedfoecjalaa
end Go.Proofs.Ytloaedfoecjalaa

namespace Go.Proofs.Ytloaedfoecjalaa.Pl
set_option linter.unusedVariables false
def need (k : Int) : Int :=
  bif k - k % 2 == 2 then 5 else bif k - k % 2 == 4 then 1 else bif k - k % 2 == 6 then 4 else bif k - k % 2 == 8 then 2
  else bif k - k % 2 == 10 then 8 else bif k - k % 2 == 12 then 10 else bif k - k % 2 == 14 then 14 else 0
theorem nat_of {k : Int} {n : Nat} (h0 : 0 ≤ k) (h1 : k < n) : ∃ j : Nat, j < n ∧ k = (j : Int) := ⟨k.toNat, by omega, by omega⟩
/- the bits of flags, one at a time -/
theorem bit_even : ∀ k : Nat, k < 16 → bits .andNot .i64 (k : Int) 1 = (k : Int) - (k : Int) % 2 := by decide +kernel
end Go.Proofs.Ytloaedfoecjalaa.Pl

namespace Go.Proofs.Ytloaedfoecjalaa.Pl
open Go.RowKit
set_option linter.unusedVariables false
def reads (x : In) : Int :=
  bif x.op == 12 then (bif (x.s == 6) || (x.s == 7) then 16 else 0) else bif x.op == 13 then need (x.s + 8 * x.r)
  else bif x.op == 18 then 20 else bif x.op == 19 then (bif x.s == 1 then 31 else 0) else 0
/-- what these look at, of a good instruction -/
structure InD (x : In) : Prop where
  o0 : 1 ≤ x.op
  o1 : x.op ≤ 19
  s0 : 0 ≤ x.s
  s1 : x.s ≤ 7
  r0 : 0 ≤ x.r
  r1 : x.r ≤ 3
  s6 : x.op = 15 → x.s ≤ 6
  s3 : x.op = 11 → x.s ≤ 3
  s2 : x.op = 14 ∨ x.op = 19 → x.s ≤ 1
  r2 : x.op = 13 → x.r ≤ 1
theorem inD_of {x : In} (h : inOk x = true) : InD x := by
  unfold inOk at h
  rw [Bool.and_eq_true] at h
  obtain ⟨hb, hk⟩ := h
  simp only [inBase, opOk, modeOk, wordOk, within, byteNow, Bool.and_eq_true, Bool.or_eq_true, decide_eq_true_eq, Bool.not_eq_true', Bool.and_eq_false_iff, beq_iff_eq, decide_eq_false_iff_not, beq_eq_false_iff_ne] at hb
  obtain ⟨hz, ⟨r0, r1⟩, _, ⟨s0, s1⟩, _⟩ := hb
  obtain ⟨op, z, r, m, k, e, s⟩ := x
  simp only at hz r0 r1 s0 s1
  by_cases ho : op = 1 ∨ op = 2 ∨ op = 3 ∨ op = 4 ∨ op = 5 ∨ op = 6 ∨ op = 7 ∨ op = 8 ∨ op = 9 ∨ op = 10 ∨ op = 11 ∨ op = 12 ∨ op = 13 ∨ op = 14 ∨ op = 15 ∨ op = 16 ∨ op = 17 ∨ op = 18 ∨ op = 19
  · refine ⟨by simp only; omega, by simp only; omega, s0, s1, r0, r1, ?_, ?_, ?_, ?_⟩
    · intro h15
      simp only at h15
      subst h15
      cases q : (s == 3)
      · simp [inKind, q] at hk
        simp only; omega
      · have : s = 3 := by simpa using q
        simp only; omega
    · intro h11
      simp only at h11
      subst h11
      simp [inKind] at hk
      simp only; omega
    · intro h14
      simp only at h14
      rcases h14 with h14 | h14
      · subst h14
        simp [inKind] at hk
        simp only; omega
      · subst h14
        simp [inKind] at hk
        simp only; omega
    · intro h13
      simp only at h13
      subst h13
      simp [inKind] at hk
      simp only; omega
  · exfalso
    have h1 : ∀ n : Int, 1 ≤ n ∧ n ≤ 19 → (op == n) = false := by
      intro n hn
      rw [beq_eq_false_iff_ne]
      rintro rfl
      exact ho (by omega)
    simp only [inKind] at hk
    rw [h1 1 ⟨by omega, by omega⟩, h1 2 ⟨by omega, by omega⟩, h1 3 ⟨by omega, by omega⟩, h1 4 ⟨by omega, by omega⟩, h1 5 ⟨by omega, by omega⟩, h1 6 ⟨by omega, by omega⟩, h1 7 ⟨by omega, by omega⟩, h1 8 ⟨by omega, by omega⟩, h1 9 ⟨by omega, by omega⟩, h1 10 ⟨by omega, by omega⟩, h1 11 ⟨by omega, by omega⟩, h1 12 ⟨by omega, by omega⟩, h1 13 ⟨by omega, by omega⟩, h1 14 ⟨by omega, by omega⟩, h1 15 ⟨by omega, by omega⟩, h1 16 ⟨by omega, by omega⟩, h1 17 ⟨by omega, by omega⟩, h1 18 ⟨by omega, by omega⟩, h1 19 ⟨by omega, by omega⟩] at hk
    simp at hk
end Go.Proofs.Ytloaedfoecjalaa.Pl

namespace Go.Proofs.Ytloaedfoecjalaa
open Go.RowKit
set_option linter.unusedVariables false

theorem l1Size_no (s : Int) (w : World) (h1 : ¬ s = 1) (h2 : ¬ s = 2) : Calls Try.prog 47 #[iv s] w fun e w' => e = .returned (.bool false) ∧ w' = w := by
  have k1 : (s == 1) = false := by simpa using h1
  have k2 : (s == 2) = false := by simpa using h2
  go_enter Try.func47, Try.ntmps47
  go_wp2
  go_ret
  exact ⟨rfl, rfl⟩

theorem l1Size1 (w : World) : Calls Try.prog 47 #[iv 1] w fun e w' => e = .returned (.bool true) ∧ w' = w := by
  go_enter Try.func47, Try.ntmps47
  go_wp2
  go_ret
  exact ⟨rfl, rfl⟩

theorem l1Size2 (w : World) : Calls Try.prog 47 #[iv 2] w fun e w' => e = .returned (.bool true) ∧ w' = w := by
  go_enter Try.func47, Try.ntmps47
  go_wp2
  go_ret
  exact ⟨rfl, rfl⟩
theorem specSize (z : Int) (w : World) : Calls Try.prog 47 #[iv z] w fun e w' => e = .returned (.bool (decide (z = 1) || decide (z = 2))) ∧ w' = w := by
  by_cases h1 : z = 1
  · subst h1; exact l1Size1 w
  · by_cases h2 : z = 2
    · subst h2; exact l1Size2 w
    · rw [show (decide (z = 1) || decide (z = 2)) = false from by simp [h1, h2]]; exact l1Size_no z w h1 h2
end Go.Proofs.Ytloaedfoecjalaa

namespace Go.Proofs.Ytloaedfoecjalaa
open Go.RowKit
set_option linter.unusedVariables false
theorem specWord (n : Int) (w : World) : Calls Try.prog 68 #[iv n] w fun e w' => e = .returned (.bool (Pl.wordOk n)) ∧ w' = w := by
  go_enter Try.func68, Try.ntmps68
  go_wp2_with (go_at_call 48; refine (l1In _ _ _ _).mono ?_; rintro e w' ⟨rfl, hw⟩; have hw2 := hw.symm; clear hw; subst hw2)
  go_ret
  exact ⟨rfl, rfl⟩
theorem specExtM (n : Int) (w : World) : Calls Try.prog 69 #[iv n] w fun e w' => e = .returned (.bool (Pl.extM n)) ∧ w' = w := by
  go_enter Try.func69, Try.ntmps69
  go_wp2
  go_ret
  exact ⟨rfl, rfl⟩
set_option maxHeartbeats 4000000 in
theorem specGoodOperand (w : World) (m k e : Int) :
    Calls Try.prog 49 #[.agg #[iv m, iv k, iv e]] w fun r w' => r = .returned (.bool (Pl.opOk m k e)) ∧ Kept 0 0 w w' := by
  have HK := hide (kept_alloc w (.cells #[iv m, iv k, iv e] 28))
  have G : Hid (Pl.opOk m k e = (Pl.modeOk m && (Pl.within k 0 3 && ((decide (m < 6) || (k == 0)) && (Pl.wordOk e && (Pl.extM m || (e == 0))))))) := hide rfl
  cases h1 : Pl.modeOk m
  · go_enter Try.func49, Try.ntmps49
    go_wp2_with (first | (go_at_call 48; refine (l1In _ _ _ _).mono ?_; rintro e w' ⟨rfl, hw⟩; have hw2 := hw.symm; clear hw; subst hw2; rw [show (decide (0 ≤ m) && decide (m ≤ 7)) = Pl.modeOk m from rfl, h1]; have Z1 : True := trivial))
    go_ret
    exact ⟨rB (by rw [G.out, h1]; simp), HK.out⟩
  · cases h2 : Pl.within k 0 3
    · go_enter Try.func49, Try.ntmps49
      go_wp2_with (first | (go_at_call 48; have z := Z1; refine (l1In _ _ _ _).mono ?_; rintro e w' ⟨rfl, hw⟩; have hw2 := hw.symm; clear hw; subst hw2; rw [show (decide (0 ≤ k) && decide (k ≤ 3)) = Pl.within k 0 3 from rfl, h2]) | (go_at_call 48; refine (l1In _ _ _ _).mono ?_; rintro e w' ⟨rfl, hw⟩; have hw2 := hw.symm; clear hw; subst hw2; rw [show (decide (0 ≤ m) && decide (m ≤ 7)) = Pl.modeOk m from rfl, h1]; have Z1 : True := trivial))
      go_ret
      exact ⟨rB (by rw [G.out, h1, h2]; simp), HK.out⟩
    · cases h3 : decide (6 ≤ m)
      · have q3 : decide (m < 6) = true := by simp at h3 ⊢; omega
        cases h4 : Pl.wordOk e
        · go_enter Try.func49, Try.ntmps49
          go_wp2_with (first | (go_at_call 48; have z := Z1; refine (l1In _ _ _ _).mono ?_; rintro e w' ⟨rfl, hw⟩; have hw2 := hw.symm; clear hw; subst hw2; rw [show (decide (0 ≤ k) && decide (k ≤ 3)) = Pl.within k 0 3 from rfl, h2]) | (go_at_call 48; refine (l1In _ _ _ _).mono ?_; rintro e w' ⟨rfl, hw⟩; have hw2 := hw.symm; clear hw; subst hw2; rw [show (decide (0 ≤ m) && decide (m ≤ 7)) = Pl.modeOk m from rfl, h1]; have Z1 : True := trivial) | (go_at_call 68; refine (specWord _ _).mono ?_; rintro e w' ⟨rfl, hw⟩; have hw2 := hw.symm; clear hw; subst hw2; rw [h4]))
          go_ret
          exact ⟨rB (by rw [G.out, h1, h2, q3, h4]; simp), HK.out⟩
        · cases h5 : Pl.extM m
          · cases h6 : (e == 0)
            all_goals
              go_enter Try.func49, Try.ntmps49
              go_wp2_with (first | (go_at_call 48; have z := Z1; refine (l1In _ _ _ _).mono ?_; rintro e w' ⟨rfl, hw⟩; have hw2 := hw.symm; clear hw; subst hw2; rw [show (decide (0 ≤ k) && decide (k ≤ 3)) = Pl.within k 0 3 from rfl, h2]) | (go_at_call 48; refine (l1In _ _ _ _).mono ?_; rintro e w' ⟨rfl, hw⟩; have hw2 := hw.symm; clear hw; subst hw2; rw [show (decide (0 ≤ m) && decide (m ≤ 7)) = Pl.modeOk m from rfl, h1]; have Z1 : True := trivial) | (go_at_call 68; refine (specWord _ _).mono ?_; rintro e w' ⟨rfl, hw⟩; have hw2 := hw.symm; clear hw; subst hw2; rw [h4]) | (go_at_call 69; refine (specExtM _ _).mono ?_; rintro e w' ⟨rfl, hw⟩; have hw2 := hw.symm; clear hw; subst hw2; rw [h5]))
              go_ret
              exact ⟨rB (by rw [G.out, h1, h2, q3, h4, h5, h6]; simp), HK.out⟩
          · go_enter Try.func49, Try.ntmps49
            go_wp2_with (first | (go_at_call 48; have z := Z1; refine (l1In _ _ _ _).mono ?_; rintro e w' ⟨rfl, hw⟩; have hw2 := hw.symm; clear hw; subst hw2; rw [show (decide (0 ≤ k) && decide (k ≤ 3)) = Pl.within k 0 3 from rfl, h2]) | (go_at_call 48; refine (l1In _ _ _ _).mono ?_; rintro e w' ⟨rfl, hw⟩; have hw2 := hw.symm; clear hw; subst hw2; rw [show (decide (0 ≤ m) && decide (m ≤ 7)) = Pl.modeOk m from rfl, h1]; have Z1 : True := trivial) | (go_at_call 68; refine (specWord _ _).mono ?_; rintro e w' ⟨rfl, hw⟩; have hw2 := hw.symm; clear hw; subst hw2; rw [h4]) | (go_at_call 69; refine (specExtM _ _).mono ?_; rintro e w' ⟨rfl, hw⟩; have hw2 := hw.symm; clear hw; subst hw2; rw [h5]))
            go_ret
            exact ⟨rB (by rw [G.out, h1, h2, q3, h4, h5]; simp), HK.out⟩
      · have q3 : decide (m < 6) = false := by simp at h3 ⊢; omega
        cases h7 : (k != 0)
        · have q7 : (k == 0) = true := by simpa using h7
          cases h4 : Pl.wordOk e
          · go_enter Try.func49, Try.ntmps49
            go_wp2_with (first | (go_at_call 48; have z := Z1; refine (l1In _ _ _ _).mono ?_; rintro e w' ⟨rfl, hw⟩; have hw2 := hw.symm; clear hw; subst hw2; rw [show (decide (0 ≤ k) && decide (k ≤ 3)) = Pl.within k 0 3 from rfl, h2]) | (go_at_call 48; refine (l1In _ _ _ _).mono ?_; rintro e w' ⟨rfl, hw⟩; have hw2 := hw.symm; clear hw; subst hw2; rw [show (decide (0 ≤ m) && decide (m ≤ 7)) = Pl.modeOk m from rfl, h1]; have Z1 : True := trivial) | (go_at_call 68; refine (specWord _ _).mono ?_; rintro e w' ⟨rfl, hw⟩; have hw2 := hw.symm; clear hw; subst hw2; rw [h4]))
            go_ret
            exact ⟨rB (by rw [G.out, h1, h2, q3, q7, h4]; simp), HK.out⟩
          · cases h5 : Pl.extM m
            · cases h6 : (e == 0)
              all_goals
                go_enter Try.func49, Try.ntmps49
                go_wp2_with (first | (go_at_call 48; have z := Z1; refine (l1In _ _ _ _).mono ?_; rintro e w' ⟨rfl, hw⟩; have hw2 := hw.symm; clear hw; subst hw2; rw [show (decide (0 ≤ k) && decide (k ≤ 3)) = Pl.within k 0 3 from rfl, h2]) | (go_at_call 48; refine (l1In _ _ _ _).mono ?_; rintro e w' ⟨rfl, hw⟩; have hw2 := hw.symm; clear hw; subst hw2; rw [show (decide (0 ≤ m) && decide (m ≤ 7)) = Pl.modeOk m from rfl, h1]; have Z1 : True := trivial) | (go_at_call 68; refine (specWord _ _).mono ?_; rintro e w' ⟨rfl, hw⟩; have hw2 := hw.symm; clear hw; subst hw2; rw [h4]) | (go_at_call 69; refine (specExtM _ _).mono ?_; rintro e w' ⟨rfl, hw⟩; have hw2 := hw.symm; clear hw; subst hw2; rw [h5]))
                go_ret
                exact ⟨rB (by rw [G.out, h1, h2, q3, q7, h4, h5, h6]; simp), HK.out⟩
            · go_enter Try.func49, Try.ntmps49
              go_wp2_with (first | (go_at_call 48; have z := Z1; refine (l1In _ _ _ _).mono ?_; rintro e w' ⟨rfl, hw⟩; have hw2 := hw.symm; clear hw; subst hw2; rw [show (decide (0 ≤ k) && decide (k ≤ 3)) = Pl.within k 0 3 from rfl, h2]) | (go_at_call 48; refine (l1In _ _ _ _).mono ?_; rintro e w' ⟨rfl, hw⟩; have hw2 := hw.symm; clear hw; subst hw2; rw [show (decide (0 ≤ m) && decide (m ≤ 7)) = Pl.modeOk m from rfl, h1]; have Z1 : True := trivial) | (go_at_call 68; refine (specWord _ _).mono ?_; rintro e w' ⟨rfl, hw⟩; have hw2 := hw.symm; clear hw; subst hw2; rw [h4]) | (go_at_call 69; refine (specExtM _ _).mono ?_; rintro e w' ⟨rfl, hw⟩; have hw2 := hw.symm; clear hw; subst hw2; rw [h5]))
              go_ret
              exact ⟨rB (by rw [G.out, h1, h2, q3, q7, h4, h5]; simp), HK.out⟩
        · have q7 : (k == 0) = false := by simpa using h7
          go_enter Try.func49, Try.ntmps49
          go_wp2_with (first | (go_at_call 48; have z := Z1; refine (l1In _ _ _ _).mono ?_; rintro e w' ⟨rfl, hw⟩; have hw2 := hw.symm; clear hw; subst hw2; rw [show (decide (0 ≤ k) && decide (k ≤ 3)) = Pl.within k 0 3 from rfl, h2]) | (go_at_call 48; refine (l1In _ _ _ _).mono ?_; rintro e w' ⟨rfl, hw⟩; have hw2 := hw.symm; clear hw; subst hw2; rw [show (decide (0 ≤ m) && decide (m ≤ 7)) = Pl.modeOk m from rfl, h1]; have Z1 : True := trivial))
          go_ret
          exact ⟨rB (by rw [G.out, h1, h2, q3, q7]; simp), HK.out⟩
end Go.Proofs.Ytloaedfoecjalaa

namespace Go.Proofs.Ytloaedfoecjalaa
open Go.RowKit
set_option linter.unusedVariables false
theorem specMem (m : Int) (w : World) : Calls Try.prog 50 #[iv m] w fun e w' => e = .returned (.bool (Pl.memM m)) ∧ w' = w := by
  go_enter Try.func50, Try.ntmps50
  go_wp2_with (go_at_call 48; refine (l1In _ _ _ _).mono ?_; rintro e w' ⟨rfl, hw⟩; have hw2 := hw.symm; clear hw; subst hw2)
  go_ret
  exact ⟨rfl, rfl⟩
theorem specPlain (m : Int) (w : World) : Calls Try.prog 51 #[iv m] w fun e w' => e = .returned (.bool (Pl.plainM m)) ∧ w' = w := by
  cases h1 : (m == 2) <;> cases h2 : (m == 5) <;> cases h3 : (m == 6)
  all_goals
    go_enter Try.func51, Try.ntmps51
    go_wp2
    go_ret
    exact ⟨rB (by simp only [Pl.plainM, h1, h2, h3]; rfl), rfl⟩
theorem specZero (m k e : Int) (w : World) : Calls Try.prog 53 #[.agg #[iv m, iv k, iv e]] w fun r w' => r = .returned (.bool (Pl.zeroO m k e)) ∧ Kept 0 0 w w' := by
  have K0 := hide (kept_alloc w (.cells #[iv m, iv k, iv e] 28))
  cases h1 : (m == 0) <;> cases h2 : (k == 0) <;> cases h3 : (e == 0)
  all_goals
    go_enter Try.func53, Try.ntmps53
    go_wp2
    go_ret
    exact ⟨rB (by simp only [Pl.zeroO, h1, h2, h3]; rfl), K0.out⟩
theorem specNow (m k e : Int) (w : World) : Calls Try.prog 52 #[.agg #[iv m, iv k, iv e]] w fun r w' => r = .returned (.bool (Pl.nowO m e)) ∧ Kept 0 0 w w' := by
  have K0 := hide (kept_alloc w (.cells #[iv m, iv k, iv e] 28))
  cases h1 : (m == 7) <;> cases h2 : decide (e ≤ 1023)
  all_goals
    go_enter Try.func52, Try.ntmps52
    go_wp2
    go_ret
    exact ⟨rB (by simp only [Pl.nowO, h1, h2]; rfl), K0.out⟩
theorem opsAll (op : Int) : op = 1 ∨ op = 2 ∨ op = 3 ∨ op = 4 ∨ op = 5 ∨ op = 6 ∨ op = 7 ∨ op = 8 ∨ op = 9 ∨ op = 10 ∨ op = 11 ∨ op = 12 ∨ op = 13 ∨ op = 14 ∨ op = 15 ∨ op = 16 ∨ op = 17 ∨ op = 18 ∨ op = 19 ∨ (¬ op = 1 ∧ ¬ op = 2 ∧ ¬ op = 3 ∧ ¬ op = 4 ∧ ¬ op = 5 ∧ ¬ op = 6 ∧ ¬ op = 7 ∧ ¬ op = 8 ∧ ¬ op = 9 ∧ ¬ op = 10 ∧ ¬ op = 11 ∧ ¬ op = 12 ∧ ¬ op = 13 ∧ ¬ op = 14 ∧ ¬ op = 15 ∧ ¬ op = 16 ∧ ¬ op = 17 ∧ ¬ op = 18 ∧ ¬ op = 19) := by omega
end Go.Proofs.Ytloaedfoecjalaa

