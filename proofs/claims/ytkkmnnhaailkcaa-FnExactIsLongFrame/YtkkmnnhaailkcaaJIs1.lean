/- The plain arithmetic beneath the walks of chapter 1: what masks, values with a sign and flags are, as functions on whole numbers. No Go text is spoken of here. Small things that every walk of ours leans on: equal answers, a fact kept from the walk, and what the model's test of a range answers. What is said of worlds, blocks and lists by every law on structs with lists: blocks kept outside a span, lists in blocks of a span, a block's cells, copies; no text of a chapter is spoken of here. Registers in numbers, and what is done to them: plain arithmetic; no Go text is spoken of here. What an access does to a bus, in numbers: plain arithmetic; no Go text is spoken of here. Bits moved one place at a time, so often, and back; how many are 1; the other way round: plain arithmetic; no Go text is spoken of here. A step of a processor in numbers: plain arithmetic; no Go text is spoken of here. Exceptions in numbers: which faults are good, what a frame holds. What the program's test of a value of a size answers: one contract a function; none changes the world. What the program's tests of words, sizes and register numbers answer; none changes the world. What the program's hasLongFrame, GoodFault, IsLongFrame answer, for every fault. What the model's tests of words and operands answer. What the model's l11Long, GoodFault, IsLongFrame answer, for every fault. What the law's toFault answers. The laws on GoodFault, IsLongFrame: of whatever fault, their Go functions return true, and no block that was there has turned. A processor that came in to a law, opened: four lists that lie in memory, the accesses spoken of as the row of their numbers. A fault that came in to a law, opened. -/
import Derived.WalkKit
import Derived.Test.YtkkmnnhaailkcaaProg
import Derived.WalkSpells
import Derived.WalkLawsBesides
import Derived.OpenShut
import Derived.RegionTactic
import Derived.ChangeAlike
import Derived.BigRegion
import Derived.Deep.RegionWith
import Derived.Laws.Rows
import Derived.Laws.ResultCell
import Derived.Laws.CopyOwn
import Derived.Maps.AppendAt
import Derived.Laws.AppendOwnNone
import Derived.Deep.QuietTactic
import Derived.BigQuiet
import Derived.Lib.SmallJoins
import Derived.Deep.Slices
import Derived.ProofKit
namespace Go.Proofs.Ytkkmnnhaailkcaa.Pl

/-- how many values a size has -/
def top (s : Int) : Int := if s = 1 then 256 else 65536
/-- a value of a size -/
def okv (s v : Int) : Bool := (decide (s = 1) || decide (s = 2)) && (decide (0 ≤ v) && decide (v < top s))
/-- a value as a number with a sign -/
def sg (s v : Int) : Int := if top s / 2 ≤ v then v - top s else v
def sgnV (s v : Int) : Int := if okv s v = true then sg s v else 0
def bit (x : Int) : Bool := decide (0 ≤ x) && decide (x ≤ 1)
def flags (f : Int) : Bool := decide (0 ≤ f) && decide (f ≤ 31)
theorem top_ok {s v : Int} (h : okv s v = true) : (s = 1 ∧ top s = 256 ∨ s = 2 ∧ top s = 65536) ∧ 0 ≤ v ∧ v < top s := by
  simp [okv] at h
  obtain ⟨h1, h2, h3⟩ := h
  refine ⟨?_, h2, h3⟩
  rcases h1 with rfl | rfl
  · exact .inl ⟨rfl, rfl⟩
  · exact .inr ⟨rfl, rfl⟩

end Go.Proofs.Ytkkmnnhaailkcaa.Pl

namespace Go.Proofs.Ytkkmnnhaailkcaa
open Go.RowKit
set_option linter.unusedVariables false

/- long words made short -/
abbrev iv (n : Int) : Value := .int .i64 n
theorem st {P : Program} {f : FuncId} {a : Array Value} {w : World} {r : Ending} {Q : Ending → World → Prop} (h : Calls P f a w fun e w' => e = r ∧ w' = w) (q : Q r w) : Calls P f a w Q := h.mono (by rintro e w' ⟨rfl, rfl⟩; exact q)
theorem hide {p : Prop} (h : p) : Hid p := h
theorem rB {a b : Bool} (h : a = b) : Ending.returned (.bool a) = .returned (.bool b) := by rw [h]
theorem rIB {a b : Int} {c d : Bool} (h : a = b) (k : c = d) : Ending.returned (.tuple #[.int .i64 a, .bool c]) = .returned (.tuple #[.int .i64 b, .bool d]) := by rw [h, k]
theorem l1In (n lo hi : Int) (w : World) :
    Calls Try.prog 26 #[.int .i64 n, .int .i64 lo, .int .i64 hi] w fun e w' => e = .returned (.bool (decide (lo ≤ n) && decide (n ≤ hi))) ∧ w' = w := by
  by_cases h0 : lo ≤ n
  all_goals
    by_cases h1 : n ≤ hi
    all_goals
      go_enter Try.func26, Try.ntmps26
      go_wp2
      go_ret
      exact ⟨rB (by simp; omega), rfl⟩

end Go.Proofs.Ytkkmnnhaailkcaa

namespace Go.Proofs.Ytkkmnnhaailkcaa
open Go.RowKit
set_option linter.unusedVariables false

theorem results_one {fn : Func} {p : Tmp} {ty : TypeId} (h : fn.results = #[.cell p ty]) (tmps : Array Value) (P : Program) (w : World) :
    (results fn tmps).run P w = ((asAddr (tmps.getD p undef)).run P w).andThen fun a w₁ => (loadVar ty a).run P w₁ := by
  simp only [results, h]
  simp [Sem.run_bind, Result.andThen]
/-- of the blocks that were there those outside a span are as they were -/
structure Kept (lo hi : Nat) (w w' : World) : Prop where
  os : w'.os = w.os
  tape : w'.tape = w.tape
  output : w'.output = w.output
  size : w.heap.size ≤ w'.heap.size
  block : ∀ k, k < w.heap.size → ¬ (lo ≤ k ∧ k < hi) → w'.heap[k]? = w.heap[k]?

theorem Kept.trans {lo hi : Nat} {a b c : World} (h : Kept lo hi a b) (k : Kept lo hi b c) : Kept lo hi a c :=
  ⟨k.os.trans h.os, k.tape.trans h.tape, k.output.trans h.output, Nat.le_trans h.size k.size, fun i hi hn => (k.block i (Nat.lt_of_lt_of_le hi h.size) hn).trans (h.block i hi hn)⟩
theorem kept_below {w w' : World} (h : Below w.heap.size w w') : Kept 0 0 w w' := ⟨h.os, h.tape, h.output, h.size, fun k hk _ => h.block k hk⟩
theorem Kept.below {w w' : World} (h : Kept 0 0 w w') : Below w.heap.size w w' := ⟨h.os, h.tape, h.output, h.size, fun k hk => h.block k hk (by omega)⟩
theorem kept_alloc (w : World) (o : Obj) : Kept 0 0 w (w.alloc o) := kept_below ((Below.refl _ w).alloc (Nat.le_refl _) o)
/-- a block that holds these cells -/
def Blk (w : World) (b : Nat) (cs : Array Value) (ty : TypeId) : Prop := w.heap[b]? = some (.cells cs ty)
theorem Blk.lt {w : World} {b : Nat} {cs : Array Value} {ty : TypeId} (h : Blk w b cs ty) : b < w.heap.size := by
  unfold Blk at h
  rcases Nat.lt_or_ge b w.heap.size with h' | h'
  · exact h'
  · rw [Array.getElem?_eq_none h'] at h; cases h
theorem Blk.kept {w w' : World} {b : Nat} {cs : Array Value} {ty : TypeId} {lo hi : Nat} (h : Blk w b cs ty) (k : Kept lo hi w w') (hn : ¬ (lo ≤ b ∧ b < hi)) : Blk w' b cs ty := (k.block b h.lt hn).trans h
theorem Blk.kept0 {w w' : World} {b : Nat} {cs : Array Value} {ty : TypeId} (h : Blk w b cs ty) (k : Kept 0 0 w w') : Blk w' b cs ty := h.kept k (by omega)
theorem Blk.new (w : World) (cs : Array Value) (ty : TypeId) : Blk (w.alloc (.cells cs ty)) w.heap.size cs ty := heap_alloc_new w _
theorem kept_new {w w' : World} {lo hi : Nat} (h : Kept lo hi w w') (o : Obj) : Kept lo hi w (w'.alloc o) :=
  ⟨h.os, h.tape, h.output, Nat.le_trans h.size (by simp), fun k hk hn => (Below.heap_alloc _ _ _ (Nat.lt_of_lt_of_le hk h.size)).trans (h.block k hk hn)⟩
namespace Pl
end Pl
theorem Blk.all {w : World} {b : Nat} {cs : Array Value} {ty : TypeId} (h : Blk w b cs ty) (i : Nat) : w.cell? ⟨b, i, none⟩ = cs[i]? := by
  have e : w.heap[b]? = some (.cells cs ty (0, 0)) := h
  unfold World.cell?
  dsimp only
  rw [e]
  simp
end Go.Proofs.Ytkkmnnhaailkcaa

namespace Go.Proofs.Ytkkmnnhaailkcaa.Pl
set_option linter.unusedVariables false

structure Rg where
  xs : List Int
  ys : List Int
  o : Int
  p : Int
  f : Int
  m : Int
  s : Bool
  t : Bool
def within (n lo hi : Int) : Bool := decide (lo ≤ n) && decide (n ≤ hi)
def wordOk (n : Int) : Bool := within n 0 65535
end Go.Proofs.Ytkkmnnhaailkcaa.Pl
namespace Go.Proofs.Ytkkmnnhaailkcaa
end Go.Proofs.Ytkkmnnhaailkcaa

namespace Go.Proofs.Ytkkmnnhaailkcaa.Pl
set_option linter.unusedVariables false
/-- a value laid there, of a size -/
def wr (xs : List Int) (s : Int) (i : Nat) (v : Int) : List Int := if s = 1 then xs.set i v else (xs.set i (v / 256)).set (i + 1) (v % 256)
end Go.Proofs.Ytkkmnnhaailkcaa.Pl

namespace Go.Proofs.Ytkkmnnhaailkcaa.Pl
set_option linter.unusedVariables false

/-- the highest bit -/
def hi (s v : Int) : Int := if top s / 2 ≤ v then 1 else 0
/-- what falls out -/
def fell (k s v : Int) : Int := if k % 2 = 0 then hi s v else v % 2
/-- what comes in -/
def inn (k s x v : Int) : Int := if k = 1 then hi s v else if k = 4 ∨ k = 5 then fell k s v else if 6 ≤ k then x else 0
def nv (k s x v : Int) : Int := if k % 2 = 0 then v * 2 % top s + inn k s x v else v / 2 + inn k s x v * (top s / 2)
def nx (k s x v : Int) : Int := if k = 4 ∨ k = 5 then x else fell k s v
/-- a value and the kept bit, one place on -/
def stp (k s : Int) (p : Int × Int) : Int × Int := (nv k s p.2 p.1, nx k s p.2 p.1)
def st (k s : Int) (p : Int × Int) : Nat → Int × Int
  | 0 => p
  | n + 1 => stp k s (st k s p n)
/-! ### what a call answers -/
end Go.Proofs.Ytkkmnnhaailkcaa.Pl

namespace Go.Proofs.Ytkkmnnhaailkcaa.Pl
set_option linter.unusedVariables false

/-- a fault -/
structure Ft where
  v : Int
  pc : Int
  ad : Int
  wo : Int
  wr : Bool
/-- a step on its way -/
structure Mc where
  r : Rg
  bx : List Int
  bl : List Int
  bm : Nat
  st : Bool
  f : Ft
namespace Mc
/- the instruction at PC -/
/- operands -/
/- a step -/
end Mc
end Go.Proofs.Ytkkmnnhaailkcaa.Pl
namespace Go.Proofs.Ytkkmnnhaailkcaa
abbrev ftA (f : Pl.Ft) : Array Value := #[iv f.v, iv f.pc, iv f.ad, iv f.wo, .bool f.wr]
end Go.Proofs.Ytkkmnnhaailkcaa

namespace Go.Proofs.Ytkkmnnhaailkcaa.Pl
set_option linter.unusedVariables false
def ftLong (v : Int) : Bool := v == 2 || v == 3
def ftOk (f : Ft) : Bool := within f.v 2 21 && (wordOk f.pc && (wordOk f.ad && (wordOk f.wo && (ftLong f.v || (f.ad == 0 && !f.wr)))))
/-- what was read out of memory is a whole number of the machine -/
structure WfF (f : Ft) : Prop where
  p0 : -9223372036854775808 ≤ f.pc
  p1 : f.pc ≤ 9223372036854775807
  a0 : -9223372036854775808 ≤ f.ad
  a1 : f.ad ≤ 9223372036854775807
  w0 : -9223372036854775808 ≤ f.wo
  w1 : f.wo ≤ 9223372036854775807
/-- where a fault's test ends -/
theorem ft_ways (f : Ft) : f.v < 2 ∨ (2 ≤ f.v ∧ 21 < f.v) ∨ (2 ≤ f.v ∧ f.v ≤ 21) ∧ (wordOk f.pc = false ∨ wordOk f.pc = true ∧ (wordOk f.ad = false ∨ wordOk f.ad = true ∧ (wordOk f.wo = false ∨ wordOk f.wo = true ∧ (ftLong f.v = true ∨ ftLong f.v = false ∧ ((f.ad == 0) = false ∨ (f.ad == 0) = true))))) := by
  by_cases h1 : f.v < 2
  · exact .inl h1
  · by_cases h2 : 21 < f.v
    · exact .inr (.inl ⟨by omega, h2⟩)
    · refine .inr (.inr ⟨⟨by omega, by omega⟩, ?_⟩)
      cases wordOk f.pc <;> cases wordOk f.ad <;> cases wordOk f.wo <;> cases ftLong f.v <;> by_cases f.ad = 0 <;> simp_all
end Go.Proofs.Ytkkmnnhaailkcaa.Pl

namespace Go.Proofs.Ytkkmnnhaailkcaa
open Go.RowKit
set_option linter.unusedVariables false

theorem signedAs8 (v : Int) (w : World) (lo : -9223372036854775808 ≤ v) (hi : v ≤ 9223372036854775807) :
    Calls Try.prog 70 #[iv v] w fun e w' => e = .returned (.tuple #[iv (Pl.sgnV 1 v), .bool (Pl.okv 1 v)]) ∧ w' = w := by
  by_cases h : 0 ≤ v ∧ v < 256
  · obtain ⟨h0, h1⟩ := h
    have hs : IntKind.u8.signed = false := rfl
    have hm : IntKind.u8.max = 255 := by decide
    have hb : bits .xor .u8 255 0 = 255 := by decide
    by_cases h : 127 < v
    all_goals
      go_enter Try.func70, Try.ntmps70
      go_wp2
      go_ret2
      exact ⟨rIB (by simp [Pl.sgnV, Pl.okv, Pl.sg, Pl.top, h0, h1]; omega) (by simp [Pl.okv, Pl.top, h0, h1]), rfl⟩
  · go_enter Try.func70, Try.ntmps70
    go_wp2
    go_ret2
    have k : Pl.okv 1 v = false := by
      cases c : Pl.okv 1 v
      · rfl
      · have := Pl.top_ok c; omega
    exact ⟨rIB (by simp [Pl.sgnV, k]) k.symm, rfl⟩

theorem signedAs16 (v : Int) (w : World) (lo : -9223372036854775808 ≤ v) (hi : v ≤ 9223372036854775807) :
    Calls Try.prog 71 #[iv v] w fun e w' => e = .returned (.tuple #[iv (Pl.sgnV 2 v), .bool (Pl.okv 2 v)]) ∧ w' = w := by
  by_cases h : 0 ≤ v ∧ v < 65536
  · obtain ⟨h0, h1⟩ := h
    have hs : IntKind.u16.signed = false := rfl
    have hm : IntKind.u16.max = 65535 := by decide
    have hb : bits .xor .u16 65535 0 = 65535 := by decide
    by_cases h : 32767 < v
    all_goals
      go_enter Try.func71, Try.ntmps71
      go_wp2
      go_ret2
      exact ⟨rIB (by simp [Pl.sgnV, Pl.okv, Pl.sg, Pl.top, h0, h1]; omega) (by simp [Pl.okv, Pl.top, h0, h1]), rfl⟩
  · have hw : IntKind.u16.wrap v = v % 65536 := IntKind.wrap_u16 v
    go_enter Try.func71, Try.ntmps71
    go_wp2
    go_ret2
    have k : Pl.okv 2 v = false := by
      cases c : Pl.okv 2 v
      · rfl
      · have := Pl.top_ok c; omega
    exact ⟨rIB (by simp [Pl.sgnV, k]) k.symm, rfl⟩

theorem signedOf (s v : Int) (w : World) (lo : -9223372036854775808 ≤ v) (hi : v ≤ 9223372036854775807) :
    Calls Try.prog 48 #[iv s, iv v] w fun e w' => e = .returned (.tuple #[iv (Pl.sgnV s v), .bool (Pl.okv s v)]) ∧ w' = w := by
  by_cases h1 : s = 1
  · subst h1
    go_enter Try.func48, Try.ntmps48
    go_wp2_with fail
    refine (signedAs8 v _ lo hi).mono ?_
    rintro e w' ⟨rfl, rfl⟩
    go_wp2_with fail
    go_ret2
    exact ⟨rfl, rfl⟩
  · by_cases h2 : s = 2
    · subst h2
      go_enter Try.func48, Try.ntmps48
      go_wp2_with fail
      refine (signedAs16 v _ lo hi).mono ?_
      rintro e w' ⟨rfl, rfl⟩
      go_wp2_with fail
      go_ret2
      exact ⟨rfl, rfl⟩
    · have k : Pl.okv s v = false := by simp [Pl.okv, h1, h2]
      have k1 : (s == 1) = false := by simpa using h1
      have k2 : (s == 2) = false := by simpa using h2
      go_enter Try.func48, Try.ntmps48
      go_wp2_with fail
      go_ret2
      exact ⟨rIB (by simp [Pl.sgnV, k]) k.symm, rfl⟩

end Go.Proofs.Ytkkmnnhaailkcaa

namespace Go.Proofs.Ytkkmnnhaailkcaa
open Go.RowKit
set_option linter.unusedVariables false
theorem okv2 (v : Int) : Pl.okv 2 v = Pl.wordOk v := by
  unfold Pl.okv Pl.wordOk Pl.within Pl.top
  rw [Bool.eq_iff_iff]; simp; omega
theorem isWord (v : Int) (w : World) (lo : -9223372036854775808 ≤ v) (hi : v ≤ 9223372036854775807) :
    Calls Try.prog 29 #[iv v] w fun e w' => e = .returned (.bool (Pl.wordOk v)) ∧ w' = w := by
  go_enter Try.func29, Try.ntmps29
  go_wp2_with (go_at_call 48; refine (signedOf _ _ _ lo hi).mono ?_; rintro e w' ⟨rfl, hw⟩; have hw2 := hw.symm; clear hw; subst hw2; rw [okv2])
  go_ret
  exact ⟨rfl, rfl⟩
end Go.Proofs.Ytkkmnnhaailkcaa

namespace Go.Proofs.Ytkkmnnhaailkcaa
open Go.RowKit
set_option linter.unusedVariables false
set_option maxRecDepth 100000 in
theorem hasLong (f : Pl.Ft) (w : World) : Calls Try.prog 30 #[.agg (ftA f)] w fun e w' => e = .returned (.bool (Pl.ftLong f.v)) ∧ Kept 0 0 w w' := by
  have H : f.v = 2 ∨ ¬ f.v = 2 ∧ (f.v = 3 ∨ ¬ f.v = 3) := by omega
  rcases H with h2 | ⟨h2, h3 | h3⟩
  all_goals
    obtain ⟨v, pc, ad, wo, wr⟩ := f
    simp only at h2
    try simp only at h3
    try subst h2
    try subst h3
    go_enter Try.func30, Try.ntmps30
    go_wp2
    go_ret
    exact ⟨rB (by simp [Pl.ftLong, *]), kept_alloc _ _⟩
set_option maxRecDepth 100000 in
set_option maxHeartbeats 4000000 in
theorem implGoodFault (f : Pl.Ft) (w : World) (wf : Pl.WfF f) : Calls Try.prog 10 #[.agg (ftA f)] w fun e w' => e = .returned (.bool (Pl.ftOk f)) ∧ Kept 0 0 w w' := by
  have K0 := hide (kept_alloc w (.cells (ftA f) 25))
  have B0 := hide (Blk.new w (ftA f) 25)
  obtain ⟨p0, p1, a0, a1, w0, w1⟩ := wf
  have H := Pl.ft_ways f
  rcases H with h1 | ⟨h1, h2⟩ | ⟨⟨h1, h2⟩, h3 | ⟨h3, h4 | ⟨h4, h5 | ⟨h5, h6 | ⟨h6, h7 | h7⟩⟩⟩⟩⟩
  all_goals
    go_enter Try.func10, Try.ntmps10
    go_wp2_with (first | (go_at_call 29; have z := Z2; refine (isWord f.wo _ w0 w1).mono ?_; rintro e w' ⟨rfl, rfl⟩; rw [h5]) | (go_at_call 29; have z := Z1; refine (isWord f.ad _ a0 a1).mono ?_; rintro e w' ⟨rfl, rfl⟩; rw [h4]; have Z2 : True := trivial) | (go_at_call 29; refine (isWord f.pc _ p0 p1).mono ?_; rintro e w' ⟨rfl, rfl⟩; rw [h3]; have Z1 : True := trivial) | (go_at_call 30; refine (hasLong f _).mono ?_; rintro e w2 ⟨rfl, k2⟩; rw [h6]; have q := (B0.out.kept0 k2).all))
    go_ret
    refine ⟨rB ?_, ?_⟩
    · try clear q
      try clear k2
      clear K0 B0
      unfold Pl.ftOk Pl.within; simp_all; try omega
    · first | exact K0.out | exact K0.out.trans k2
set_option maxRecDepth 100000 in
theorem implIsLongFrame (f : Pl.Ft) (w : World) (wf : Pl.WfF f) : Calls Try.prog 21 #[.agg (ftA f)] w fun e w' => e = .returned (.tuple #[.bool (Pl.ftOk f && Pl.ftLong f.v), .bool (Pl.ftOk f)]) ∧ Kept 0 0 w w' := by
  have K0 := hide (kept_alloc w (.cells (ftA f) 25))
  have B0 := hide (Blk.new w (ftA f) 25)
  cases h : Pl.ftOk f
  all_goals
    go_enter Try.func21, Try.ntmps21
    go_wp2_with (first | (go_at_call 10; refine (implGoodFault f _ wf).mono ?_; rintro e w2 ⟨rfl, k2⟩; rw [h]; have q := (B0.out.kept0 k2).all) | (go_at_call 30; refine (hasLong f _).mono ?_; rintro e w3 ⟨rfl, k3⟩))
    go_ret2
    first | exact ⟨rfl, K0.out.trans k2⟩ | exact ⟨rfl, (K0.out.trans k2).trans k3⟩
end Go.Proofs.Ytkkmnnhaailkcaa

namespace Go.Proofs.Ytkkmnnhaailkcaa
open Go.RowKit
set_option linter.unusedVariables false
theorem specWord (n : Int) (w : World) : Calls Try.prog 27 #[iv n] w fun e w' => e = .returned (.bool (Pl.wordOk n)) ∧ w' = w := by
  go_enter Try.func27, Try.ntmps27
  go_wp2_with (go_at_call 26; refine (l1In _ _ _ _).mono ?_; rintro e w' ⟨rfl, hw⟩; have hw2 := hw.symm; clear hw; subst hw2)
  go_ret
  exact ⟨rfl, rfl⟩
end Go.Proofs.Ytkkmnnhaailkcaa

namespace Go.Proofs.Ytkkmnnhaailkcaa
open Go.RowKit
set_option linter.unusedVariables false
set_option maxRecDepth 100000 in
theorem l11Long (v : Int) (w : World) : Calls Try.prog 28 #[iv v] w fun e w' => e = .returned (.bool (Pl.ftLong v)) ∧ w' = w := by
  have H : v = 2 ∨ ¬ v = 2 ∧ (v = 3 ∨ ¬ v = 3) := by omega
  rcases H with rfl | ⟨h2, rfl | h3⟩
  all_goals
    go_enter Try.func28, Try.ntmps28
    go_wp2
    go_ret
    exact ⟨rB (by simp [Pl.ftLong, *]), rfl⟩
set_option maxRecDepth 100000 in
theorem specGoodFault (f : Pl.Ft) (w : World) : Calls Try.prog 8 #[.agg (ftA f)] w fun e w' => e = .returned (.bool (Pl.ftOk f)) ∧ Kept 0 0 w w' := by
  have K0 := hide (kept_alloc w (.cells (ftA f) 25))
  have H := Pl.ft_ways f
  rcases H with h1 | ⟨h1, h2⟩ | ⟨⟨h1, h2⟩, h3 | ⟨h3, h4 | ⟨h4, h5 | ⟨h5, h6 | ⟨h6, h7 | h7⟩⟩⟩⟩⟩
  all_goals
    obtain ⟨z, hz⟩ : ∃ z, z = (decide (2 ≤ f.v) && decide (f.v ≤ 21)) := ⟨_, rfl⟩
    have hz2 : z = decide (2 ≤ f.v ∧ f.v ≤ 21) := by rw [hz]; simp
    first | rw [decide_eq_true (show 2 ≤ f.v ∧ f.v ≤ 21 from ⟨h1, h2⟩)] at hz2 | rw [decide_eq_false (show ¬ (2 ≤ f.v ∧ f.v ≤ 21) by omega)] at hz2
    go_enter Try.func8, Try.ntmps8
    go_wp2_with (first | (go_at_call 26; refine (l1In _ _ _ _).mono ?_; rintro e w' ⟨rfl, rfl⟩; rw [← hz, hz2]) | (go_at_call 27; have z := Z2; refine (specWord f.wo _).mono ?_; rintro e w' ⟨rfl, rfl⟩; rw [h5]) | (go_at_call 27; have z := Z1; refine (specWord f.ad _).mono ?_; rintro e w' ⟨rfl, rfl⟩; rw [h4]; have Z2 : True := trivial) | (go_at_call 27; refine (specWord f.pc _).mono ?_; rintro e w' ⟨rfl, rfl⟩; rw [h3]; have Z1 : True := trivial) | (go_at_call 28; refine (l11Long _ _).mono ?_; rintro e w' ⟨rfl, rfl⟩; rw [h6]))
    go_ret
    refine ⟨rB ?_, K0.out⟩
    unfold Pl.ftOk Pl.within; rw [← hz, hz2]; simp_all
set_option maxRecDepth 100000 in
theorem specIsLongFrame (f : Pl.Ft) (w : World) : Calls Try.prog 20 #[.agg (ftA f)] w fun e w' => e = .returned (.tuple #[.bool (Pl.ftOk f && Pl.ftLong f.v), .bool (Pl.ftOk f)]) ∧ Kept 0 0 w w' := by
  have K0 := hide (kept_alloc w (.cells (ftA f) 25))
  have B0 := hide (Blk.new w (ftA f) 25)
  cases h : Pl.ftOk f
  all_goals
    go_enter Try.func20, Try.ntmps20
    go_wp2_with (first | (go_at_call 8; refine (specGoodFault f _).mono ?_; rintro e w2 ⟨rfl, k2⟩; rw [h]; have q := (B0.out.kept0 k2).all) | (go_at_call 28; refine (l11Long _ _).mono ?_; rintro e w3 ⟨rfl, rfl⟩))
    go_ret2
    exact ⟨rfl, K0.out.trans k2⟩
end Go.Proofs.Ytkkmnnhaailkcaa

namespace Go.Proofs.Ytkkmnnhaailkcaa
open Go.RowKit
set_option linter.unusedVariables false
theorem toFault (f : Pl.Ft) (w : World) : Calls Try.prog 9 #[.agg (ftA f)] w fun e w' => e = .returned (.agg (ftA f)) ∧ Kept 0 0 w w' := by
  go_enter Try.func9, Try.ntmps9
  go_wp2
  refine bodyPost_ret (v := .agg (ftA f)) ?_ rfl ⟨rfl, kept_new (kept_new (kept_alloc _ _) _) _⟩
  rw [results_one rfl]; go_simp
end Go.Proofs.Ytkkmnnhaailkcaa

namespace Go.Proofs.Ytkkmnnhaailkcaa
open Go.RowKit
set_option linter.unusedVariables false
set_option maxRecDepth 100000 in
theorem lawIsLongFrame (f : Pl.Ft) (w : World) (wf : Pl.WfF f) : Calls Try.prog 5 #[.agg (ftA f)] w fun e w' => e = .returned (.bool true) ∧ Below w.heap.size w w' := by
  have K0 := hide (kept_alloc w (.cells (ftA f) 23))
  have B0 := hide (Blk.new w (ftA f) 23)
  cases h : Pl.ftOk f <;> cases h2 : Pl.ftLong f.v
  all_goals
    go_enter Try.func5, Try.ntmps5
    go_wp2_with (first | (go_at_call 9; have z := Z1; refine (toFault f _).mono ?_; rintro e w4 ⟨rfl, k4⟩; have K4 := hide (K3.out.trans k4); clear k4) | (go_at_call 9; refine (toFault f _).mono ?_; rintro e w2 ⟨rfl, k2⟩; have K2 := hide (K0.out.trans k2); have B2 := hide (B0.out.kept0 k2); clear k2) | (go_at_call 20; refine (specIsLongFrame f _).mono ?_; rintro e w3 ⟨rfl, k3⟩; rw [h, h2]; have K3 := hide (K2.out.trans k3); have q := (B2.out.kept0 k3).all; have Z1 : True := trivial; clear k3) | (go_at_call 21; refine (implIsLongFrame f _ wf).mono ?_; rintro e w5 ⟨rfl, k5⟩; rw [h, h2]; have K5 := hide (K4.out.trans k5); clear k5))
    go_ret
    exact ⟨rfl, K5.out.below⟩
end Go.Proofs.Ytkkmnnhaailkcaa

namespace Go.Proofs.Ytkkmnnhaailkcaa
open Go.RowKit Go.WideShapes Go.ChangeShapes Go.ChangeAt
set_option linter.unusedVariables false
set_option linter.unusedSimpArgs false

theorem Try.cellsInt : Try.prog.cellsOf 3 = 1 := by kernel_rfl
theorem Try.cellsBool : Try.prog.cellsOf 4 = 1 := by kernel_rfl
section
variable {H : Type} {enc : TypeId × Value → H} {w : World} {base : Nat} {spare : Nat → Bool} {held : Bool}

end
end Go.Proofs.Ytkkmnnhaailkcaa

namespace Go.Proofs.Ytkkmnnhaailkcaa
open Go.RowKit Go.WideShapes Go.ChangeShapes Go.ChangeAt
set_option linter.unusedVariables false
set_option linter.unusedSimpArgs false
theorem Try.cellsFault : Try.prog.cellsOf 23 = 5 := by kernel_rfl
section
variable {H : Type} {enc : TypeId × Value → H} {w : World} {base : Nat} {spare : Nat → Bool} {held : Bool}
set_option maxRecDepth 100000 in
theorem open_Fault {r : Reach} {b0 : Nat} {v : Value} {d : DataW H} {p : List MemPlace} (hv : Value.okWide Try.prog w r b0 23 v) (h : DataW.Trod enc Try.prog w base spare held 23 v d p) :
    ∃ (i0 i1 i2 i3 : Int) (i4 : Bool), v = .agg #[iv i0, iv i1, iv i2, iv i3, .bool i4] ∧ (Lit.int .i64 i0).wf = true ∧ (Lit.int .i64 i1).wf = true ∧ (Lit.int .i64 i2).wf = true ∧ (Lit.int .i64 i3).wf = true := by
  obtain ⟨cs, rfl, hsz⟩ := okWide_struct Try.underlying23 hv
  rw [Try.cellsFault] at hsz
  obtain ⟨cl⟩ := cs
  obtain ⟨c_0, c_1, c_2, c_3, c_4, rfl⟩ : ∃ c_0 c_1 c_2 c_3 c_4, cl = [c_0, c_1, c_2, c_3, c_4] := by
    match cl, hsz with
    | [c_0, c_1, c_2, c_3, c_4], _ => exact ⟨c_0, c_1, c_2, c_3, c_4, rfl⟩
  obtain ⟨fuel, hf0⟩ := h
  obtain ⟨zs, k, _, _, _, hzl, hf⟩ := DataW.trod_struct Try.underlying23 hf0
  obtain ⟨y_0, y_1, y_2, y_3, y_4, rfl⟩ : ∃ y_0 y_1 y_2 y_3 y_4, zs = [y_0, y_1, y_2, y_3, y_4] := by
    match zs, hzl with
    | [y_0, y_1, y_2, y_3, y_4], _ => exact ⟨y_0, y_1, y_2, y_3, y_4, rfl⟩
  have s0 := hf 0 _ rfl
  have s1 := hf 1 _ rfl
  have s2 := hf 2 _ rfl
  have s3 := hf 3 _ rfl
  have s4 := hf 4 _ rfl
  simp [Value.cells, Try.cellsInt, Try.cellsBool] at s0 s1 s2 s3 s4
  obtain ⟨i0, q0, _, wf0⟩ := DataW.trod_int Try.underlying3 s0
  obtain ⟨i1, q1, _, wf1⟩ := DataW.trod_int Try.underlying3 s1
  obtain ⟨i2, q2, _, wf2⟩ := DataW.trod_int Try.underlying3 s2
  obtain ⟨i3, q3, _, wf3⟩ := DataW.trod_int Try.underlying3 s3
  obtain ⟨i4, q4⟩ := DataW.trod_bool Try.underlying4 s4
  simp at q0 q1 q2 q3 q4
  subst q0 q1 q2 q3
  exact ⟨i0, i1, i2, i3, i4, by simp [q4], wf0, wf1, wf2, wf3⟩
end
theorem wfF {f : Pl.Ft} (h1 : (Lit.int .i64 f.pc).wf = true) (h2 : (Lit.int .i64 f.ad).wf = true) (h3 : (Lit.int .i64 f.wo).wf = true) : Pl.WfF f :=
  ⟨(bounds_i64 h1).1, (bounds_i64 h1).2, (bounds_i64 h2).1, (bounds_i64 h2).2, (bounds_i64 h3).1, (bounds_i64 h3).2⟩
end Go.Proofs.Ytkkmnnhaailkcaa

