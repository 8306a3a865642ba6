/- The plain arithmetic beneath the walks of chapter 1: what masks, values with a sign and flags are, as functions on whole numbers. No Go text is spoken of here. Small things that every walk of ours leans on: equal answers, a fact kept from the walk, and what the model's test of a range answers. What is said of worlds, blocks and lists by every law on structs with lists: blocks kept outside a span, lists in blocks of a span, a block's cells, copies; no text of a chapter is spoken of here. What the laws' own functions over lists of FlagOp do (structs of 4 whole numbers, laid one behind the other): compare, copy, mark. A list of n is spoken of as the row of its 4 * n numbers. Bits moved one place at a time, so often, and back; how many are 1; the other way round: plain arithmetic; no Go text is spoken of here. Operations on flags in numbers: plain arithmetic; no Go text is spoken of here. What the laws' own functions on notes do: copy, compare; and on lists of operations: measure. What the model's test of a size answers. What the model's test of a value of a size answers, for every argument; none changes the world. What the model's small functions of chapter 1 answer, for every argument: one contract a function; none changes the world. What the model's one place answers, for each kind and size: one contract each; none changes the world. What the models of chapter 3's shifts answer for every argument: one contract a function; none changes the world. What the program's test of a value of a size answers: one contract a function; none changes the world. What the small functions of chapter 1 and of its model answer, for every argument: one contract a function; none changes the world. What the sums and differences of chapter 1, and of its model, answer for every argument: one contract a function; none changes the world. What AddFlags, SubFlags and NegFlags of chapter 1, and their models, answer for every argument: one contract a function; none changes the world. What the models of AddFlags, SubFlags and NegFlags answer for every argument: one contract a function; none changes the world. What CmpFlags, LogicFlags, ExtendWord and SwapBytes of chapter 1, and their models, answer for every argument: one contract a function; none changes the world. What the model's small functions on operations and notes answer. What the model's functions on notes answer. -/
import Derived.WalkKit
import Derived.Test.YtnmddmmmgdfknaaProg
import Derived.WalkSpells
import Derived.WalkLawsBesides
import Derived.OpenShut
import Derived.RegionTactic
import Derived.ChangeAlike
import Derived.BigRegion
import Derived.Deep.RegionWith
import Derived.Laws.Rows
import Derived.Laws.ResultCell
import Derived.Laws.CopyOwn
import Derived.Maps.AppendAt
import Derived.Laws.AppendOwnNone
import Derived.Deep.QuietTactic
import Derived.BigQuiet
import Derived.Deep.AppendLies
namespace Go.Proofs.Ytnmddmmmgdfknaa.Pl

theorem and255 (a : Int) : bits .and .i64 a 255 = a % 256 := by
  show IntKind.i64.wrap ((BitVec.ofInt 64 a &&& BitVec.ofInt 64 255).toNat : Int) = _
  rw [BitVec.toNat_and, BitVec.toNat_ofInt, show (BitVec.ofInt 64 255).toNat = 2 ^ 8 - 1 from by decide, Nat.and_two_pow_sub_one_eq_mod, IntKind.wrap_i64]
  omega
theorem and65535 (a : Int) : bits .and .i64 a 65535 = a % 65536 := by
  show IntKind.i64.wrap ((BitVec.ofInt 64 a &&& BitVec.ofInt 64 65535).toNat : Int) = _
  rw [BitVec.toNat_and, BitVec.toNat_ofInt, show (BitVec.ofInt 64 65535).toNat = 2 ^ 16 - 1 from by decide, Nat.and_two_pow_sub_one_eq_mod, IntKind.wrap_i64]
  omega
theorem and1 (a : Int) : bits .and .i64 a 1 = a % 2 := by
  show IntKind.i64.wrap ((BitVec.ofInt 64 a &&& BitVec.ofInt 64 1).toNat : Int) = _
  rw [BitVec.toNat_and, BitVec.toNat_ofInt, show (BitVec.ofInt 64 1).toNat = 2 ^ 1 - 1 from by decide, Nat.and_two_pow_sub_one_eq_mod, IntKind.wrap_i64]
  omega

/-- how many values a size has -/
def top (s : Int) : Int := if s = 1 then 256 else 65536
/-- a value of a size -/
def okv (s v : Int) : Bool := (decide (s = 1) || decide (s = 2)) && (decide (0 ≤ v) && decide (v < top s))
/-- a value as a number with a sign -/
def sg (s v : Int) : Int := if top s / 2 ≤ v then v - top s else v
/-- a flag where something is so -/
def fl (b : Bool) (f : Int) : Int := if b then f else 0
/-- the four flags of a result together -/
def four (c v z n : Bool) : Int := fl c 17 + fl v 2 + fl z 4 + fl n 8
def sgnV (s v : Int) : Int := if okv s v = true then sg s v else 0
def bit (x : Int) : Bool := decide (0 ≤ x) && decide (x ≤ 1)
def two (s x a b : Int) : Bool := okv s a && (okv s b && bit x)
def flags (f : Int) : Bool := decide (0 ≤ f) && decide (f ≤ 31)
/-- what is kept of a result, and its flags: of the result without signs and of that with signs -/
def keptF (s plain signed : Int) : Int := four (plain % top s != plain) (sg s (plain % top s) != signed) (plain % top s == 0) (decide (sg s (plain % top s) < 0))
def addV (s x a b : Int) : Int := if two s x a b = true then (a + b + x) % top s else 0
def addF (s x a b : Int) : Int := if two s x a b = true then keptF s (a + b + x) (sg s a + sg s b + x) else 0
def subV (s x a b : Int) : Int := if two s x a b = true then (a - b - x) % top s else 0
def subF (s x a b : Int) : Int := if two s x a b = true then keptF s (a - b - x) (sg s a - sg s b - x) else 0

theorem fl_or (c v z n : Bool) : bits .or .i64 (bits .or .i64 (bits .or .i64 (fl c 17) (fl v 2)) (fl z 4)) (fl n 8) = four c v z n := by
  cases c <;> cases v <;> cases z <;> cases n <;> decide
theorem fl_or2 (c v z n : Bool) : bits .or .i64 (bits .or .i64 (fl c 17) (fl v 2)) (bits .or .i64 (fl z 4) (fl n 8)) = four c v z n := by
  cases c <;> cases v <;> cases z <;> cases n <;> decide
theorem four_bd (c v z n : Bool) : 0 ≤ four c v z n ∧ four c v z n ≤ 31 := by
  cases c <;> cases v <;> cases z <;> cases n <;> decide
theorem top_ok {s v : Int} (h : okv s v = true) : (s = 1 ∧ top s = 256 ∨ s = 2 ∧ top s = 65536) ∧ 0 ≤ v ∧ v < top s := by
  simp [okv] at h
  obtain ⟨h1, h2, h3⟩ := h
  refine ⟨?_, h2, h3⟩
  rcases h1 with rfl | rfl
  · exact .inl ⟨rfl, rfl⟩
  · exact .inr ⟨rfl, rfl⟩

theorem andNot16 (t : Int) (h0 : 0 ≤ t) (h1 : t ≤ 31) : bits .andNot .i64 t 16 = bits .and .i64 t 15 := by
  obtain ⟨n, rfl⟩ := Int.eq_ofNat_of_zero_le h0
  have k : ∀ m : Fin 32, bits .andNot .i64 ((m.val : Nat) : Int) 16 = bits .and .i64 ((m.val : Nat) : Int) 15 := by decide
  exact k ⟨n, by omega⟩

theorem sgnV_ok {s v : Int} (h : okv s v = true) : sgnV s v = sg s v := by simp [sgnV, h]
theorem okv_mk1 {v : Int} (h0 : 0 ≤ v) (h1 : v < 256) : okv 1 v = true := by simp [okv, top, h0, h1]
theorem okv_mk2 {v : Int} (h0 : 0 ≤ v) (h1 : v < 65536) : okv 2 v = true := by simp [okv, top, h0, h1]
theorem sg_bd1 {v : Int} (h0 : 0 ≤ v) (h1 : v < 256) : -128 ≤ sg 1 v ∧ sg 1 v ≤ 127 := by simp [sg, top]; omega
theorem sg_bd2 {v : Int} (h0 : 0 ≤ v) (h1 : v < 65536) : -32768 ≤ sg 2 v ∧ sg 2 v ≤ 32767 := by simp [sg, top]; omega
theorem two_ok {s x a b : Int} (h : two s x a b = true) : okv s a = true ∧ okv s b = true ∧ bit x = true := by
  simpa [two] using h
theorem bit_ok {x : Int} (h : bit x = true) : 0 ≤ x ∧ x ≤ 1 := by simpa [bit] using h
theorem flags_ok {x : Int} (h : flags x = true) : 0 ≤ x ∧ x ≤ 31 := by simpa [flags] using h
theorem kept1 (p q : Int) : bits .or .i64 (bits .or .i64 (bits .or .i64 (fl (p % 256 != p) 17) (fl (sgnV 1 (p % 256) != q) 2)) (fl (p % 256 == 0) 4)) (fl (decide (sgnV 1 (p % 256) < 0)) 8) = keptF 1 p q := by
  rw [fl_or, sgnV_ok (okv_mk1 (by omega) (by omega))]; rfl
theorem kept2 (p q : Int) : bits .or .i64 (bits .or .i64 (bits .or .i64 (fl (p % 65536 != p) 17) (fl (sgnV 2 (p % 65536) != q) 2)) (fl (p % 65536 == 0) 4)) (fl (decide (sgnV 2 (p % 65536) < 0)) 8) = keptF 2 p q := by
  rw [fl_or, sgnV_ok (okv_mk2 (by omega) (by omega))]; rfl

theorem bne_symm (a b : Int) : (a != b) = (b != a) := by rw [Bool.eq_iff_iff]; simp; omega
theorem neg1 {v : Int} (h0 : 0 ≤ v) (h1 : v < 256) : decide (128 ≤ v) = decide (sg 1 v < 0) := by
  rw [Bool.eq_iff_iff]; simp [sg, top]; omega
theorem neg2 {v : Int} (h0 : 0 ≤ v) (h1 : v < 65536) : decide (32768 ≤ v) = decide (sg 2 v < 0) := by
  rw [Bool.eq_iff_iff]; simp [sg, top]; omega
theorem skept1 (p q : Int) : bits .or .i64 (bits .or .i64 (fl (p != p % 256) 17) (fl (q != sg 1 (p % 256)) 2)) (bits .or .i64 (fl (p % 256 == 0) 4) (fl (decide (128 ≤ p % 256)) 8)) = keptF 1 p q := by
  rw [fl_or2, neg1 (by omega) (by omega), bne_symm p, bne_symm q]; rfl
theorem skept2 (p q : Int) : bits .or .i64 (bits .or .i64 (fl (p != p % 65536) 17) (fl (q != sg 2 (p % 65536)) 2)) (bits .or .i64 (fl (p % 65536 == 0) 4) (fl (decide (32768 ≤ p % 65536)) 8)) = keptF 2 p q := by
  rw [fl_or2, neg2 (by omega) (by omega), bne_symm p, bne_symm q]; rfl
theorem below1 {p : Int} (h : p < 256) : decide (p < 0) = (p != p % 256) := by rw [Bool.eq_iff_iff]; simp; omega
theorem below2 {p : Int} (h : p < 65536) : decide (p < 0) = (p != p % 65536) := by rw [Bool.eq_iff_iff]; simp; omega
theorem sbelow1 (p q : Int) (h : p < 256) : bits .or .i64 (bits .or .i64 (fl (decide (p < 0)) 17) (fl (q != sg 1 (p % 256)) 2)) (bits .or .i64 (fl (p % 256 == 0) 4) (fl (decide (128 ≤ p % 256)) 8)) = keptF 1 p q := by
  rw [below1 h, skept1]
theorem sbelow2 (p q : Int) (h : p < 65536) : bits .or .i64 (bits .or .i64 (fl (decide (p < 0)) 17) (fl (q != sg 2 (p % 65536)) 2)) (bits .or .i64 (fl (p % 65536 == 0) 4) (fl (decide (32768 ≤ p % 65536)) 8)) = keptF 2 p q := by
  rw [below2 h, skept2]

theorem keptF_bd (s p q : Int) : 0 ≤ keptF s p q ∧ keptF s p q ≤ 31 := four_bd _ _ _ _
theorem subF_bd (s x a b : Int) : 0 ≤ subF s x a b ∧ subF s x a b ≤ 31 := by
  unfold subF; split
  · exact keptF_bd _ _ _
  · omega
theorem or_comm (a b : Int) : bits .or .i64 a b = bits .or .i64 b a := by
  show IntKind.i64.wrap ((BitVec.ofInt 64 a ||| BitVec.ofInt 64 b).toNat : Int) = IntKind.i64.wrap ((BitVec.ofInt 64 b ||| BitVec.ofInt 64 a).toNat : Int)
  rw [BitVec.or_comm]
def cmpF (s f a b : Int) : Int := if (two s 0 a b && flags f) = true then bits .or .i64 (bits .and .i64 (subF s 0 a b) 15) (bits .and .i64 f 16) else 0
def logF (s f v : Int) : Int := if (okv s v && flags f) = true then bits .or .i64 (bits .and .i64 f 16) (bits .or .i64 (fl (v == 0) 4) (fl (decide (sg s v < 0)) 8)) else 0
theorem keptSelf {s v : Int} (h : okv s v = true) : keptF s v (sg s v) = bits .or .i64 (fl (v == 0) 4) (fl (decide (sg s v < 0)) 8) := by
  obtain ⟨hs, h0, h1⟩ := top_ok h
  have e : v % top s = v := Int.emod_eq_of_lt h0 h1
  unfold keptF
  rw [e, bne_self_eq_false, bne_self_eq_false]
  cases (v == 0) <;> cases decide (sg s v < 0) <;> decide
theorem wraps_i64 (n : Int) (h₀ : 0 ≤ n) (h₁ : n < 2 ^ 62) : IntKind.i64.wrap n = n := by rw [IntKind.wrap_i64]; omega
end Go.Proofs.Ytnmddmmmgdfknaa.Pl

namespace Go.Proofs.Ytnmddmmmgdfknaa
open Go.RowKit
set_option linter.unusedVariables false

/- long words made short -/
abbrev iv (n : Int) : Value := .int .i64 n
abbrev ftZ : Array Value := #[.int .i64 0, .int .i64 0, .int .i64 0, .int .i64 0, .bool false]
theorem st {P : Program} {f : FuncId} {a : Array Value} {w : World} {r : Ending} {Q : Ending → World → Prop} (h : Calls P f a w fun e w' => e = r ∧ w' = w) (q : Q r w) : Calls P f a w Q := h.mono (by rintro e w' ⟨rfl, rfl⟩; exact q)
theorem hide {p : Prop} (h : p) : Hid p := h
theorem rI {a b : Int} (h : a = b) : Ending.returned (.int .i64 a) = .returned (.int .i64 b) := by rw [h]
theorem rB {a b : Bool} (h : a = b) : Ending.returned (.bool a) = .returned (.bool b) := by rw [h]
theorem rIB {a b : Int} {c d : Bool} (h : a = b) (k : c = d) : Ending.returned (.tuple #[.int .i64 a, .bool c]) = .returned (.tuple #[.int .i64 b, .bool d]) := by rw [h, k]
theorem rII {a b c d : Int} (h : a = b) (k : c = d) : Ending.returned (.tuple #[.int .i64 a, .int .i64 c]) = .returned (.tuple #[.int .i64 b, .int .i64 d]) := by rw [h, k]
theorem rIIB {a b c d : Int} {e f : Bool} (h : a = b) (k : c = d) (l : e = f) : Ending.returned (.tuple #[.int .i64 a, .int .i64 c, .bool e]) = .returned (.tuple #[.int .i64 b, .int .i64 d, .bool f]) := by rw [h, k, l]

theorem l1In (n lo hi : Int) (w : World) :
    Calls Try.prog 57 #[.int .i64 n, .int .i64 lo, .int .i64 hi] w fun e w' => e = .returned (.bool (decide (lo ≤ n) && decide (n ≤ hi))) ∧ w' = w := by
  by_cases h0 : lo ≤ n
  all_goals
    by_cases h1 : n ≤ hi
    all_goals
      go_enter Try.func57, Try.ntmps57
      go_wp2
      go_ret
      exact ⟨rB (by simp; omega), rfl⟩

end Go.Proofs.Ytnmddmmmgdfknaa

namespace Go.Proofs.Ytnmddmmmgdfknaa
open Go.RowKit
set_option linter.unusedVariables false

theorem results_one {fn : Func} {p : Tmp} {ty : TypeId} (h : fn.results = #[.cell p ty]) (tmps : Array Value) (P : Program) (w : World) :
    (results fn tmps).run P w = ((asAddr (tmps.getD p undef)).run P w).andThen fun a w₁ => (loadVar ty a).run P w₁ := by
  simp only [results, h]
  simp [Sem.run_bind, Result.andThen]
/-- of the blocks that were there those outside a span are as they were -/
structure Kept (lo hi : Nat) (w w' : World) : Prop where
  os : w'.os = w.os
  tape : w'.tape = w.tape
  output : w'.output = w.output
  size : w.heap.size ≤ w'.heap.size
  block : ∀ k, k < w.heap.size → ¬ (lo ≤ k ∧ k < hi) → w'.heap[k]? = w.heap[k]?

theorem Kept.refl (lo hi : Nat) (w : World) : Kept lo hi w w := ⟨rfl, rfl, rfl, Nat.le_refl _, fun _ _ _ => rfl⟩
theorem Kept.trans {lo hi : Nat} {a b c : World} (h : Kept lo hi a b) (k : Kept lo hi b c) : Kept lo hi a c :=
  ⟨k.os.trans h.os, k.tape.trans h.tape, k.output.trans h.output, Nat.le_trans h.size k.size, fun i hi hn => (k.block i (Nat.lt_of_lt_of_le hi h.size) hn).trans (h.block i hi hn)⟩
theorem kept_below {w w' : World} (h : Below w.heap.size w w') : Kept 0 0 w w' := ⟨h.os, h.tape, h.output, h.size, fun k hk _ => h.block k hk⟩
theorem Kept.below {w w' : World} (h : Kept 0 0 w w') : Below w.heap.size w w' := ⟨h.os, h.tape, h.output, h.size, fun k hk => h.block k hk (by omega)⟩
theorem kept_alloc (w : World) (o : Obj) : Kept 0 0 w (w.alloc o) := kept_below ((Below.refl _ w).alloc (Nat.le_refl _) o)
theorem kept_drew {lo hi : Nat} {w w' : World} (h : Kept lo hi w w') : Kept lo hi w w'.drew := ⟨h.os, h.tape, h.output, h.size, h.block⟩
/-- a block that holds these cells -/
def Blk (w : World) (b : Nat) (cs : Array Value) (ty : TypeId) : Prop := w.heap[b]? = some (.cells cs ty)
theorem Blk.lt {w : World} {b : Nat} {cs : Array Value} {ty : TypeId} (h : Blk w b cs ty) : b < w.heap.size := by
  unfold Blk at h
  rcases Nat.lt_or_ge b w.heap.size with h' | h'
  · exact h'
  · rw [Array.getElem?_eq_none h'] at h; cases h
theorem Blk.kept {w w' : World} {b : Nat} {cs : Array Value} {ty : TypeId} {lo hi : Nat} (h : Blk w b cs ty) (k : Kept lo hi w w') (hn : ¬ (lo ≤ b ∧ b < hi)) : Blk w' b cs ty := (k.block b h.lt hn).trans h
theorem Blk.kept0 {w w' : World} {b : Nat} {cs : Array Value} {ty : TypeId} (h : Blk w b cs ty) (k : Kept 0 0 w w') : Blk w' b cs ty := h.kept k (by omega)
theorem Blk.new (w : World) (cs : Array Value) (ty : TypeId) : Blk (w.alloc (.cells cs ty)) w.heap.size cs ty := heap_alloc_new w _
theorem Blk.alloc {w : World} {b : Nat} {cs : Array Value} {ty : TypeId} (h : Blk w b cs ty) (o : Obj) : Blk (w.alloc o) b cs ty := (Below.heap_alloc _ _ _ h.lt).trans h
/-- a store into a block of the span -/
theorem kept_set {w w' : World} {lo hi : Nat} (h : Kept lo hi w w') (b i : Nat) (v : Value) (hb : (lo ≤ b ∧ b < hi) ∨ w.heap.size ≤ b) : Kept lo hi w (w'.setCell ⟨b, i, none⟩ v) :=
  ⟨h.os, h.tape, h.output, by simpa using h.size, fun k hk hn => (Below.heap_setCell _ _ _ _ (by simp; omega)).trans (h.block k hk hn)⟩
theorem kept_new {w w' : World} {lo hi : Nat} (h : Kept lo hi w w') (o : Obj) : Kept lo hi w (w'.alloc o) :=
  ⟨h.os, h.tape, h.output, Nat.le_trans h.size (by simp), fun k hk hn => (Below.heap_alloc _ _ _ (Nat.lt_of_lt_of_le hk h.size)).trans (h.block k hk hn)⟩
namespace Pl
end Pl
theorem Blk.all {w : World} {b : Nat} {cs : Array Value} {ty : TypeId} (h : Blk w b cs ty) (i : Nat) : w.cell? ⟨b, i, none⟩ = cs[i]? := by
  have e : w.heap[b]? = some (.cells cs ty (0, 0)) := h
  unfold World.cell?
  dsimp only
  rw [e]
  simp
end Go.Proofs.Ytnmddmmmgdfknaa

namespace Go.Proofs.Ytnmddmmmgdfknaa
open Go.RowKit
set_option linter.unusedVariables false

theorem toFlagOp (a b c d : Int) (w : World) :
    Calls Try.prog 88 #[.agg #[.int .i64 a, .int .i64 b, .int .i64 c, .int .i64 d]] w fun r w' => r = .returned (.agg #[.int .i64 a, .int .i64 b, .int .i64 c, .int .i64 d]) ∧ ∃ o1 o2 o3, w' = ((w.alloc o1).alloc o2).alloc o3 := by
  go_enter Try.func88, Try.ntmps88
  go_wp2
  refine bodyPost_ret (v := .agg #[.int .i64 a, .int .i64 b, .int .i64 c, .int .i64 d]) ?_ rfl ⟨rfl, _, _, _, rfl⟩
  rw [results_one rfl]; go_simp
end Go.Proofs.Ytnmddmmmgdfknaa

namespace Go.Proofs.Ytnmddmmmgdfknaa.Pl
set_option linter.unusedVariables false

/-- the highest bit -/
def hi (s v : Int) : Int := if top s / 2 ≤ v then 1 else 0
/-- what falls out -/
def fell (k s v : Int) : Int := if k % 2 = 0 then hi s v else v % 2
/-- what comes in -/
def inn (k s x v : Int) : Int := if k = 1 then hi s v else if k = 4 ∨ k = 5 then fell k s v else if 6 ≤ k then x else 0
def nv (k s x v : Int) : Int := if k % 2 = 0 then v * 2 % top s + inn k s x v else v / 2 + inn k s x v * (top s / 2)
def nx (k s x v : Int) : Int := if k = 4 ∨ k = 5 then x else fell k s v
def vfl (k s x v : Int) : Bool := decide (k = 0) && (hi s v != hi s (nv k s x v))
def zn (s v : Int) : Int := fl (v == 0) 4 + fl (decide (top s / 2 ≤ v)) 8
def onF (k s x v : Int) : Int := fell k s v + fl (vfl k s x v) 2 + zn s (nv k s x v) + 16 * nx k s x v

/-- a value and the kept bit, one place on -/
def stp (k s : Int) (p : Int × Int) : Int × Int := (nv k s p.2 p.1, nx k s p.2 p.1)
/-- a value of a size and a kept bit -/
def Fit (s : Int) (p : Int × Int) : Prop := (s = 1 ∨ s = 2) ∧ 0 ≤ p.1 ∧ p.1 < top s ∧ 0 ≤ p.2 ∧ p.2 ≤ 1

theorem hi_bd (s v : Int) : 0 ≤ hi s v ∧ hi s v ≤ 1 := by unfold hi; split <;> omega
theorem fell_bd (k s v : Int) : 0 ≤ fell k s v ∧ fell k s v ≤ 1 := by
  have := hi_bd s v
  unfold fell; split <;> omega
theorem inn_bd (k s x v : Int) (x0 : 0 ≤ x) (x1 : x ≤ 1) : 0 ≤ inn k s x v ∧ inn k s x v ≤ 1 := by
  have := hi_bd s v
  have := fell_bd k s v
  unfold inn; repeat' split
  all_goals omega
theorem nx_bd (k s x v : Int) (x0 : 0 ≤ x) (x1 : x ≤ 1) : 0 ≤ nx k s x v ∧ nx k s x v ≤ 1 := by
  have := fell_bd k s v
  unfold nx; split <;> omega
theorem top12 {s : Int} (h : s = 1 ∨ s = 2) : (s = 1 ∧ top s = 256) ∨ (s = 2 ∧ top s = 65536) := by
  rcases h with rfl | rfl
  · exact .inl ⟨rfl, rfl⟩
  · exact .inr ⟨rfl, rfl⟩
theorem stp_fit {k s : Int} {p : Int × Int} (h : Fit s p) : Fit s (stp k s p) := by
  obtain ⟨hs, v0, v1, x0, x1⟩ := h
  have i := inn_bd k s p.2 p.1 x0 x1
  have n := nx_bd k s p.2 p.1 x0 x1
  refine ⟨hs, ?_, ?_, n.1, n.2⟩
  all_goals
    unfold stp nv
    rcases top12 hs with ⟨_, e⟩ | ⟨_, e⟩
    all_goals
      simp only [e] at v1 ⊢
      generalize inn k s p.2 p.1 = q at i
      split
      · omega
      · have : q = 0 ∨ q = 1 := by omega
        rcases this with rfl | rfl <;> omega
/-! ### what a call answers -/
def goodK (k s f v : Int) : Bool := (decide (0 ≤ k) && decide (k ≤ 7)) && (okv s v && flags f)
def onceV (k s f v : Int) : Int := if goodK k s f v = true then nv k s (f / 16) v else 0
def onceF (k s f v : Int) : Int := if goodK k s f v = true then onF k s (f / 16) v else 0
def kin (k : Int) : Bool := decide (0 ≤ k) && decide (k ≤ 7)
theorem okv_size {s v : Int} (h : okv s v = true) : s = 1 ∨ s = 2 := by
  simp [okv] at h
  exact h.1
theorem goodK_ok {k s f v : Int} (h : goodK k s f v = true) : 0 ≤ k ∧ k ≤ 7 ∧ okv s v = true ∧ 0 ≤ f ∧ f ≤ 31 ∧ Fit s (v, f / 16) := by
  simp only [goodK, Bool.and_eq_true, decide_eq_true_eq] at h
  obtain ⟨⟨k0, k1⟩, ho, hf⟩ := h
  obtain ⟨f0, f1⟩ := flags_ok hf
  have ht := top_ok ho
  exact ⟨k0, k1, ho, f0, f1, okv_size ho, ht.2.1, ht.2.2, by show 0 ≤ f / 16; omega, by show f / 16 ≤ 1; omega⟩
end Go.Proofs.Ytnmddmmmgdfknaa.Pl

namespace Go.Proofs.Ytnmddmmmgdfknaa.Pl
set_option linter.unusedVariables false
structure Fo where
  k : Int
  z : Int
  a : Int
  b : Int
def foNo : Fo := ⟨0, 0, 0, 0⟩
def foNone (x : Fo) : Bool := (x.k == 0) && ((x.z == 0) && ((x.a == 0) && (x.b == 0)))
def foSame (x y : Fo) : Bool := (x.k == y.k) && ((x.z == y.z) && ((x.a == y.a) && (x.b == y.b)))
def sumK (k : Int) : Bool := (k == 1) || (k == 2)
def foOk (x : Fo) : Bool := (okv x.z x.a && okv x.z x.b) && ((decide (1 ≤ x.k) && decide (x.k ≤ 5)) && (decide (x.k ≤ 3) || (x.b == 0)))
/-- what an operation makes of flags -/
def mk (f : Int) (x : Fo) : Int :=
  if x.k = 1 then addF x.z 0 x.a x.b else if x.k = 2 then subF x.z 0 x.a x.b else if x.k = 3 then cmpF x.z f x.a x.b
  else if x.k = 4 then logF x.z f x.a else if x.k = 5 then onceF 4 x.z f x.a else f
/-- a note -/
structure Lz where
  b : Int
  l : Fo
  r : Fo
def lzOk (z : Lz) : Bool := flags z.b && (bif foNone z.l then foNone z.r else foOk z.l && (bif sumK z.l.k then foSame z.r z.l else foNone z.r || (sumK z.r.k && foOk z.r)))
def lzF (z : Lz) : Int := mk (mk z.b z.r) z.l
def lzV (z : Lz) : Int := if lzOk z = true then lzF z else 0
def note (z : Lz) (x : Fo) : Lz := ⟨z.b, x, if sumK x.k = true then x else z.r⟩
theorem foOk_ok {x : Fo} (h : foOk x = true) : okv x.z x.a = true ∧ okv x.z x.b = true ∧ 1 ≤ x.k ∧ x.k ≤ 5 ∧ two x.z 0 x.a x.b = true := by
  simp only [foOk, Bool.and_eq_true, decide_eq_true_eq] at h
  exact ⟨h.1.1, h.1.2, h.2.1.1, h.2.1.2, by simp [two, h.1.1, h.1.2, bit]⟩
theorem foOk_bd {x : Fo} (h : foOk x = true) : 0 ≤ x.a ∧ x.a < 65536 ∧ 0 ≤ x.b ∧ x.b < 65536 := by
  obtain ⟨h1, h2, _⟩ := foOk_ok h
  have := top_ok h1
  have := top_ok h2
  omega
theorem foNone_ok {x : Fo} (h : foNone x = true) : x = foNo := by
  obtain ⟨k, z, a, b⟩ := x
  simp [foNone] at h
  obtain ⟨rfl, rfl, rfl, rfl⟩ := h
  rfl
theorem foNone_no {x : Fo} (h : foOk x = true) : foNone x = false := by
  cases q : foNone x
  · rfl
  · rw [foNone_ok q] at h; exact absurd h (by decide)
theorem foSame_ok {x y : Fo} (h : foSame x y = true) : x = y := by
  obtain ⟨k, z, a, b⟩ := x
  obtain ⟨k', z', a', b'⟩ := y
  simp [foSame] at h
  obtain ⟨rfl, rfl, rfl, rfl⟩ := h
  rfl
theorem foSame_self (x : Fo) : foSame x x = true := by simp [foSame]
theorem foSame_comm (x y : Fo) : foSame x y = foSame y x := by
  rw [Bool.eq_iff_iff]
  constructor <;> intro h <;> rw [foSame_ok h] <;> exact foSame_self _
theorem mk_no (f : Int) : mk f foNo = f := by simp [mk, foNo]
theorem mk_none {x : Fo} (h : foNone x = true) (f : Int) : mk f x = f := by rw [foNone_ok h]; exact mk_no f
theorem mk_sum {x : Fo} (h : sumK x.k = true) (f g : Int) : mk f x = mk g x := by
  simp [sumK] at h
  rcases h with h | h <;> simp [mk, h]
/- flags stay flags -/
theorem flags_nat {f : Int} (h : flags f = true) : ∃ n : Nat, n < 32 ∧ f = (n : Int) := by
  have := flags_ok h
  exact ⟨f.toNat, by omega, by omega⟩
theorem low_high : ∀ t : Nat, t < 32 → ∀ f : Nat, f < 32 → bits .or .i64 (bits .and .i64 (t : Int) 15) (bits .and .i64 (f : Int) 16) = (t : Int) % 16 + 16 * ((f : Int) / 16) := by decide +kernel
theorem log_high : ∀ z n : Bool, ∀ f : Nat, f < 32 → bits .or .i64 (bits .and .i64 (f : Int) 16) (bits .or .i64 (fl z 4) (fl n 8)) = fl z 4 + fl n 8 + 16 * ((f : Int) / 16) := by decide +kernel
theorem addF_bq (s x a b : Int) : 0 ≤ addF s x a b ∧ addF s x a b ≤ 31 := by
  unfold addF; split
  · exact keptF_bd _ _ _
  · omega
theorem cmp_form {s f a b : Int} (h : two s 0 a b = true) (hf : flags f = true) : cmpF s f a b = subF s 0 a b % 16 + 16 * (f / 16) := by
  obtain ⟨n, hn, rfl⟩ := flags_nat hf
  have hb := subF_bd s 0 a b
  obtain ⟨t, ht⟩ := Int.eq_ofNat_of_zero_le hb.1
  unfold cmpF
  rw [h, hf, ht, Bool.and_self, if_pos rfl]
  exact low_high t (by omega) n hn
theorem log_form {s f a : Int} (h : okv s a = true) (hf : flags f = true) : logF s f a = fl (a == 0) 4 + fl (decide (sg s a < 0)) 8 + 16 * (f / 16) := by
  obtain ⟨n, hn, rfl⟩ := flags_nat hf
  unfold logF
  rw [h, hf, Bool.and_self, if_pos rfl]
  exact log_high _ _ n hn
theorem once_form {s f a : Int} (h : okv s a = true) (hf : flags f = true) : onceF 4 s f a = fell 4 s a + zn s (nv 4 s (f / 16) a) + 16 * (f / 16) := by
  have hg : goodK 4 s f a = true := by simp [goodK, h, hf]
  unfold onceF onF
  rw [if_pos hg]
  simp [vfl, nx, fl]
theorem nv4 (s x y v : Int) : nv 4 s x v = nv 4 s y v := by simp [nv, inn]
theorem fl_bq (b : Bool) (n : Int) (h : 0 ≤ n) : 0 ≤ fl b n ∧ fl b n ≤ n := by cases b <;> simp [fl, h]
theorem zn_bq (s v : Int) : 0 ≤ zn s v ∧ zn s v ≤ 12 := by
  have h1 := fl_bq (v == 0) 4 (by omega)
  have h2 := fl_bq (decide (top s / 2 ≤ v)) 8 (by omega)
  unfold zn; omega
/-- what no sum is leaves the last of the five as it was, and looks at no other one -/
theorem mk_high {x : Fo} (h : foOk x = true) (hs : sumK x.k = false) {f : Int} (hf : flags f = true) : ∃ m : Int, 0 ≤ m ∧ m ≤ 15 ∧ ∀ g, flags g = true → mk g x = m + 16 * (g / 16) := by
  obtain ⟨h1, h2, h3, h4, h5⟩ := foOk_ok h
  have hk : x.k = 3 ∨ x.k = 4 ∨ x.k = 5 := by
    simp [sumK] at hs; omega
  rcases hk with hk | hk | hk
  · have hb := subF_bd x.z 0 x.a x.b
    refine ⟨subF x.z 0 x.a x.b % 16, by omega, by omega, fun g hg => ?_⟩
    simp [mk, hk, cmp_form h5 hg]
  · have q1 := fl_bq (x.a == 0) 4 (by omega)
    have q2 := fl_bq (decide (sg x.z x.a < 0)) 8 (by omega)
    refine ⟨fl (x.a == 0) 4 + fl (decide (sg x.z x.a < 0)) 8, by omega, by omega, fun g hg => ?_⟩
    simp only [mk, hk]
    simp only [show ¬ (4 : Int) = 1 from by decide, show ¬ (4 : Int) = 2 from by decide, show ¬ (4 : Int) = 3 from by decide, if_false, if_true]
    exact log_form h1 hg
  · have q1 := fell_bd 4 x.z x.a
    have q2 := zn_bq x.z (nv 4 x.z 0 x.a)
    refine ⟨fell 4 x.z x.a + zn x.z (nv 4 x.z 0 x.a), by omega, by omega, fun g hg => ?_⟩
    simp only [mk, hk]
    simp only [show ¬ (5 : Int) = 1 from by decide, show ¬ (5 : Int) = 2 from by decide, show ¬ (5 : Int) = 3 from by decide, show ¬ (5 : Int) = 4 from by decide, if_false, if_true]
    rw [once_form h1 hg, nv4 x.z (g / 16) 0]
theorem flags_mk {x : Fo} (h : foOk x = true) {f : Int} (hf : flags f = true) : flags (mk f x) = true := by
  cases hs : sumK x.k
  · obtain ⟨m, m0, m1, hm⟩ := mk_high h hs hf
    rw [hm f hf]
    have := flags_ok hf
    simp [flags]; omega
  · simp [sumK] at hs
    have q1 := addF_bq x.z 0 x.a x.b
    have q2 := subF_bd x.z 0 x.a x.b
    rcases hs with hs | hs <;> simp [mk, hs, flags] <;> omega
theorem flags_mk0 {x : Fo} (h : foNone x = true ∨ foOk x = true) {f : Int} (hf : flags f = true) : flags (mk f x) = true := by
  rcases h with h | h
  · rw [mk_none h]; exact hf
  · exact flags_mk h hf
theorem lz_parts {z : Lz} (h : lzOk z = true) : flags z.b = true ∧ (foNone z.l = true ∨ foOk z.l = true) ∧ (foNone z.r = true ∨ foOk z.r = true) := by
  simp only [lzOk, Bool.and_eq_true] at h
  obtain ⟨h1, h2⟩ := h
  cases q : foNone z.l
  · rw [q] at h2
    simp only [cond_false, Bool.and_eq_true] at h2
    refine ⟨h1, .inr h2.1, ?_⟩
    cases q2 : sumK z.l.k
    · rw [q2] at h2
      have := h2.2
      simp only [cond_false, Bool.or_eq_true, Bool.and_eq_true] at this
      rcases this with h | h
      · exact .inl h
      · exact .inr h.2
    · rw [q2] at h2
      have := foSame_ok h2.2
      rw [this]; exact .inr h2.1
  · rw [q] at h2
    exact ⟨h1, .inl rfl, .inl h2⟩
theorem lzF_flags {z : Lz} (h : lzOk z = true) : flags (lzF z) = true := by
  obtain ⟨h1, h2, h3⟩ := lz_parts h
  exact flags_mk0 h2 (flags_mk0 h3 h1)
end Go.Proofs.Ytnmddmmmgdfknaa.Pl
namespace Go.Proofs.Ytnmddmmmgdfknaa
abbrev foA (x : Pl.Fo) : Array Value := #[iv x.k, iv x.z, iv x.a, iv x.b]
abbrev lzA (z : Pl.Lz) : Array Value := #[iv z.b, iv z.l.k, iv z.l.z, iv z.l.a, iv z.l.b, iv z.r.k, iv z.r.z, iv z.r.a, iv z.r.b]
/-- numbers that an int holds -/
structure FoW (x : Pl.Fo) : Prop where
  k : (Lit.int .i64 x.k).wf = true
  z : (Lit.int .i64 x.z).wf = true
  a : (Lit.int .i64 x.a).wf = true
  b : (Lit.int .i64 x.b).wf = true
structure LzW (z : Pl.Lz) : Prop where
  b : (Lit.int .i64 z.b).wf = true
  l : FoW z.l
  r : FoW z.r
end Go.Proofs.Ytnmddmmmgdfknaa

namespace Go.Proofs.Ytnmddmmmgdfknaa
open Go.RowKit
set_option linter.unusedVariables false
set_option maxRecDepth 100000 in
set_option maxHeartbeats 4000000 in
theorem toLz (w : World) (z : Pl.Lz) : Calls Try.prog 46 #[.agg (lzA z)] w fun e w' => e = .returned (.agg (lzA z)) ∧ Kept 0 0 w w' := by
  go_enter Try.func46, Try.ntmps46
  go_wp2_with (go_at_call 88; (first | (with_reducible refine (toFlagOp z.l.k z.l.z z.l.a z.l.b _).mono ?_) | (with_reducible refine (toFlagOp z.r.k z.r.z z.r.a z.r.b _).mono ?_)); rintro e9 w9 ⟨rfl, o1, o2, o3, rfl⟩)
  refine bodyPost_ret (v := .agg (lzA z)) ?_ rfl ⟨rfl, ?_⟩
  · rw [results_one rfl]; go_simp
  · repeat (first | with_reducible exact Kept.refl _ _ _ | refine kept_new ?_ _ | refine kept_set ?_ _ _ _ (.inr (by simp)))
end Go.Proofs.Ytnmddmmmgdfknaa

namespace Go.Proofs.Ytnmddmmmgdfknaa
open Go.RowKit
set_option linter.unusedVariables false

theorem l1Size_no (s : Int) (w : World) (h1 : ¬ s = 1) (h2 : ¬ s = 2) : Calls Try.prog 110 #[iv s] w fun e w' => e = .returned (.bool false) ∧ w' = w := by
  have k1 : (s == 1) = false := by simpa using h1
  have k2 : (s == 2) = false := by simpa using h2
  go_enter Try.func110, Try.ntmps110
  go_wp2
  go_ret
  exact ⟨rfl, rfl⟩

theorem l1Size1 (w : World) : Calls Try.prog 110 #[iv 1] w fun e w' => e = .returned (.bool true) ∧ w' = w := by
  go_enter Try.func110, Try.ntmps110
  go_wp2
  go_ret
  exact ⟨rfl, rfl⟩

theorem l1Size2 (w : World) : Calls Try.prog 110 #[iv 2] w fun e w' => e = .returned (.bool true) ∧ w' = w := by
  go_enter Try.func110, Try.ntmps110
  go_wp2
  go_ret
  exact ⟨rfl, rfl⟩
end Go.Proofs.Ytnmddmmmgdfknaa

namespace Go.Proofs.Ytnmddmmmgdfknaa
open Go.RowKit
set_option linter.unusedVariables false

theorem l1Top1 (w : World) : Calls Try.prog 109 #[iv 1] w fun e w' => e = .returned (iv 256) ∧ w' = w := by
  go_enter Try.func109, Try.ntmps109
  go_wp2
  go_ret
  exact ⟨rfl, rfl⟩

theorem l1Top2 (w : World) : Calls Try.prog 109 #[iv 2] w fun e w' => e = .returned (iv 65536) ∧ w' = w := by
  go_enter Try.func109, Try.ntmps109
  go_wp2
  go_ret
  exact ⟨rfl, rfl⟩

theorem l1Value (s v : Int) (w : World) :
    Calls Try.prog 70 #[iv s, iv v] w fun e w' => e = .returned (.bool (Pl.okv s v)) ∧ w' = w := by
  by_cases h1 : s = 1
  · subst h1
    go_enter Try.func70, Try.ntmps70
    go_wp2_with fail
    refine (l1Size1 _).mono ?_
    rintro e w' ⟨rfl, rfl⟩
    go_wp2_with fail
    refine (l1Top1 _).mono ?_
    rintro e w' ⟨rfl, rfl⟩
    go_wp2_with fail
    refine (l1In _ _ _ _).mono ?_
    rintro e w' ⟨rfl, rfl⟩
    go_wp2_with fail
    go_ret
    exact ⟨rB (by rw [Bool.eq_iff_iff]; simp [Pl.okv, Pl.top]; omega), rfl⟩
  · by_cases h2 : s = 2
    · subst h2
      go_enter Try.func70, Try.ntmps70
      go_wp2_with fail
      refine (l1Size2 _).mono ?_
      rintro e w' ⟨rfl, rfl⟩
      go_wp2_with fail
      refine (l1Top2 _).mono ?_
      rintro e w' ⟨rfl, rfl⟩
      go_wp2_with fail
      refine (l1In _ _ _ _).mono ?_
      rintro e w' ⟨rfl, rfl⟩
      go_wp2_with fail
      go_ret
      exact ⟨rB (by rw [Bool.eq_iff_iff]; simp [Pl.okv, Pl.top]; omega), rfl⟩
    · go_enter Try.func70, Try.ntmps70
      go_wp2_with fail
      refine (l1Size_no s _ h1 h2).mono ?_
      rintro e w' ⟨rfl, rfl⟩
      go_wp2_with fail
      go_ret
      exact ⟨rB (by simp [Pl.okv, h1, h2]), rfl⟩

end Go.Proofs.Ytnmddmmmgdfknaa

namespace Go.Proofs.Ytnmddmmmgdfknaa
open Go.RowKit
set_option linter.unusedVariables false

theorem l1Flag (b : Bool) (f : Int) (w : World) :
    Calls Try.prog 108 #[.bool b, iv f] w fun e w' => e = .returned (iv (Pl.fl b f)) ∧ w' = w := by
  cases b
  all_goals
    go_enter Try.func108, Try.ntmps108
    go_wp2
    go_ret
    exact ⟨rfl, rfl⟩

theorem l1Zn1 (v : Int) (w : World) :
    Calls Try.prog 107 #[iv 1, iv v] w fun e w' => e = .returned (iv (bits .or .i64 (Pl.fl (v == 0) 4) (Pl.fl (decide (128 ≤ v)) 8))) ∧ w' = w := by
  go_enter Try.func107, Try.ntmps107
  go_wp2_with fail
  refine (l1Flag _ _ _).mono ?_
  rintro e w' ⟨rfl, rfl⟩
  go_wp2_with fail
  refine (l1Top1 _).mono ?_
  rintro e w' ⟨rfl, rfl⟩
  go_wp2_with fail
  refine (l1Flag _ _ _).mono ?_
  rintro e w' ⟨rfl, rfl⟩
  go_wp2_with fail
  go_ret
  exact ⟨rfl, rfl⟩

theorem l1Zn2 (v : Int) (w : World) :
    Calls Try.prog 107 #[iv 2, iv v] w fun e w' => e = .returned (iv (bits .or .i64 (Pl.fl (v == 0) 4) (Pl.fl (decide (32768 ≤ v)) 8))) ∧ w' = w := by
  go_enter Try.func107, Try.ntmps107
  go_wp2_with fail
  refine (l1Flag _ _ _).mono ?_
  rintro e w' ⟨rfl, rfl⟩
  go_wp2_with fail
  refine (l1Top2 _).mono ?_
  rintro e w' ⟨rfl, rfl⟩
  go_wp2_with fail
  refine (l1Flag _ _ _).mono ?_
  rintro e w' ⟨rfl, rfl⟩
  go_wp2_with fail
  go_ret
  exact ⟨rfl, rfl⟩

theorem l1Flags (f : Int) (w : World) :
    Calls Try.prog 74 #[iv f] w fun e w' => e = .returned (.bool (Pl.flags f)) ∧ w' = w := by
  go_enter Try.func74, Try.ntmps74
  go_wp2_with fail
  refine (l1In f 0 31 _).mono ?_
  rintro e w' ⟨rfl, rfl⟩
  go_wp2_with fail
  go_ret
  exact ⟨rfl, rfl⟩

end Go.Proofs.Ytnmddmmmgdfknaa

namespace Go.Proofs.Ytnmddmmmgdfknaa
open Go.RowKit
set_option linter.unusedVariables false
set_option linter.unusedSimpArgs false

theorem Pl.and16 {f : Int} (h0 : 0 ≤ f) (h1 : f ≤ 31) : bits .and .i64 f 16 = f / 16 * 16 := by
  obtain ⟨n, rfl⟩ := Int.eq_ofNat_of_zero_le h0
  have hn : n < 32 := by omega
  have : ∀ m : Nat, m < 32 → bits .and .i64 (m : Int) 16 = (m : Int) / 16 * 16 := by decide
  exact this n hn
theorem Pl.or_low {a q : Int} (h0 : 0 ≤ a) (h1 : a < 65536) (h2 : a % 2 = 0) (q0 : 0 ≤ q) (q1 : q ≤ 1) : bits .or .i64 a q = a + q :=
  bits_join .i64 62 (by decide) wraps_i64 1 a q (by omega) (by omega) (by omega) (by omega) (by omega) (by omega)
theorem Pl.or_high1 {a q : Int} (h0 : 0 ≤ a) (h1 : a < 128) (q0 : 0 ≤ q) (q1 : q ≤ 1) : bits .or .i64 a (q * 128) = a + q * 128 := by
  rw [Pl.or_comm, bits_join .i64 62 (by decide) wraps_i64 7 (q * 128) a (by omega) (by omega) (by omega) (by omega) (by omega) (by omega)]; omega
theorem Pl.or_high2 {a q : Int} (h0 : 0 ≤ a) (h1 : a < 32768) (q0 : 0 ≤ q) (q1 : q ≤ 1) : bits .or .i64 a (q * 32768) = a + q * 32768 := by
  rw [Pl.or_comm, bits_join .i64 62 (by decide) wraps_i64 15 (q * 32768) a (by omega) (by omega) (by omega) (by omega) (by omega) (by omega)]; omega
theorem Pl.or_flags {c o x : Int} {z n : Bool} (hc : c = 0 ∨ c = 1) (ho : o = 0 ∨ o = 2) (hx : x = 0 ∨ x = 16) :
    bits .or .i64 (bits .or .i64 (bits .or .i64 c (bits .or .i64 (Pl.fl z 4) (Pl.fl n 8))) o) x = c + o + (Pl.fl z 4 + Pl.fl n 8) + x := by
  rcases hc with rfl | rfl <;> rcases ho with rfl | rfl <;> rcases hx with rfl | rfl <;> cases z <;> cases n <;> decide
theorem Pl.fl_two (b : Bool) : Pl.fl b 2 = 0 ∨ Pl.fl b 2 = 2 := by cases b <;> simp [Pl.fl]

theorem l1FlagH1 (v : Int) (w : World) : Calls Try.prog 108 #[.bool (decide (128 ≤ v)), iv 1] w fun e w' => e = .returned (iv (Pl.hi 1 v)) ∧ w' = w := by
  have e : Pl.hi 1 v = Pl.fl (decide (128 ≤ v)) 1 := by simp [Pl.hi, Pl.fl, Pl.top]
  rw [e]; exact l1Flag _ 1 w
theorem l1FlagH2 (v : Int) (w : World) : Calls Try.prog 108 #[.bool (decide (32768 ≤ v)), iv 1] w fun e w' => e = .returned (iv (Pl.hi 2 v)) ∧ w' = w := by
  have e : Pl.hi 2 v = Pl.fl (decide (32768 ≤ v)) 1 := by simp [Pl.hi, Pl.fl, Pl.top]
  rw [e]; exact l1Flag _ 1 w
theorem l1FlagX (f : Int) (f0 : 0 ≤ f) (f1 : f ≤ 31) (w : World) : Calls Try.prog 108 #[.bool (f / 16 * 16 != 0), iv 1] w fun e w' => e = .returned (iv (f / 16)) ∧ w' = w := by
  refine (l1Flag _ 1 w).mono ?_
  rintro e w' ⟨rfl, rfl⟩
  refine ⟨rI ?_, rfl⟩
  obtain h | h : f / 16 = 0 ∨ f / 16 = 1 := by omega
  all_goals rw [h]; decide

theorem l3Left (k : Int) (w : World) : Calls Try.prog 64 #[iv k] w fun e w' => e = .returned (.bool (k % 2 == 0)) ∧ w' = w := by
  have h := Pl.and1 k
  go_enter Try.func64, Try.ntmps64
  go_wp2
  go_ret
  exact ⟨rfl, rfl⟩
theorem l3LeftT (k : Int) (h : (k % 2 == 0) = true) (w : World) : Calls Try.prog 64 #[iv k] w fun e w' => e = .returned (.bool true) ∧ w' = w := by
  rw [← h]; exact l3Left k w
theorem l3LeftF (k : Int) (h : (k % 2 == 0) = false) (w : World) : Calls Try.prog 64 #[iv k] w fun e w' => e = .returned (.bool false) ∧ w' = w := by
  rw [← h]; exact l3Left k w

theorem l3Once01 (f v : Int) (w : World) (f0 : 0 ≤ f) (f1 : f ≤ 31) (v0 : 0 ≤ v) (v1 : v < 256) :
    Calls Try.prog 61 #[iv 0, iv 1, iv f, iv v] w fun e w' => e = .returned (.tuple #[iv (Pl.nv 0 1 (f / 16) v), iv (Pl.onF 0 1 (f / 16) v)]) ∧ w' = w := by
  have hA := Pl.and1 v
  have hB := Pl.and16 f0 f1
  obtain ⟨q0, q1⟩ := Pl.hi_bd 1 v
  have hC := Pl.and255 (v * 2)
  have hD := Pl.or_low (a := v * 2 % 256) (q := 0) (by omega) (by omega) (by omega) (by omega) (by omega)
  rw [Int.add_zero] at hD
  have hW : Hid (Pl.nv 0 1 (f / 16) v = (v * 2 % 256)) := hide (by simp only [Pl.nv, Pl.inn, Pl.fell, Pl.top, Int.reduceMod, Int.reduceEq, Int.reduceLE, if_true, if_false, or_self] <;> omega)
  have hO : Hid (Pl.onF 0 1 (f / 16) v = Pl.hi 1 v + Pl.fl (Pl.hi 1 v != Pl.hi 1 (v * 2 % 256)) 2 + (Pl.fl ((v * 2 % 256) == 0) 4 + Pl.fl (decide (128 ≤ (v * 2 % 256))) 8) + Pl.hi 1 v * 16) := hide (by simp only [Pl.onF, Pl.vfl, hW.out, Pl.zn, Pl.nx, Pl.fell, Pl.top, Int.reduceMod, Int.reduceEq, Int.reduceDiv, if_true, if_false, decide_true, Bool.true_and, or_self] <;> omega)
  go_enter Try.func61, Try.ntmps61
  go_wp2_with fail
  refine (l1Top1 _).mono ?_
  rintro e w' ⟨rfl, rfl⟩
  go_wp2_with fail
  refine (l1FlagH1 _ _).mono ?_
  rintro e w' ⟨rfl, rfl⟩
  go_wp2_with fail
  refine (l3LeftT 0 rfl _).mono ?_
  rintro e w' ⟨rfl, rfl⟩
  go_wp2_with fail
  refine (l3LeftT 0 rfl _).mono ?_
  rintro e w' ⟨rfl, rfl⟩
  go_wp2_with fail
  refine (l1Zn1 _ _).mono ?_
  rintro e w' ⟨rfl, rfl⟩
  go_wp2_with fail
  refine (l1FlagH1 _ _).mono ?_
  rintro e w' ⟨rfl, rfl⟩
  go_wp2_with fail
  refine (l1Flag _ _ _).mono ?_
  rintro e w' ⟨rfl, rfl⟩
  go_wp2_with fail
  go_ret2
  exact ⟨rII hW.out.symm (by rw [Pl.or_flags (by omega) (Pl.fl_two _) (by omega)]; exact hO.out.symm), rfl⟩

theorem l3Once11 (f v : Int) (w : World) (f0 : 0 ≤ f) (f1 : f ≤ 31) (v0 : 0 ≤ v) (v1 : v < 256) :
    Calls Try.prog 61 #[iv 1, iv 1, iv f, iv v] w fun e w' => e = .returned (.tuple #[iv (Pl.nv 1 1 (f / 16) v), iv (Pl.onF 1 1 (f / 16) v)]) ∧ w' = w := by
  have hA := Pl.and1 v
  have hB := Pl.and16 f0 f1
  obtain ⟨q0, q1⟩ := Pl.hi_bd 1 v
  have hD := Pl.or_high1 (a := v / 2) (q := Pl.hi 1 v) (by omega) (by omega) (by omega) (by omega)
  have hW : Hid (Pl.nv 1 1 (f / 16) v = (v / 2 + Pl.hi 1 v * 128)) := hide (by simp only [Pl.nv, Pl.inn, Pl.fell, Pl.top, Int.reduceMod, Int.reduceEq, Int.reduceLE, if_true, if_false] <;> omega)
  have hO : Hid (Pl.onF 1 1 (f / 16) v = v % 2 + Pl.fl false 2 + (Pl.fl ((v / 2 + Pl.hi 1 v * 128) == 0) 4 + Pl.fl (decide (128 ≤ (v / 2 + Pl.hi 1 v * 128))) 8) + v % 2 * 16) := hide (by simp only [Pl.onF, Pl.vfl, hW.out, Pl.zn, Pl.nx, Pl.fell, Pl.top, Int.reduceMod, Int.reduceEq, Int.reduceDiv, if_true, if_false, decide_false, Bool.false_and, or_self] <;> omega)
  go_enter Try.func61, Try.ntmps61
  go_wp2_with fail
  refine (l1Top1 _).mono ?_
  rintro e w' ⟨rfl, rfl⟩
  go_wp2_with fail
  refine (l1FlagH1 _ _).mono ?_
  rintro e w' ⟨rfl, rfl⟩
  go_wp2_with fail
  refine (l3LeftF 1 rfl _).mono ?_
  rintro e w' ⟨rfl, rfl⟩
  go_wp2_with fail
  refine (l3LeftF 1 rfl _).mono ?_
  rintro e w' ⟨rfl, rfl⟩
  go_wp2_with fail
  refine (l1Zn1 _ _).mono ?_
  rintro e w' ⟨rfl, rfl⟩
  go_wp2_with fail
  refine (l1Flag _ _ _).mono ?_
  rintro e w' ⟨rfl, rfl⟩
  go_wp2_with fail
  go_ret2
  exact ⟨rII hW.out.symm (by rw [Pl.or_flags (by omega) (Pl.fl_two _) (by omega)]; exact hO.out.symm), rfl⟩

theorem l3Once21 (f v : Int) (w : World) (f0 : 0 ≤ f) (f1 : f ≤ 31) (v0 : 0 ≤ v) (v1 : v < 256) :
    Calls Try.prog 61 #[iv 2, iv 1, iv f, iv v] w fun e w' => e = .returned (.tuple #[iv (Pl.nv 2 1 (f / 16) v), iv (Pl.onF 2 1 (f / 16) v)]) ∧ w' = w := by
  have hA := Pl.and1 v
  have hB := Pl.and16 f0 f1
  obtain ⟨q0, q1⟩ := Pl.hi_bd 1 v
  have hC := Pl.and255 (v * 2)
  have hD := Pl.or_low (a := v * 2 % 256) (q := 0) (by omega) (by omega) (by omega) (by omega) (by omega)
  rw [Int.add_zero] at hD
  have hW : Hid (Pl.nv 2 1 (f / 16) v = (v * 2 % 256)) := hide (by simp only [Pl.nv, Pl.inn, Pl.fell, Pl.top, Int.reduceMod, Int.reduceEq, Int.reduceLE, if_true, if_false, or_self] <;> omega)
  have hO : Hid (Pl.onF 2 1 (f / 16) v = Pl.hi 1 v + Pl.fl false 2 + (Pl.fl ((v * 2 % 256) == 0) 4 + Pl.fl (decide (128 ≤ (v * 2 % 256))) 8) + Pl.hi 1 v * 16) := hide (by simp only [Pl.onF, Pl.vfl, hW.out, Pl.zn, Pl.nx, Pl.fell, Pl.top, Int.reduceMod, Int.reduceEq, Int.reduceDiv, if_true, if_false, decide_false, Bool.false_and, or_self] <;> omega)
  go_enter Try.func61, Try.ntmps61
  go_wp2_with fail
  refine (l1Top1 _).mono ?_
  rintro e w' ⟨rfl, rfl⟩
  go_wp2_with fail
  refine (l1FlagH1 _ _).mono ?_
  rintro e w' ⟨rfl, rfl⟩
  go_wp2_with fail
  refine (l3LeftT 2 rfl _).mono ?_
  rintro e w' ⟨rfl, rfl⟩
  go_wp2_with fail
  refine (l3LeftT 2 rfl _).mono ?_
  rintro e w' ⟨rfl, rfl⟩
  go_wp2_with fail
  refine (l1Zn1 _ _).mono ?_
  rintro e w' ⟨rfl, rfl⟩
  go_wp2_with fail
  refine (l1Flag _ _ _).mono ?_
  rintro e w' ⟨rfl, rfl⟩
  go_wp2_with fail
  go_ret2
  exact ⟨rII hW.out.symm (by rw [Pl.or_flags (by omega) (Pl.fl_two _) (by omega)]; exact hO.out.symm), rfl⟩

theorem l3Once31 (f v : Int) (w : World) (f0 : 0 ≤ f) (f1 : f ≤ 31) (v0 : 0 ≤ v) (v1 : v < 256) :
    Calls Try.prog 61 #[iv 3, iv 1, iv f, iv v] w fun e w' => e = .returned (.tuple #[iv (Pl.nv 3 1 (f / 16) v), iv (Pl.onF 3 1 (f / 16) v)]) ∧ w' = w := by
  have hA := Pl.and1 v
  have hB := Pl.and16 f0 f1
  obtain ⟨q0, q1⟩ := Pl.hi_bd 1 v
  have hD := Pl.or_high1 (a := v / 2) (q := 0) (by omega) (by omega) (by omega) (by omega)
  rw [Int.zero_mul, Int.add_zero] at hD
  have hW : Hid (Pl.nv 3 1 (f / 16) v = (v / 2)) := hide (by simp only [Pl.nv, Pl.inn, Pl.fell, Pl.top, Int.reduceMod, Int.reduceEq, Int.reduceLE, if_true, if_false, or_self] <;> omega)
  have hO : Hid (Pl.onF 3 1 (f / 16) v = v % 2 + Pl.fl false 2 + (Pl.fl ((v / 2) == 0) 4 + Pl.fl (decide (128 ≤ (v / 2))) 8) + v % 2 * 16) := hide (by simp only [Pl.onF, Pl.vfl, hW.out, Pl.zn, Pl.nx, Pl.fell, Pl.top, Int.reduceMod, Int.reduceEq, Int.reduceDiv, if_true, if_false, decide_false, Bool.false_and, or_self] <;> omega)
  go_enter Try.func61, Try.ntmps61
  go_wp2_with fail
  refine (l1Top1 _).mono ?_
  rintro e w' ⟨rfl, rfl⟩
  go_wp2_with fail
  refine (l1FlagH1 _ _).mono ?_
  rintro e w' ⟨rfl, rfl⟩
  go_wp2_with fail
  refine (l3LeftF 3 rfl _).mono ?_
  rintro e w' ⟨rfl, rfl⟩
  go_wp2_with fail
  refine (l3LeftF 3 rfl _).mono ?_
  rintro e w' ⟨rfl, rfl⟩
  go_wp2_with fail
  refine (l1Zn1 _ _).mono ?_
  rintro e w' ⟨rfl, rfl⟩
  go_wp2_with fail
  refine (l1Flag _ _ _).mono ?_
  rintro e w' ⟨rfl, rfl⟩
  go_wp2_with fail
  go_ret2
  exact ⟨rII hW.out.symm (by rw [Pl.or_flags (by omega) (Pl.fl_two _) (by omega)]; exact hO.out.symm), rfl⟩

theorem l3Once41 (f v : Int) (w : World) (f0 : 0 ≤ f) (f1 : f ≤ 31) (v0 : 0 ≤ v) (v1 : v < 256) :
    Calls Try.prog 61 #[iv 4, iv 1, iv f, iv v] w fun e w' => e = .returned (.tuple #[iv (Pl.nv 4 1 (f / 16) v), iv (Pl.onF 4 1 (f / 16) v)]) ∧ w' = w := by
  have hA := Pl.and1 v
  have hB := Pl.and16 f0 f1
  obtain ⟨q0, q1⟩ := Pl.hi_bd 1 v
  have hC := Pl.and255 (v * 2)
  have hD := Pl.or_low (a := v * 2 % 256) (q := Pl.hi 1 v) (by omega) (by omega) (by omega) (by omega) (by omega)
  have hW : Hid (Pl.nv 4 1 (f / 16) v = (v * 2 % 256 + Pl.hi 1 v)) := hide (by simp only [Pl.nv, Pl.inn, Pl.fell, Pl.top, Int.reduceMod, Int.reduceEq, Int.reduceLE, if_true, if_false, or_false] <;> omega)
  have hO : Hid (Pl.onF 4 1 (f / 16) v = Pl.hi 1 v + Pl.fl false 2 + (Pl.fl ((v * 2 % 256 + Pl.hi 1 v) == 0) 4 + Pl.fl (decide (128 ≤ (v * 2 % 256 + Pl.hi 1 v))) 8) + f / 16 * 16) := hide (by simp only [Pl.onF, Pl.vfl, hW.out, Pl.zn, Pl.nx, Pl.fell, Pl.top, Int.reduceMod, Int.reduceEq, Int.reduceDiv, if_true, if_false, decide_false, Bool.false_and, or_false] <;> omega)
  go_enter Try.func61, Try.ntmps61
  go_wp2_with fail
  refine (l1Top1 _).mono ?_
  rintro e w' ⟨rfl, rfl⟩
  go_wp2_with fail
  refine (l1FlagH1 _ _).mono ?_
  rintro e w' ⟨rfl, rfl⟩
  go_wp2_with fail
  refine (l3LeftT 4 rfl _).mono ?_
  rintro e w' ⟨rfl, rfl⟩
  go_wp2_with fail
  refine (l3LeftT 4 rfl _).mono ?_
  rintro e w' ⟨rfl, rfl⟩
  go_wp2_with fail
  refine (l1Zn1 _ _).mono ?_
  rintro e w' ⟨rfl, rfl⟩
  go_wp2_with fail
  refine (l1Flag _ _ _).mono ?_
  rintro e w' ⟨rfl, rfl⟩
  go_wp2_with fail
  go_ret2
  exact ⟨rII hW.out.symm (by rw [Pl.or_flags (by omega) (Pl.fl_two _) (by omega)]; exact hO.out.symm), rfl⟩

theorem l3Once51 (f v : Int) (w : World) (f0 : 0 ≤ f) (f1 : f ≤ 31) (v0 : 0 ≤ v) (v1 : v < 256) :
    Calls Try.prog 61 #[iv 5, iv 1, iv f, iv v] w fun e w' => e = .returned (.tuple #[iv (Pl.nv 5 1 (f / 16) v), iv (Pl.onF 5 1 (f / 16) v)]) ∧ w' = w := by
  have hA := Pl.and1 v
  have hB := Pl.and16 f0 f1
  obtain ⟨q0, q1⟩ := Pl.hi_bd 1 v
  have hD := Pl.or_high1 (a := v / 2) (q := (v % 2)) (by omega) (by omega) (by omega) (by omega)
  have hW : Hid (Pl.nv 5 1 (f / 16) v = (v / 2 + (v % 2) * 128)) := hide (by simp only [Pl.nv, Pl.inn, Pl.fell, Pl.top, Int.reduceMod, Int.reduceEq, Int.reduceLE, if_true, if_false, or_true] <;> omega)
  have hO : Hid (Pl.onF 5 1 (f / 16) v = v % 2 + Pl.fl false 2 + (Pl.fl ((v / 2 + (v % 2) * 128) == 0) 4 + Pl.fl (decide (128 ≤ (v / 2 + (v % 2) * 128))) 8) + f / 16 * 16) := hide (by simp only [Pl.onF, Pl.vfl, hW.out, Pl.zn, Pl.nx, Pl.fell, Pl.top, Int.reduceMod, Int.reduceEq, Int.reduceDiv, if_true, if_false, decide_false, Bool.false_and, or_true] <;> omega)
  go_enter Try.func61, Try.ntmps61
  go_wp2_with fail
  refine (l1Top1 _).mono ?_
  rintro e w' ⟨rfl, rfl⟩
  go_wp2_with fail
  refine (l1FlagH1 _ _).mono ?_
  rintro e w' ⟨rfl, rfl⟩
  go_wp2_with fail
  refine (l3LeftF 5 rfl _).mono ?_
  rintro e w' ⟨rfl, rfl⟩
  go_wp2_with fail
  refine (l3LeftF 5 rfl _).mono ?_
  rintro e w' ⟨rfl, rfl⟩
  go_wp2_with fail
  refine (l1Zn1 _ _).mono ?_
  rintro e w' ⟨rfl, rfl⟩
  go_wp2_with fail
  refine (l1Flag _ _ _).mono ?_
  rintro e w' ⟨rfl, rfl⟩
  go_wp2_with fail
  go_ret2
  exact ⟨rII hW.out.symm (by rw [Pl.or_flags (by omega) (Pl.fl_two _) (by omega)]; exact hO.out.symm), rfl⟩

theorem l3Once61 (f v : Int) (w : World) (f0 : 0 ≤ f) (f1 : f ≤ 31) (v0 : 0 ≤ v) (v1 : v < 256) :
    Calls Try.prog 61 #[iv 6, iv 1, iv f, iv v] w fun e w' => e = .returned (.tuple #[iv (Pl.nv 6 1 (f / 16) v), iv (Pl.onF 6 1 (f / 16) v)]) ∧ w' = w := by
  have hA := Pl.and1 v
  have hB := Pl.and16 f0 f1
  obtain ⟨q0, q1⟩ := Pl.hi_bd 1 v
  have hC := Pl.and255 (v * 2)
  have hD := Pl.or_low (a := v * 2 % 256) (q := (f / 16)) (by omega) (by omega) (by omega) (by omega) (by omega)
  have hW : Hid (Pl.nv 6 1 (f / 16) v = (v * 2 % 256 + (f / 16))) := hide (by simp only [Pl.nv, Pl.inn, Pl.fell, Pl.top, Int.reduceMod, Int.reduceEq, Int.reduceLE, if_true, if_false, or_self] <;> omega)
  have hO : Hid (Pl.onF 6 1 (f / 16) v = Pl.hi 1 v + Pl.fl false 2 + (Pl.fl ((v * 2 % 256 + (f / 16)) == 0) 4 + Pl.fl (decide (128 ≤ (v * 2 % 256 + (f / 16)))) 8) + Pl.hi 1 v * 16) := hide (by simp only [Pl.onF, Pl.vfl, hW.out, Pl.zn, Pl.nx, Pl.fell, Pl.top, Int.reduceMod, Int.reduceEq, Int.reduceDiv, if_true, if_false, decide_false, Bool.false_and, or_self] <;> omega)
  go_enter Try.func61, Try.ntmps61
  go_wp2_with fail
  refine (l1Top1 _).mono ?_
  rintro e w' ⟨rfl, rfl⟩
  go_wp2_with fail
  refine (l1FlagH1 _ _).mono ?_
  rintro e w' ⟨rfl, rfl⟩
  go_wp2_with fail
  refine (l3LeftT 6 rfl _).mono ?_
  rintro e w' ⟨rfl, rfl⟩
  go_wp2_with fail
  refine (l1FlagX f f0 f1 _).mono ?_
  rintro e w' ⟨rfl, rfl⟩
  go_wp2_with fail
  refine (l3LeftT 6 rfl _).mono ?_
  rintro e w' ⟨rfl, rfl⟩
  go_wp2_with fail
  refine (l1Zn1 _ _).mono ?_
  rintro e w' ⟨rfl, rfl⟩
  go_wp2_with fail
  refine (l1Flag _ _ _).mono ?_
  rintro e w' ⟨rfl, rfl⟩
  go_wp2_with fail
  go_ret2
  exact ⟨rII hW.out.symm (by rw [Pl.or_flags (by omega) (Pl.fl_two _) (by omega)]; exact hO.out.symm), rfl⟩

theorem l3Once71 (f v : Int) (w : World) (f0 : 0 ≤ f) (f1 : f ≤ 31) (v0 : 0 ≤ v) (v1 : v < 256) :
    Calls Try.prog 61 #[iv 7, iv 1, iv f, iv v] w fun e w' => e = .returned (.tuple #[iv (Pl.nv 7 1 (f / 16) v), iv (Pl.onF 7 1 (f / 16) v)]) ∧ w' = w := by
  have hA := Pl.and1 v
  have hB := Pl.and16 f0 f1
  obtain ⟨q0, q1⟩ := Pl.hi_bd 1 v
  have hD := Pl.or_high1 (a := v / 2) (q := (f / 16)) (by omega) (by omega) (by omega) (by omega)
  have hW : Hid (Pl.nv 7 1 (f / 16) v = (v / 2 + (f / 16) * 128)) := hide (by simp only [Pl.nv, Pl.inn, Pl.fell, Pl.top, Int.reduceMod, Int.reduceEq, Int.reduceLE, if_true, if_false, or_self] <;> omega)
  have hO : Hid (Pl.onF 7 1 (f / 16) v = v % 2 + Pl.fl false 2 + (Pl.fl ((v / 2 + (f / 16) * 128) == 0) 4 + Pl.fl (decide (128 ≤ (v / 2 + (f / 16) * 128))) 8) + v % 2 * 16) := hide (by simp only [Pl.onF, Pl.vfl, hW.out, Pl.zn, Pl.nx, Pl.fell, Pl.top, Int.reduceMod, Int.reduceEq, Int.reduceDiv, if_true, if_false, decide_false, Bool.false_and, or_self] <;> omega)
  go_enter Try.func61, Try.ntmps61
  go_wp2_with fail
  refine (l1Top1 _).mono ?_
  rintro e w' ⟨rfl, rfl⟩
  go_wp2_with fail
  refine (l1FlagH1 _ _).mono ?_
  rintro e w' ⟨rfl, rfl⟩
  go_wp2_with fail
  refine (l3LeftF 7 rfl _).mono ?_
  rintro e w' ⟨rfl, rfl⟩
  go_wp2_with fail
  refine (l1FlagX f f0 f1 _).mono ?_
  rintro e w' ⟨rfl, rfl⟩
  go_wp2_with fail
  refine (l3LeftF 7 rfl _).mono ?_
  rintro e w' ⟨rfl, rfl⟩
  go_wp2_with fail
  refine (l1Zn1 _ _).mono ?_
  rintro e w' ⟨rfl, rfl⟩
  go_wp2_with fail
  refine (l1Flag _ _ _).mono ?_
  rintro e w' ⟨rfl, rfl⟩
  go_wp2_with fail
  go_ret2
  exact ⟨rII hW.out.symm (by rw [Pl.or_flags (by omega) (Pl.fl_two _) (by omega)]; exact hO.out.symm), rfl⟩

theorem l3Once02 (f v : Int) (w : World) (f0 : 0 ≤ f) (f1 : f ≤ 31) (v0 : 0 ≤ v) (v1 : v < 65536) :
    Calls Try.prog 61 #[iv 0, iv 2, iv f, iv v] w fun e w' => e = .returned (.tuple #[iv (Pl.nv 0 2 (f / 16) v), iv (Pl.onF 0 2 (f / 16) v)]) ∧ w' = w := by
  have hA := Pl.and1 v
  have hB := Pl.and16 f0 f1
  obtain ⟨q0, q1⟩ := Pl.hi_bd 2 v
  have hC := Pl.and65535 (v * 2)
  have hD := Pl.or_low (a := v * 2 % 65536) (q := 0) (by omega) (by omega) (by omega) (by omega) (by omega)
  rw [Int.add_zero] at hD
  have hW : Hid (Pl.nv 0 2 (f / 16) v = (v * 2 % 65536)) := hide (by simp only [Pl.nv, Pl.inn, Pl.fell, Pl.top, Int.reduceMod, Int.reduceEq, Int.reduceLE, if_true, if_false, or_self] <;> omega)
  have hO : Hid (Pl.onF 0 2 (f / 16) v = Pl.hi 2 v + Pl.fl (Pl.hi 2 v != Pl.hi 2 (v * 2 % 65536)) 2 + (Pl.fl ((v * 2 % 65536) == 0) 4 + Pl.fl (decide (32768 ≤ (v * 2 % 65536))) 8) + Pl.hi 2 v * 16) := hide (by simp only [Pl.onF, Pl.vfl, hW.out, Pl.zn, Pl.nx, Pl.fell, Pl.top, Int.reduceMod, Int.reduceEq, Int.reduceDiv, if_true, if_false, decide_true, Bool.true_and, or_self] <;> omega)
  go_enter Try.func61, Try.ntmps61
  go_wp2_with fail
  refine (l1Top2 _).mono ?_
  rintro e w' ⟨rfl, rfl⟩
  go_wp2_with fail
  refine (l1FlagH2 _ _).mono ?_
  rintro e w' ⟨rfl, rfl⟩
  go_wp2_with fail
  refine (l3LeftT 0 rfl _).mono ?_
  rintro e w' ⟨rfl, rfl⟩
  go_wp2_with fail
  refine (l3LeftT 0 rfl _).mono ?_
  rintro e w' ⟨rfl, rfl⟩
  go_wp2_with fail
  refine (l1Zn2 _ _).mono ?_
  rintro e w' ⟨rfl, rfl⟩
  go_wp2_with fail
  refine (l1FlagH2 _ _).mono ?_
  rintro e w' ⟨rfl, rfl⟩
  go_wp2_with fail
  refine (l1Flag _ _ _).mono ?_
  rintro e w' ⟨rfl, rfl⟩
  go_wp2_with fail
  go_ret2
  exact ⟨rII hW.out.symm (by rw [Pl.or_flags (by omega) (Pl.fl_two _) (by omega)]; exact hO.out.symm), rfl⟩

theorem l3Once12 (f v : Int) (w : World) (f0 : 0 ≤ f) (f1 : f ≤ 31) (v0 : 0 ≤ v) (v1 : v < 65536) :
    Calls Try.prog 61 #[iv 1, iv 2, iv f, iv v] w fun e w' => e = .returned (.tuple #[iv (Pl.nv 1 2 (f / 16) v), iv (Pl.onF 1 2 (f / 16) v)]) ∧ w' = w := by
  have hA := Pl.and1 v
  have hB := Pl.and16 f0 f1
  obtain ⟨q0, q1⟩ := Pl.hi_bd 2 v
  have hD := Pl.or_high2 (a := v / 2) (q := Pl.hi 2 v) (by omega) (by omega) (by omega) (by omega)
  have hW : Hid (Pl.nv 1 2 (f / 16) v = (v / 2 + Pl.hi 2 v * 32768)) := hide (by simp only [Pl.nv, Pl.inn, Pl.fell, Pl.top, Int.reduceMod, Int.reduceEq, Int.reduceLE, if_true, if_false] <;> omega)
  have hO : Hid (Pl.onF 1 2 (f / 16) v = v % 2 + Pl.fl false 2 + (Pl.fl ((v / 2 + Pl.hi 2 v * 32768) == 0) 4 + Pl.fl (decide (32768 ≤ (v / 2 + Pl.hi 2 v * 32768))) 8) + v % 2 * 16) := hide (by simp only [Pl.onF, Pl.vfl, hW.out, Pl.zn, Pl.nx, Pl.fell, Pl.top, Int.reduceMod, Int.reduceEq, Int.reduceDiv, if_true, if_false, decide_false, Bool.false_and, or_self] <;> omega)
  go_enter Try.func61, Try.ntmps61
  go_wp2_with fail
  refine (l1Top2 _).mono ?_
  rintro e w' ⟨rfl, rfl⟩
  go_wp2_with fail
  refine (l1FlagH2 _ _).mono ?_
  rintro e w' ⟨rfl, rfl⟩
  go_wp2_with fail
  refine (l3LeftF 1 rfl _).mono ?_
  rintro e w' ⟨rfl, rfl⟩
  go_wp2_with fail
  refine (l3LeftF 1 rfl _).mono ?_
  rintro e w' ⟨rfl, rfl⟩
  go_wp2_with fail
  refine (l1Zn2 _ _).mono ?_
  rintro e w' ⟨rfl, rfl⟩
  go_wp2_with fail
  refine (l1Flag _ _ _).mono ?_
  rintro e w' ⟨rfl, rfl⟩
  go_wp2_with fail
  go_ret2
  exact ⟨rII hW.out.symm (by rw [Pl.or_flags (by omega) (Pl.fl_two _) (by omega)]; exact hO.out.symm), rfl⟩

theorem l3Once22 (f v : Int) (w : World) (f0 : 0 ≤ f) (f1 : f ≤ 31) (v0 : 0 ≤ v) (v1 : v < 65536) :
    Calls Try.prog 61 #[iv 2, iv 2, iv f, iv v] w fun e w' => e = .returned (.tuple #[iv (Pl.nv 2 2 (f / 16) v), iv (Pl.onF 2 2 (f / 16) v)]) ∧ w' = w := by
  have hA := Pl.and1 v
  have hB := Pl.and16 f0 f1
  obtain ⟨q0, q1⟩ := Pl.hi_bd 2 v
  have hC := Pl.and65535 (v * 2)
  have hD := Pl.or_low (a := v * 2 % 65536) (q := 0) (by omega) (by omega) (by omega) (by omega) (by omega)
  rw [Int.add_zero] at hD
  have hW : Hid (Pl.nv 2 2 (f / 16) v = (v * 2 % 65536)) := hide (by simp only [Pl.nv, Pl.inn, Pl.fell, Pl.top, Int.reduceMod, Int.reduceEq, Int.reduceLE, if_true, if_false, or_self] <;> omega)
  have hO : Hid (Pl.onF 2 2 (f / 16) v = Pl.hi 2 v + Pl.fl false 2 + (Pl.fl ((v * 2 % 65536) == 0) 4 + Pl.fl (decide (32768 ≤ (v * 2 % 65536))) 8) + Pl.hi 2 v * 16) := hide (by simp only [Pl.onF, Pl.vfl, hW.out, Pl.zn, Pl.nx, Pl.fell, Pl.top, Int.reduceMod, Int.reduceEq, Int.reduceDiv, if_true, if_false, decide_false, Bool.false_and, or_self] <;> omega)
  go_enter Try.func61, Try.ntmps61
  go_wp2_with fail
  refine (l1Top2 _).mono ?_
  rintro e w' ⟨rfl, rfl⟩
  go_wp2_with fail
  refine (l1FlagH2 _ _).mono ?_
  rintro e w' ⟨rfl, rfl⟩
  go_wp2_with fail
  refine (l3LeftT 2 rfl _).mono ?_
  rintro e w' ⟨rfl, rfl⟩
  go_wp2_with fail
  refine (l3LeftT 2 rfl _).mono ?_
  rintro e w' ⟨rfl, rfl⟩
  go_wp2_with fail
  refine (l1Zn2 _ _).mono ?_
  rintro e w' ⟨rfl, rfl⟩
  go_wp2_with fail
  refine (l1Flag _ _ _).mono ?_
  rintro e w' ⟨rfl, rfl⟩
  go_wp2_with fail
  go_ret2
  exact ⟨rII hW.out.symm (by rw [Pl.or_flags (by omega) (Pl.fl_two _) (by omega)]; exact hO.out.symm), rfl⟩

theorem l3Once32 (f v : Int) (w : World) (f0 : 0 ≤ f) (f1 : f ≤ 31) (v0 : 0 ≤ v) (v1 : v < 65536) :
    Calls Try.prog 61 #[iv 3, iv 2, iv f, iv v] w fun e w' => e = .returned (.tuple #[iv (Pl.nv 3 2 (f / 16) v), iv (Pl.onF 3 2 (f / 16) v)]) ∧ w' = w := by
  have hA := Pl.and1 v
  have hB := Pl.and16 f0 f1
  obtain ⟨q0, q1⟩ := Pl.hi_bd 2 v
  have hD := Pl.or_high2 (a := v / 2) (q := 0) (by omega) (by omega) (by omega) (by omega)
  rw [Int.zero_mul, Int.add_zero] at hD
  have hW : Hid (Pl.nv 3 2 (f / 16) v = (v / 2)) := hide (by simp only [Pl.nv, Pl.inn, Pl.fell, Pl.top, Int.reduceMod, Int.reduceEq, Int.reduceLE, if_true, if_false, or_self] <;> omega)
  have hO : Hid (Pl.onF 3 2 (f / 16) v = v % 2 + Pl.fl false 2 + (Pl.fl ((v / 2) == 0) 4 + Pl.fl (decide (32768 ≤ (v / 2))) 8) + v % 2 * 16) := hide (by simp only [Pl.onF, Pl.vfl, hW.out, Pl.zn, Pl.nx, Pl.fell, Pl.top, Int.reduceMod, Int.reduceEq, Int.reduceDiv, if_true, if_false, decide_false, Bool.false_and, or_self] <;> omega)
  go_enter Try.func61, Try.ntmps61
  go_wp2_with fail
  refine (l1Top2 _).mono ?_
  rintro e w' ⟨rfl, rfl⟩
  go_wp2_with fail
  refine (l1FlagH2 _ _).mono ?_
  rintro e w' ⟨rfl, rfl⟩
  go_wp2_with fail
  refine (l3LeftF 3 rfl _).mono ?_
  rintro e w' ⟨rfl, rfl⟩
  go_wp2_with fail
  refine (l3LeftF 3 rfl _).mono ?_
  rintro e w' ⟨rfl, rfl⟩
  go_wp2_with fail
  refine (l1Zn2 _ _).mono ?_
  rintro e w' ⟨rfl, rfl⟩
  go_wp2_with fail
  refine (l1Flag _ _ _).mono ?_
  rintro e w' ⟨rfl, rfl⟩
  go_wp2_with fail
  go_ret2
  exact ⟨rII hW.out.symm (by rw [Pl.or_flags (by omega) (Pl.fl_two _) (by omega)]; exact hO.out.symm), rfl⟩

theorem l3Once42 (f v : Int) (w : World) (f0 : 0 ≤ f) (f1 : f ≤ 31) (v0 : 0 ≤ v) (v1 : v < 65536) :
    Calls Try.prog 61 #[iv 4, iv 2, iv f, iv v] w fun e w' => e = .returned (.tuple #[iv (Pl.nv 4 2 (f / 16) v), iv (Pl.onF 4 2 (f / 16) v)]) ∧ w' = w := by
  have hA := Pl.and1 v
  have hB := Pl.and16 f0 f1
  obtain ⟨q0, q1⟩ := Pl.hi_bd 2 v
  have hC := Pl.and65535 (v * 2)
  have hD := Pl.or_low (a := v * 2 % 65536) (q := Pl.hi 2 v) (by omega) (by omega) (by omega) (by omega) (by omega)
  have hW : Hid (Pl.nv 4 2 (f / 16) v = (v * 2 % 65536 + Pl.hi 2 v)) := hide (by simp only [Pl.nv, Pl.inn, Pl.fell, Pl.top, Int.reduceMod, Int.reduceEq, Int.reduceLE, if_true, if_false, or_false] <;> omega)
  have hO : Hid (Pl.onF 4 2 (f / 16) v = Pl.hi 2 v + Pl.fl false 2 + (Pl.fl ((v * 2 % 65536 + Pl.hi 2 v) == 0) 4 + Pl.fl (decide (32768 ≤ (v * 2 % 65536 + Pl.hi 2 v))) 8) + f / 16 * 16) := hide (by simp only [Pl.onF, Pl.vfl, hW.out, Pl.zn, Pl.nx, Pl.fell, Pl.top, Int.reduceMod, Int.reduceEq, Int.reduceDiv, if_true, if_false, decide_false, Bool.false_and, or_false] <;> omega)
  go_enter Try.func61, Try.ntmps61
  go_wp2_with fail
  refine (l1Top2 _).mono ?_
  rintro e w' ⟨rfl, rfl⟩
  go_wp2_with fail
  refine (l1FlagH2 _ _).mono ?_
  rintro e w' ⟨rfl, rfl⟩
  go_wp2_with fail
  refine (l3LeftT 4 rfl _).mono ?_
  rintro e w' ⟨rfl, rfl⟩
  go_wp2_with fail
  refine (l3LeftT 4 rfl _).mono ?_
  rintro e w' ⟨rfl, rfl⟩
  go_wp2_with fail
  refine (l1Zn2 _ _).mono ?_
  rintro e w' ⟨rfl, rfl⟩
  go_wp2_with fail
  refine (l1Flag _ _ _).mono ?_
  rintro e w' ⟨rfl, rfl⟩
  go_wp2_with fail
  go_ret2
  exact ⟨rII hW.out.symm (by rw [Pl.or_flags (by omega) (Pl.fl_two _) (by omega)]; exact hO.out.symm), rfl⟩

theorem l3Once52 (f v : Int) (w : World) (f0 : 0 ≤ f) (f1 : f ≤ 31) (v0 : 0 ≤ v) (v1 : v < 65536) :
    Calls Try.prog 61 #[iv 5, iv 2, iv f, iv v] w fun e w' => e = .returned (.tuple #[iv (Pl.nv 5 2 (f / 16) v), iv (Pl.onF 5 2 (f / 16) v)]) ∧ w' = w := by
  have hA := Pl.and1 v
  have hB := Pl.and16 f0 f1
  obtain ⟨q0, q1⟩ := Pl.hi_bd 2 v
  have hD := Pl.or_high2 (a := v / 2) (q := (v % 2)) (by omega) (by omega) (by omega) (by omega)
  have hW : Hid (Pl.nv 5 2 (f / 16) v = (v / 2 + (v % 2) * 32768)) := hide (by simp only [Pl.nv, Pl.inn, Pl.fell, Pl.top, Int.reduceMod, Int.reduceEq, Int.reduceLE, if_true, if_false, or_true] <;> omega)
  have hO : Hid (Pl.onF 5 2 (f / 16) v = v % 2 + Pl.fl false 2 + (Pl.fl ((v / 2 + (v % 2) * 32768) == 0) 4 + Pl.fl (decide (32768 ≤ (v / 2 + (v % 2) * 32768))) 8) + f / 16 * 16) := hide (by simp only [Pl.onF, Pl.vfl, hW.out, Pl.zn, Pl.nx, Pl.fell, Pl.top, Int.reduceMod, Int.reduceEq, Int.reduceDiv, if_true, if_false, decide_false, Bool.false_and, or_true] <;> omega)
  go_enter Try.func61, Try.ntmps61
  go_wp2_with fail
  refine (l1Top2 _).mono ?_
  rintro e w' ⟨rfl, rfl⟩
  go_wp2_with fail
  refine (l1FlagH2 _ _).mono ?_
  rintro e w' ⟨rfl, rfl⟩
  go_wp2_with fail
  refine (l3LeftF 5 rfl _).mono ?_
  rintro e w' ⟨rfl, rfl⟩
  go_wp2_with fail
  refine (l3LeftF 5 rfl _).mono ?_
  rintro e w' ⟨rfl, rfl⟩
  go_wp2_with fail
  refine (l1Zn2 _ _).mono ?_
  rintro e w' ⟨rfl, rfl⟩
  go_wp2_with fail
  refine (l1Flag _ _ _).mono ?_
  rintro e w' ⟨rfl, rfl⟩
  go_wp2_with fail
  go_ret2
  exact ⟨rII hW.out.symm (by rw [Pl.or_flags (by omega) (Pl.fl_two _) (by omega)]; exact hO.out.symm), rfl⟩

theorem l3Once62 (f v : Int) (w : World) (f0 : 0 ≤ f) (f1 : f ≤ 31) (v0 : 0 ≤ v) (v1 : v < 65536) :
    Calls Try.prog 61 #[iv 6, iv 2, iv f, iv v] w fun e w' => e = .returned (.tuple #[iv (Pl.nv 6 2 (f / 16) v), iv (Pl.onF 6 2 (f / 16) v)]) ∧ w' = w := by
  have hA := Pl.and1 v
  have hB := Pl.and16 f0 f1
  obtain ⟨q0, q1⟩ := Pl.hi_bd 2 v
  have hC := Pl.and65535 (v * 2)
  have hD := Pl.or_low (a := v * 2 % 65536) (q := (f / 16)) (by omega) (by omega) (by omega) (by omega) (by omega)
  have hW : Hid (Pl.nv 6 2 (f / 16) v = (v * 2 % 65536 + (f / 16))) := hide (by simp only [Pl.nv, Pl.inn, Pl.fell, Pl.top, Int.reduceMod, Int.reduceEq, Int.reduceLE, if_true, if_false, or_self] <;> omega)
  have hO : Hid (Pl.onF 6 2 (f / 16) v = Pl.hi 2 v + Pl.fl false 2 + (Pl.fl ((v * 2 % 65536 + (f / 16)) == 0) 4 + Pl.fl (decide (32768 ≤ (v * 2 % 65536 + (f / 16)))) 8) + Pl.hi 2 v * 16) := hide (by simp only [Pl.onF, Pl.vfl, hW.out, Pl.zn, Pl.nx, Pl.fell, Pl.top, Int.reduceMod, Int.reduceEq, Int.reduceDiv, if_true, if_false, decide_false, Bool.false_and, or_self] <;> omega)
  go_enter Try.func61, Try.ntmps61
  go_wp2_with fail
  refine (l1Top2 _).mono ?_
  rintro e w' ⟨rfl, rfl⟩
  go_wp2_with fail
  refine (l1FlagH2 _ _).mono ?_
  rintro e w' ⟨rfl, rfl⟩
  go_wp2_with fail
  refine (l3LeftT 6 rfl _).mono ?_
  rintro e w' ⟨rfl, rfl⟩
  go_wp2_with fail
  refine (l1FlagX f f0 f1 _).mono ?_
  rintro e w' ⟨rfl, rfl⟩
  go_wp2_with fail
  refine (l3LeftT 6 rfl _).mono ?_
  rintro e w' ⟨rfl, rfl⟩
  go_wp2_with fail
  refine (l1Zn2 _ _).mono ?_
  rintro e w' ⟨rfl, rfl⟩
  go_wp2_with fail
  refine (l1Flag _ _ _).mono ?_
  rintro e w' ⟨rfl, rfl⟩
  go_wp2_with fail
  go_ret2
  exact ⟨rII hW.out.symm (by rw [Pl.or_flags (by omega) (Pl.fl_two _) (by omega)]; exact hO.out.symm), rfl⟩

theorem l3Once72 (f v : Int) (w : World) (f0 : 0 ≤ f) (f1 : f ≤ 31) (v0 : 0 ≤ v) (v1 : v < 65536) :
    Calls Try.prog 61 #[iv 7, iv 2, iv f, iv v] w fun e w' => e = .returned (.tuple #[iv (Pl.nv 7 2 (f / 16) v), iv (Pl.onF 7 2 (f / 16) v)]) ∧ w' = w := by
  have hA := Pl.and1 v
  have hB := Pl.and16 f0 f1
  obtain ⟨q0, q1⟩ := Pl.hi_bd 2 v
  have hD := Pl.or_high2 (a := v / 2) (q := (f / 16)) (by omega) (by omega) (by omega) (by omega)
  have hW : Hid (Pl.nv 7 2 (f / 16) v = (v / 2 + (f / 16) * 32768)) := hide (by simp only [Pl.nv, Pl.inn, Pl.fell, Pl.top, Int.reduceMod, Int.reduceEq, Int.reduceLE, if_true, if_false, or_self] <;> omega)
  have hO : Hid (Pl.onF 7 2 (f / 16) v = v % 2 + Pl.fl false 2 + (Pl.fl ((v / 2 + (f / 16) * 32768) == 0) 4 + Pl.fl (decide (32768 ≤ (v / 2 + (f / 16) * 32768))) 8) + v % 2 * 16) := hide (by simp only [Pl.onF, Pl.vfl, hW.out, Pl.zn, Pl.nx, Pl.fell, Pl.top, Int.reduceMod, Int.reduceEq, Int.reduceDiv, if_true, if_false, decide_false, Bool.false_and, or_self] <;> omega)
  go_enter Try.func61, Try.ntmps61
  go_wp2_with fail
  refine (l1Top2 _).mono ?_
  rintro e w' ⟨rfl, rfl⟩
  go_wp2_with fail
  refine (l1FlagH2 _ _).mono ?_
  rintro e w' ⟨rfl, rfl⟩
  go_wp2_with fail
  refine (l3LeftF 7 rfl _).mono ?_
  rintro e w' ⟨rfl, rfl⟩
  go_wp2_with fail
  refine (l1FlagX f f0 f1 _).mono ?_
  rintro e w' ⟨rfl, rfl⟩
  go_wp2_with fail
  refine (l3LeftF 7 rfl _).mono ?_
  rintro e w' ⟨rfl, rfl⟩
  go_wp2_with fail
  refine (l1Zn2 _ _).mono ?_
  rintro e w' ⟨rfl, rfl⟩
  go_wp2_with fail
  refine (l1Flag _ _ _).mono ?_
  rintro e w' ⟨rfl, rfl⟩
  go_wp2_with fail
  go_ret2
  exact ⟨rII hW.out.symm (by rw [Pl.or_flags (by omega) (Pl.fl_two _) (by omega)]; exact hO.out.symm), rfl⟩

end Go.Proofs.Ytnmddmmmgdfknaa

namespace Go.Proofs.Ytnmddmmmgdfknaa
open Go.RowKit
set_option linter.unusedVariables false

/-- one place, of whatever kind and size -/
theorem l3Once (k s f v : Int) (w : World) (k0 : 0 ≤ k) (k1 : k ≤ 7) (f0 : 0 ≤ f) (f1 : f ≤ 31) (h : Pl.Fit s (v, f / 16)) :
    Calls Try.prog 61 #[iv k, iv s, iv f, iv v] w fun e w' => e = .returned (.tuple #[iv (Pl.nv k s (f / 16) v), iv (Pl.onF k s (f / 16) v)]) ∧ w' = w := by
  obtain ⟨hs, v0, v1, _, _⟩ := h
  simp only at v0 v1
  have hk : k = 0 ∨ k = 1 ∨ k = 2 ∨ k = 3 ∨ k = 4 ∨ k = 5 ∨ k = 6 ∨ k = 7 := by omega
  rcases Pl.top12 hs with ⟨rfl, e⟩ | ⟨rfl, e⟩
  · rw [e] at v1
    rcases hk with rfl | rfl | rfl | rfl | rfl | rfl | rfl | rfl
    · exact l3Once01 f v w f0 f1 v0 v1
    · exact l3Once11 f v w f0 f1 v0 v1
    · exact l3Once21 f v w f0 f1 v0 v1
    · exact l3Once31 f v w f0 f1 v0 v1
    · exact l3Once41 f v w f0 f1 v0 v1
    · exact l3Once51 f v w f0 f1 v0 v1
    · exact l3Once61 f v w f0 f1 v0 v1
    · exact l3Once71 f v w f0 f1 v0 v1
  · rw [e] at v1
    rcases hk with rfl | rfl | rfl | rfl | rfl | rfl | rfl | rfl
    · exact l3Once02 f v w f0 f1 v0 v1
    · exact l3Once12 f v w f0 f1 v0 v1
    · exact l3Once22 f v w f0 f1 v0 v1
    · exact l3Once32 f v w f0 f1 v0 v1
    · exact l3Once42 f v w f0 f1 v0 v1
    · exact l3Once52 f v w f0 f1 v0 v1
    · exact l3Once62 f v w f0 f1 v0 v1
    · exact l3Once72 f v w f0 f1 v0 v1

end Go.Proofs.Ytnmddmmmgdfknaa

namespace Go.Proofs.Ytnmddmmmgdfknaa
open Go.RowKit
set_option linter.unusedVariables false

theorem signedAs8 (v : Int) (w : World) (lo : -9223372036854775808 ≤ v) (hi : v ≤ 9223372036854775807) :
    Calls Try.prog 59 #[iv v] w fun e w' => e = .returned (.tuple #[iv (Pl.sgnV 1 v), .bool (Pl.okv 1 v)]) ∧ w' = w := by
  by_cases h : 0 ≤ v ∧ v < 256
  · obtain ⟨h0, h1⟩ := h
    have hs : IntKind.u8.signed = false := rfl
    have hm : IntKind.u8.max = 255 := by decide
    have hb : bits .xor .u8 255 0 = 255 := by decide
    by_cases h : 127 < v
    all_goals
      go_enter Try.func59, Try.ntmps59
      go_wp2
      go_ret2
      exact ⟨rIB (by simp [Pl.sgnV, Pl.okv, Pl.sg, Pl.top, h0, h1]; omega) (by simp [Pl.okv, Pl.top, h0, h1]), rfl⟩
  · go_enter Try.func59, Try.ntmps59
    go_wp2
    go_ret2
    have k : Pl.okv 1 v = false := by
      cases c : Pl.okv 1 v
      · rfl
      · have := Pl.top_ok c; omega
    exact ⟨rIB (by simp [Pl.sgnV, k]) k.symm, rfl⟩

theorem signedAs16 (v : Int) (w : World) (lo : -9223372036854775808 ≤ v) (hi : v ≤ 9223372036854775807) :
    Calls Try.prog 60 #[iv v] w fun e w' => e = .returned (.tuple #[iv (Pl.sgnV 2 v), .bool (Pl.okv 2 v)]) ∧ w' = w := by
  by_cases h : 0 ≤ v ∧ v < 65536
  · obtain ⟨h0, h1⟩ := h
    have hs : IntKind.u16.signed = false := rfl
    have hm : IntKind.u16.max = 65535 := by decide
    have hb : bits .xor .u16 65535 0 = 65535 := by decide
    by_cases h : 32767 < v
    all_goals
      go_enter Try.func60, Try.ntmps60
      go_wp2
      go_ret2
      exact ⟨rIB (by simp [Pl.sgnV, Pl.okv, Pl.sg, Pl.top, h0, h1]; omega) (by simp [Pl.okv, Pl.top, h0, h1]), rfl⟩
  · have hw : IntKind.u16.wrap v = v % 65536 := IntKind.wrap_u16 v
    go_enter Try.func60, Try.ntmps60
    go_wp2
    go_ret2
    have k : Pl.okv 2 v = false := by
      cases c : Pl.okv 2 v
      · rfl
      · have := Pl.top_ok c; omega
    exact ⟨rIB (by simp [Pl.sgnV, k]) k.symm, rfl⟩

theorem signedOf (s v : Int) (w : World) (lo : -9223372036854775808 ≤ v) (hi : v ≤ 9223372036854775807) :
    Calls Try.prog 18 #[iv s, iv v] w fun e w' => e = .returned (.tuple #[iv (Pl.sgnV s v), .bool (Pl.okv s v)]) ∧ w' = w := by
  by_cases h1 : s = 1
  · subst h1
    go_enter Try.func18, Try.ntmps18
    go_wp2_with fail
    refine (signedAs8 v _ lo hi).mono ?_
    rintro e w' ⟨rfl, rfl⟩
    go_wp2_with fail
    go_ret2
    exact ⟨rfl, rfl⟩
  · by_cases h2 : s = 2
    · subst h2
      go_enter Try.func18, Try.ntmps18
      go_wp2_with fail
      refine (signedAs16 v _ lo hi).mono ?_
      rintro e w' ⟨rfl, rfl⟩
      go_wp2_with fail
      go_ret2
      exact ⟨rfl, rfl⟩
    · have k : Pl.okv s v = false := by simp [Pl.okv, h1, h2]
      have k1 : (s == 1) = false := by simpa using h1
      have k2 : (s == 2) = false := by simpa using h2
      go_enter Try.func18, Try.ntmps18
      go_wp2_with fail
      go_ret2
      exact ⟨rIB (by simp [Pl.sgnV, k]) k.symm, rfl⟩

end Go.Proofs.Ytnmddmmmgdfknaa

namespace Go.Proofs.Ytnmddmmmgdfknaa
open Go.RowKit
set_option linter.unusedVariables false

/-! ### the program's own -/

theorem flagsIf (b : Bool) (f : Int) (w : World) :
    Calls Try.prog 81 #[.bool b, iv f] w fun e w' => e = .returned (iv (Pl.fl b f)) ∧ w' = w := by
  cases b
  all_goals
    go_enter Try.func81, Try.ntmps81
    go_wp2
    go_ret
    exact ⟨rfl, rfl⟩

theorem isBit (x : Int) (w : World) :
    Calls Try.prog 139 #[iv x] w fun e w' => e = .returned (.bool (Pl.bit x)) ∧ w' = w := by
  by_cases h0 : x = 0
  · subst h0
    go_enter Try.func139, Try.ntmps139
    go_wp2
    go_ret
    exact ⟨rfl, rfl⟩
  · by_cases h1 : x = 1
    · subst h1
      go_enter Try.func139, Try.ntmps139
      go_wp2
      go_ret
      exact ⟨rfl, rfl⟩
    · have k0 : (x == 0) = false := by simpa using h0
      have k1 : (x == 1) = false := by simpa using h1
      go_enter Try.func139, Try.ntmps139
      go_wp2
      go_ret
      exact ⟨rB (by simp [Pl.bit]; omega), rfl⟩

theorem isFlags (x : Int) (w : World) :
    Calls Try.prog 82 #[iv x] w fun e w' => e = .returned (.bool (Pl.flags x)) ∧ w' = w := by
  by_cases h0 : 0 ≤ x
  all_goals
    by_cases h1 : x ≤ 31
    all_goals
      go_enter Try.func82, Try.ntmps82
      go_wp2
      go_ret
      exact ⟨rB (by simp [Pl.flags]; omega), rfl⟩

/-! ### the model's -/

end Go.Proofs.Ytnmddmmmgdfknaa

namespace Go.Proofs.Ytnmddmmmgdfknaa
set_option linter.unusedVariables false

theorem signedPair (s a b : Int) (w : World) (la : -9223372036854775808 ≤ a) (ha : a ≤ 9223372036854775807) (lb : -9223372036854775808 ≤ b) (hb : b ≤ 9223372036854775807) :
    Calls Try.prog 128 #[iv s, iv a, iv b] w fun e w' => e = .returned (.tuple #[iv (Pl.sgnV s a), iv (Pl.sgnV s b), .bool (Pl.okv s a && Pl.okv s b)]) ∧ w' = w := by
  cases ka : Pl.okv s a
  all_goals
    cases kb : Pl.okv s b
    all_goals
      go_enter Try.func128, Try.ntmps128
      go_wp2_with fail
      refine (signedOf s a _ la ha).mono ?_
      rintro e w' ⟨rfl, rfl⟩
      go_wp2_with fail
      refine (signedOf s b _ lb hb).mono ?_
      rintro e w' ⟨rfl, rfl⟩
      go_wp2_with fail
      go_ret3
      exact ⟨rIIB rfl rfl rfl, rfl⟩

theorem wrapSum8 (p q : Int) (w : World) :
    Calls Try.prog 144 #[iv p, iv q] w fun e w' => e = .returned (.tuple #[iv (p % 256), iv (Pl.keptF 1 p q)]) ∧ w' = w := by
  go_enter Try.func144, Try.ntmps144
  go_wp2_with fail
  refine (signedAs8 _ _ (by omega) (by omega)).mono ?_
  rintro e w' ⟨rfl, rfl⟩
  go_wp2_with fail
  refine (flagsIf _ _ _).mono ?_
  rintro e w' ⟨rfl, rfl⟩
  go_wp2_with fail
  refine (flagsIf _ _ _).mono ?_
  rintro e w' ⟨rfl, rfl⟩
  go_wp2_with fail
  refine (flagsIf _ _ _).mono ?_
  rintro e w' ⟨rfl, rfl⟩
  go_wp2_with fail
  refine (flagsIf _ _ _).mono ?_
  rintro e w' ⟨rfl, rfl⟩
  go_wp2_with fail
  go_ret2
  exact ⟨rII rfl (Pl.kept1 p q), rfl⟩

theorem wrapSum16 (p q : Int) (w : World) :
    Calls Try.prog 145 #[iv p, iv q] w fun e w' => e = .returned (.tuple #[iv (p % 65536), iv (Pl.keptF 2 p q)]) ∧ w' = w := by
  have hw : IntKind.u16.wrap p = p % 65536 := IntKind.wrap_u16 p
  go_enter Try.func145, Try.ntmps145
  go_wp2_with fail
  refine (signedAs16 _ _ (by omega) (by omega)).mono ?_
  rintro e w' ⟨rfl, rfl⟩
  go_wp2_with fail
  refine (flagsIf _ _ _).mono ?_
  rintro e w' ⟨rfl, rfl⟩
  go_wp2_with fail
  refine (flagsIf _ _ _).mono ?_
  rintro e w' ⟨rfl, rfl⟩
  go_wp2_with fail
  refine (flagsIf _ _ _).mono ?_
  rintro e w' ⟨rfl, rfl⟩
  go_wp2_with fail
  refine (flagsIf _ _ _).mono ?_
  rintro e w' ⟨rfl, rfl⟩
  go_wp2_with fail
  go_ret2
  exact ⟨rII rfl (Pl.kept2 p q), rfl⟩

theorem wrapSumOf (s p q : Int) (w : World) (hs : s = 1 ∨ s = 2) :
    Calls Try.prog 140 #[iv s, iv p, iv q] w fun e w' => e = .returned (.tuple #[iv (p % Pl.top s), iv (Pl.keptF s p q)]) ∧ w' = w := by
  rcases hs with rfl | rfl
  · go_enter Try.func140, Try.ntmps140
    go_wp2_with fail
    refine (wrapSum8 _ _ _).mono ?_
    rintro e w' ⟨rfl, rfl⟩
    go_wp2_with fail
    go_ret2
    exact ⟨rII rfl rfl, rfl⟩
  · go_enter Try.func140, Try.ntmps140
    go_wp2_with fail
    refine (wrapSum16 _ _ _).mono ?_
    rintro e w' ⟨rfl, rfl⟩
    go_wp2_with fail
    go_ret2
    exact ⟨rII rfl rfl, rfl⟩

end Go.Proofs.Ytnmddmmmgdfknaa

namespace Go.Proofs.Ytnmddmmmgdfknaa
open Go.RowKit
set_option linter.unusedVariables false

/-! ### the program's own -/

theorem addFlags (s x a b : Int) (w : World) (la : -9223372036854775808 ≤ a) (ha : a ≤ 9223372036854775807) (lb : -9223372036854775808 ≤ b) (hb : b ≤ 9223372036854775807) :
    Calls Try.prog 115 #[iv s, iv x, iv a, iv b] w fun e w' => e = .returned (.tuple #[iv (Pl.addV s x a b), iv (Pl.addF s x a b), .bool (Pl.two s x a b)]) ∧ w' = w := by
  cases k : Pl.two s x a b
  · have HV : Hid (Pl.addV s x a b = 0) := hide (by simp [Pl.addV, k])
    have HF : Hid (Pl.addF s x a b = 0) := hide (by simp [Pl.addF, k])
    have k' : Pl.okv s a = false ∨ Pl.okv s b = false ∨ (Pl.okv s a = true ∧ Pl.okv s b = true ∧ Pl.bit x = false) := by
      revert k
      unfold Pl.two
      cases Pl.okv s a <;> cases Pl.okv s b <;> cases Pl.bit x <;> simp
    clear k
    rcases k' with ka | kb | ⟨ka, kb, kx⟩
    · go_enter Try.func115, Try.ntmps115
      go_wp2_with fail
      refine (signedPair s a b _ la ha lb hb).mono ?_
      rintro e w' ⟨rfl, rfl⟩
      go_wp2_with fail
      go_ret3
      exact ⟨rIIB HV.out.symm HF.out.symm rfl, rfl⟩
    · have kab : (Pl.okv s a && Pl.okv s b) = false := by rw [kb]; simp
      go_enter Try.func115, Try.ntmps115
      go_wp2_with fail
      refine (signedPair s a b _ la ha lb hb).mono ?_
      rintro e w' ⟨rfl, rfl⟩
      go_wp2_with fail
      go_ret3
      exact ⟨rIIB HV.out.symm HF.out.symm rfl, rfl⟩
    · go_enter Try.func115, Try.ntmps115
      go_wp2_with fail
      refine (signedPair s a b _ la ha lb hb).mono ?_
      rintro e w' ⟨rfl, rfl⟩
      go_wp2_with fail
      refine (isBit x _).mono ?_
      rintro e w' ⟨rfl, rfl⟩
      go_wp2_with fail
      go_ret3
      exact ⟨rIIB HV.out.symm HF.out.symm rfl, rfl⟩
  · have HV : Hid (Pl.addV s x a b = (a + b + x) % Pl.top s) := hide (by simp [Pl.addV, k])
    have HF : Hid (Pl.addF s x a b = Pl.keptF s (a + b + x) (Pl.sg s a + Pl.sg s b + x)) := hide (by simp [Pl.addF, k])
    obtain ⟨ka, kb, kx⟩ := Pl.two_ok k
    have ea := Pl.sgnV_ok ka
    have eb := Pl.sgnV_ok kb
    obtain ⟨hs, a0, a1⟩ := Pl.top_ok ka
    obtain ⟨_, b0, b1⟩ := Pl.top_ok kb
    obtain ⟨x0, x1⟩ := Pl.bit_ok kx
    have sa : -32768 ≤ Pl.sg s a ∧ Pl.sg s a ≤ 32767 := by
      rcases hs with ⟨rfl, _⟩ | ⟨rfl, _⟩
      · have := Pl.sg_bd1 a0 a1; omega
      · exact Pl.sg_bd2 a0 a1
    have sb : -32768 ≤ Pl.sg s b ∧ Pl.sg s b ≤ 32767 := by
      rcases hs with ⟨rfl, _⟩ | ⟨rfl, _⟩
      · have := Pl.sg_bd1 b0 b1; omega
      · exact Pl.sg_bd2 b0 b1
    obtain ⟨sa0, sa1⟩ := sa
    obtain ⟨sb0, sb1⟩ := sb
    have a2 : a < 65536 := by omega
    have b2 : b < 65536 := by omega
    have hs2 : s = 1 ∨ s = 2 := by omega
    clear k hs a1 b1
    go_enter Try.func115, Try.ntmps115
    go_wp2_with fail
    refine (signedPair s a b _ la ha lb hb).mono ?_
    rintro e w' ⟨rfl, rfl⟩
    go_wp2_with fail
    refine (isBit x _).mono ?_
    rintro e w' ⟨rfl, rfl⟩
    go_wp2_with fail
    refine (wrapSumOf s _ _ _ hs2).mono ?_
    rintro e w' ⟨rfl, rfl⟩
    go_wp2_with fail
    go_ret3
    exact ⟨rIIB HV.out.symm HF.out.symm rfl, rfl⟩

theorem subFlags (s x a b : Int) (w : World) (la : -9223372036854775808 ≤ a) (ha : a ≤ 9223372036854775807) (lb : -9223372036854775808 ≤ b) (hb : b ≤ 9223372036854775807) :
    Calls Try.prog 117 #[iv s, iv x, iv a, iv b] w fun e w' => e = .returned (.tuple #[iv (Pl.subV s x a b), iv (Pl.subF s x a b), .bool (Pl.two s x a b)]) ∧ w' = w := by
  cases k : Pl.two s x a b
  · have HV : Hid (Pl.subV s x a b = 0) := hide (by simp [Pl.subV, k])
    have HF : Hid (Pl.subF s x a b = 0) := hide (by simp [Pl.subF, k])
    have k' : Pl.okv s a = false ∨ Pl.okv s b = false ∨ (Pl.okv s a = true ∧ Pl.okv s b = true ∧ Pl.bit x = false) := by
      revert k
      unfold Pl.two
      cases Pl.okv s a <;> cases Pl.okv s b <;> cases Pl.bit x <;> simp
    clear k
    rcases k' with ka | kb | ⟨ka, kb, kx⟩
    · go_enter Try.func117, Try.ntmps117
      go_wp2_with fail
      refine (signedPair s a b _ la ha lb hb).mono ?_
      rintro e w' ⟨rfl, rfl⟩
      go_wp2_with fail
      go_ret3
      exact ⟨rIIB HV.out.symm HF.out.symm rfl, rfl⟩
    · have kab : (Pl.okv s a && Pl.okv s b) = false := by rw [kb]; simp
      go_enter Try.func117, Try.ntmps117
      go_wp2_with fail
      refine (signedPair s a b _ la ha lb hb).mono ?_
      rintro e w' ⟨rfl, rfl⟩
      go_wp2_with fail
      go_ret3
      exact ⟨rIIB HV.out.symm HF.out.symm rfl, rfl⟩
    · go_enter Try.func117, Try.ntmps117
      go_wp2_with fail
      refine (signedPair s a b _ la ha lb hb).mono ?_
      rintro e w' ⟨rfl, rfl⟩
      go_wp2_with fail
      refine (isBit x _).mono ?_
      rintro e w' ⟨rfl, rfl⟩
      go_wp2_with fail
      go_ret3
      exact ⟨rIIB HV.out.symm HF.out.symm rfl, rfl⟩
  · have HV : Hid (Pl.subV s x a b = (a - b - x) % Pl.top s) := hide (by simp [Pl.subV, k])
    have HF : Hid (Pl.subF s x a b = Pl.keptF s (a - b - x) (Pl.sg s a - Pl.sg s b - x)) := hide (by simp [Pl.subF, k])
    obtain ⟨ka, kb, kx⟩ := Pl.two_ok k
    have ea := Pl.sgnV_ok ka
    have eb := Pl.sgnV_ok kb
    obtain ⟨hs, a0, a1⟩ := Pl.top_ok ka
    obtain ⟨_, b0, b1⟩ := Pl.top_ok kb
    obtain ⟨x0, x1⟩ := Pl.bit_ok kx
    have sa : -32768 ≤ Pl.sg s a ∧ Pl.sg s a ≤ 32767 := by
      rcases hs with ⟨rfl, _⟩ | ⟨rfl, _⟩
      · have := Pl.sg_bd1 a0 a1; omega
      · exact Pl.sg_bd2 a0 a1
    have sb : -32768 ≤ Pl.sg s b ∧ Pl.sg s b ≤ 32767 := by
      rcases hs with ⟨rfl, _⟩ | ⟨rfl, _⟩
      · have := Pl.sg_bd1 b0 b1; omega
      · exact Pl.sg_bd2 b0 b1
    obtain ⟨sa0, sa1⟩ := sa
    obtain ⟨sb0, sb1⟩ := sb
    have a2 : a < 65536 := by omega
    have b2 : b < 65536 := by omega
    have hs2 : s = 1 ∨ s = 2 := by omega
    clear k hs a1 b1
    go_enter Try.func117, Try.ntmps117
    go_wp2_with fail
    refine (signedPair s a b _ la ha lb hb).mono ?_
    rintro e w' ⟨rfl, rfl⟩
    go_wp2_with fail
    refine (isBit x _).mono ?_
    rintro e w' ⟨rfl, rfl⟩
    go_wp2_with fail
    refine (wrapSumOf s _ _ _ hs2).mono ?_
    rintro e w' ⟨rfl, rfl⟩
    go_wp2_with fail
    go_ret3
    exact ⟨rIIB HV.out.symm HF.out.symm rfl, rfl⟩

/-! ### the model's -/

theorem l1Signed1 (v : Int) (w : World) (h0 : 0 ≤ v) (h1 : v < 256) :
    Calls Try.prog 141 #[iv 1, iv v] w fun e w' => e = .returned (iv (Pl.sg 1 v)) ∧ w' = w := by
  by_cases h : 128 ≤ v
  · go_enter Try.func141, Try.ntmps141
    go_wp2_with fail
    refine (l1Top1 _).mono ?_
    rintro e w' ⟨rfl, rfl⟩
    go_wp2_with fail
    refine (l1Top1 _).mono ?_
    rintro e w' ⟨rfl, rfl⟩
    go_wp2_with fail
    go_ret
    exact ⟨rI (by simp [Pl.sg, Pl.top]; omega), rfl⟩
  · go_enter Try.func141, Try.ntmps141
    go_wp2_with fail
    refine (l1Top1 _).mono ?_
    rintro e w' ⟨rfl, rfl⟩
    go_wp2_with fail
    go_ret
    exact ⟨rI (by simp [Pl.sg, Pl.top]; omega), rfl⟩

theorem l1Signed2 (v : Int) (w : World) (h0 : 0 ≤ v) (h1 : v < 65536) :
    Calls Try.prog 141 #[iv 2, iv v] w fun e w' => e = .returned (iv (Pl.sg 2 v)) ∧ w' = w := by
  by_cases h : 32768 ≤ v
  · go_enter Try.func141, Try.ntmps141
    go_wp2_with fail
    refine (l1Top2 _).mono ?_
    rintro e w' ⟨rfl, rfl⟩
    go_wp2_with fail
    refine (l1Top2 _).mono ?_
    rintro e w' ⟨rfl, rfl⟩
    go_wp2_with fail
    go_ret
    exact ⟨rI (by simp [Pl.sg, Pl.top]; omega), rfl⟩
  · go_enter Try.func141, Try.ntmps141
    go_wp2_with fail
    refine (l1Top2 _).mono ?_
    rintro e w' ⟨rfl, rfl⟩
    go_wp2_with fail
    go_ret
    exact ⟨rI (by simp [Pl.sg, Pl.top]; omega), rfl⟩

end Go.Proofs.Ytnmddmmmgdfknaa

namespace Go.Proofs.Ytnmddmmmgdfknaa
open Go.RowKit
set_option linter.unusedVariables false

theorem l1Add1 (x a b : Int) (w : World) (a0 : 0 ≤ a) (a1 : a < 256) (b0 : 0 ≤ b) (b1 : b < 256) (x0 : 0 ≤ x) (x1 : x ≤ 1) :
    Calls Try.prog 124 #[iv 1, iv x, iv a, iv b] w fun e w' => e = .returned (.tuple #[iv ((a + b + x) % 256), iv (Pl.keptF 1 (a + b + x) (Pl.sg 1 a + Pl.sg 1 b + x))]) ∧ w' = w := by
  have em := Pl.and255 (a + b + x)
  obtain ⟨sa0, sa1⟩ := Pl.sg_bd1 a0 a1
  obtain ⟨sb0, sb1⟩ := Pl.sg_bd1 b0 b1
  go_enter Try.func124, Try.ntmps124
  go_wp2_with fail
  refine (l1Top1 _).mono ?_
  rintro e w' ⟨rfl, rfl⟩
  go_wp2_with fail
  refine (l1Signed1 a _ a0 a1).mono ?_
  rintro e w' ⟨rfl, rfl⟩
  go_wp2_with fail
  refine (l1Signed1 b _ b0 b1).mono ?_
  rintro e w' ⟨rfl, rfl⟩
  go_wp2_with fail
  refine (l1Flag _ _ _).mono ?_
  rintro e w' ⟨rfl, rfl⟩
  go_wp2_with fail
  refine (l1Signed1 ((a + b + x) % 256) _ (by omega) (by omega)).mono ?_
  rintro e w' ⟨rfl, rfl⟩
  go_wp2_with fail
  refine (l1Flag _ _ _).mono ?_
  rintro e w' ⟨rfl, rfl⟩
  go_wp2_with fail
  refine (l1Zn1 _ _).mono ?_
  rintro e w' ⟨rfl, rfl⟩
  go_wp2_with fail
  go_ret2
  exact ⟨rII rfl (Pl.skept1 _ _), rfl⟩

theorem l1Add2 (x a b : Int) (w : World) (a0 : 0 ≤ a) (a1 : a < 65536) (b0 : 0 ≤ b) (b1 : b < 65536) (x0 : 0 ≤ x) (x1 : x ≤ 1) :
    Calls Try.prog 124 #[iv 2, iv x, iv a, iv b] w fun e w' => e = .returned (.tuple #[iv ((a + b + x) % 65536), iv (Pl.keptF 2 (a + b + x) (Pl.sg 2 a + Pl.sg 2 b + x))]) ∧ w' = w := by
  have em := Pl.and65535 (a + b + x)
  obtain ⟨sa0, sa1⟩ := Pl.sg_bd2 a0 a1
  obtain ⟨sb0, sb1⟩ := Pl.sg_bd2 b0 b1
  go_enter Try.func124, Try.ntmps124
  go_wp2_with fail
  refine (l1Top2 _).mono ?_
  rintro e w' ⟨rfl, rfl⟩
  go_wp2_with fail
  refine (l1Signed2 a _ a0 a1).mono ?_
  rintro e w' ⟨rfl, rfl⟩
  go_wp2_with fail
  refine (l1Signed2 b _ b0 b1).mono ?_
  rintro e w' ⟨rfl, rfl⟩
  go_wp2_with fail
  refine (l1Flag _ _ _).mono ?_
  rintro e w' ⟨rfl, rfl⟩
  go_wp2_with fail
  refine (l1Signed2 ((a + b + x) % 65536) _ (by omega) (by omega)).mono ?_
  rintro e w' ⟨rfl, rfl⟩
  go_wp2_with fail
  refine (l1Flag _ _ _).mono ?_
  rintro e w' ⟨rfl, rfl⟩
  go_wp2_with fail
  refine (l1Zn2 _ _).mono ?_
  rintro e w' ⟨rfl, rfl⟩
  go_wp2_with fail
  go_ret2
  exact ⟨rII rfl (Pl.skept2 _ _), rfl⟩

theorem l1Sub1 (x a b : Int) (w : World) (a0 : 0 ≤ a) (a1 : a < 256) (b0 : 0 ≤ b) (b1 : b < 256) (x0 : 0 ≤ x) (x1 : x ≤ 1) :
    Calls Try.prog 125 #[iv 1, iv x, iv a, iv b] w fun e w' => e = .returned (.tuple #[iv ((a - b - x) % 256), iv (Pl.keptF 1 (a - b - x) (Pl.sg 1 a - Pl.sg 1 b - x))]) ∧ w' = w := by
  have em := Pl.and255 (a - b - x)
  obtain ⟨sa0, sa1⟩ := Pl.sg_bd1 a0 a1
  obtain ⟨sb0, sb1⟩ := Pl.sg_bd1 b0 b1
  go_enter Try.func125, Try.ntmps125
  go_wp2_with fail
  refine (l1Top1 _).mono ?_
  rintro e w' ⟨rfl, rfl⟩
  go_wp2_with fail
  refine (l1Signed1 a _ a0 a1).mono ?_
  rintro e w' ⟨rfl, rfl⟩
  go_wp2_with fail
  refine (l1Signed1 b _ b0 b1).mono ?_
  rintro e w' ⟨rfl, rfl⟩
  go_wp2_with fail
  refine (l1Flag _ _ _).mono ?_
  rintro e w' ⟨rfl, rfl⟩
  go_wp2_with fail
  refine (l1Signed1 ((a - b - x) % 256) _ (by omega) (by omega)).mono ?_
  rintro e w' ⟨rfl, rfl⟩
  go_wp2_with fail
  refine (l1Flag _ _ _).mono ?_
  rintro e w' ⟨rfl, rfl⟩
  go_wp2_with fail
  refine (l1Zn1 _ _).mono ?_
  rintro e w' ⟨rfl, rfl⟩
  go_wp2_with fail
  go_ret2
  exact ⟨rII rfl (Pl.sbelow1 _ _ (by omega)), rfl⟩

theorem l1Sub2 (x a b : Int) (w : World) (a0 : 0 ≤ a) (a1 : a < 65536) (b0 : 0 ≤ b) (b1 : b < 65536) (x0 : 0 ≤ x) (x1 : x ≤ 1) :
    Calls Try.prog 125 #[iv 2, iv x, iv a, iv b] w fun e w' => e = .returned (.tuple #[iv ((a - b - x) % 65536), iv (Pl.keptF 2 (a - b - x) (Pl.sg 2 a - Pl.sg 2 b - x))]) ∧ w' = w := by
  have em := Pl.and65535 (a - b - x)
  obtain ⟨sa0, sa1⟩ := Pl.sg_bd2 a0 a1
  obtain ⟨sb0, sb1⟩ := Pl.sg_bd2 b0 b1
  go_enter Try.func125, Try.ntmps125
  go_wp2_with fail
  refine (l1Top2 _).mono ?_
  rintro e w' ⟨rfl, rfl⟩
  go_wp2_with fail
  refine (l1Signed2 a _ a0 a1).mono ?_
  rintro e w' ⟨rfl, rfl⟩
  go_wp2_with fail
  refine (l1Signed2 b _ b0 b1).mono ?_
  rintro e w' ⟨rfl, rfl⟩
  go_wp2_with fail
  refine (l1Flag _ _ _).mono ?_
  rintro e w' ⟨rfl, rfl⟩
  go_wp2_with fail
  refine (l1Signed2 ((a - b - x) % 65536) _ (by omega) (by omega)).mono ?_
  rintro e w' ⟨rfl, rfl⟩
  go_wp2_with fail
  refine (l1Flag _ _ _).mono ?_
  rintro e w' ⟨rfl, rfl⟩
  go_wp2_with fail
  refine (l1Zn2 _ _).mono ?_
  rintro e w' ⟨rfl, rfl⟩
  go_wp2_with fail
  go_ret2
  exact ⟨rII rfl (Pl.sbelow2 _ _ (by omega)), rfl⟩

end Go.Proofs.Ytnmddmmmgdfknaa

namespace Go.Proofs.Ytnmddmmmgdfknaa
open Go.RowKit
set_option linter.unusedVariables false

theorem cmpFlags (s f a b : Int) (w : World) (la : -9223372036854775808 ≤ a) (ha : a ≤ 9223372036854775807) (lb : -9223372036854775808 ≤ b) (hb : b ≤ 9223372036854775807) :
    Calls Try.prog 119 #[iv s, iv f, iv a, iv b] w fun e w' => e = .returned (.tuple #[iv (Pl.cmpF s f a b), .bool (Pl.two s 0 a b && Pl.flags f)]) ∧ w' = w := by
  cases k : Pl.two s 0 a b
  · have HV : Hid (Pl.cmpF s f a b = 0) := hide (by simp [Pl.cmpF, k])
    go_enter Try.func119, Try.ntmps119
    go_wp2_with fail
    refine (subFlags s 0 a b _ la ha lb hb).mono ?_
    rintro e w' ⟨rfl, rfl⟩
    go_wp2_with fail
    go_ret2
    exact ⟨rIB HV.out.symm rfl, rfl⟩
  · cases kf : Pl.flags f
    · have HV : Hid (Pl.cmpF s f a b = 0) := hide (by simp [Pl.cmpF, kf])
      go_enter Try.func119, Try.ntmps119
      go_wp2_with fail
      refine (subFlags s 0 a b _ la ha lb hb).mono ?_
      rintro e w' ⟨rfl, rfl⟩
      go_wp2_with fail
      refine (isFlags f _).mono ?_
      rintro e w' ⟨rfl, rfl⟩
      go_wp2_with fail
      go_ret2
      exact ⟨rIB HV.out.symm rfl, rfl⟩
    · have HV : Hid (Pl.cmpF s f a b = bits .or .i64 (bits .andNot .i64 (Pl.subF s 0 a b) 16) (bits .and .i64 f 16)) := hide (by simp only [Pl.cmpF, k, kf, Bool.and_self, if_true, Pl.andNot16 _ (Pl.subF_bd s 0 a b).1 (Pl.subF_bd s 0 a b).2])
      go_enter Try.func119, Try.ntmps119
      go_wp2_with fail
      refine (subFlags s 0 a b _ la ha lb hb).mono ?_
      rintro e w' ⟨rfl, rfl⟩
      go_wp2_with fail
      refine (isFlags f _).mono ?_
      rintro e w' ⟨rfl, rfl⟩
      go_wp2_with fail
      go_ret2
      exact ⟨rIB HV.out.symm rfl, rfl⟩

theorem l1SubOk (s x a b : Int) (w : World) (h : Pl.two s x a b = true) :
    Calls Try.prog 125 #[iv s, iv x, iv a, iv b] w fun e w' => e = .returned (.tuple #[iv (Pl.subV s x a b), iv (Pl.subF s x a b)]) ∧ w' = w := by
  have HV : Pl.subV s x a b = (a - b - x) % Pl.top s := by simp [Pl.subV, h]
  have HF : Pl.subF s x a b = Pl.keptF s (a - b - x) (Pl.sg s a - Pl.sg s b - x) := by simp [Pl.subF, h]
  rw [HV, HF]
  obtain ⟨ka, kb, kx⟩ := Pl.two_ok h
  obtain ⟨hs, a0, a1⟩ := Pl.top_ok ka
  obtain ⟨_, b0, b1⟩ := Pl.top_ok kb
  obtain ⟨x0, x1⟩ := Pl.bit_ok kx
  rcases hs with ⟨rfl, _⟩ | ⟨rfl, _⟩
  · exact l1Sub1 x a b w a0 a1 b0 b1 x0 x1
  · exact l1Sub2 x a b w a0 a1 b0 b1 x0 x1

theorem l1Cmp (s f a b : Int) (w : World) (h : Pl.two s 0 a b = true) :
    Calls Try.prog 126 #[iv s, iv f, iv a, iv b] w fun e w' => e = .returned (iv (bits .or .i64 (bits .and .i64 (Pl.subF s 0 a b) 15) (bits .and .i64 f 16))) ∧ w' = w := by
  go_enter Try.func126, Try.ntmps126
  go_wp2_with fail
  refine (l1SubOk s 0 a b _ h).mono ?_
  rintro e w' ⟨rfl, rfl⟩
  go_wp2_with fail
  go_ret
  exact ⟨rfl, rfl⟩

theorem logicFlags (s f v : Int) (w : World) (lv : -9223372036854775808 ≤ v) (hv : v ≤ 9223372036854775807) :
    Calls Try.prog 121 #[iv s, iv f, iv v] w fun e w' => e = .returned (.tuple #[iv (Pl.logF s f v), .bool (Pl.okv s v && Pl.flags f)]) ∧ w' = w := by
  cases k : Pl.okv s v
  · have HV : Hid (Pl.logF s f v = 0) := hide (by simp [Pl.logF, k])
    go_enter Try.func121, Try.ntmps121
    go_wp2_with fail
    refine (signedOf s v _ lv hv).mono ?_
    rintro e w' ⟨rfl, rfl⟩
    go_wp2_with fail
    go_ret2
    exact ⟨rIB HV.out.symm rfl, rfl⟩
  · cases kf : Pl.flags f
    · have HV : Hid (Pl.logF s f v = 0) := hide (by simp [Pl.logF, kf])
      go_enter Try.func121, Try.ntmps121
      go_wp2_with fail
      refine (signedOf s v _ lv hv).mono ?_
      rintro e w' ⟨rfl, rfl⟩
      go_wp2_with fail
      refine (isFlags f _).mono ?_
      rintro e w' ⟨rfl, rfl⟩
      go_wp2_with fail
      go_ret2
      exact ⟨rIB HV.out.symm rfl, rfl⟩
    · have HV : Hid (Pl.logF s f v = bits .or .i64 (Pl.keptF s v (Pl.sgnV s v)) (bits .and .i64 f 16)) := hide (by
        simp only [Pl.logF, k, kf, Bool.and_self, if_true, Pl.sgnV_ok k, Pl.keptSelf k]; rw [Pl.or_comm])
      have hs : s = 1 ∨ s = 2 := by have := Pl.top_ok k; omega
      go_enter Try.func121, Try.ntmps121
      go_wp2_with fail
      refine (signedOf s v _ lv hv).mono ?_
      rintro e w' ⟨rfl, rfl⟩
      go_wp2_with fail
      refine (isFlags f _).mono ?_
      rintro e w' ⟨rfl, rfl⟩
      go_wp2_with fail
      refine (wrapSumOf s _ _ _ hs).mono ?_
      rintro e w' ⟨rfl, rfl⟩
      go_wp2_with fail
      go_ret2
      exact ⟨rIB HV.out.symm rfl, rfl⟩

theorem l1ZnOk (s v : Int) (w : World) (h : Pl.okv s v = true) :
    Calls Try.prog 107 #[iv s, iv v] w fun e w' => e = .returned (iv (bits .or .i64 (Pl.fl (v == 0) 4) (Pl.fl (decide (Pl.sg s v < 0)) 8))) ∧ w' = w := by
  obtain ⟨hs, h0, h1⟩ := Pl.top_ok h
  rcases hs with ⟨rfl, _⟩ | ⟨rfl, _⟩
  · rw [← Pl.neg1 h0 h1]; exact l1Zn1 v w
  · rw [← Pl.neg2 h0 h1]; exact l1Zn2 v w

theorem l1Logic (s f v : Int) (w : World) (h : Pl.okv s v = true) :
    Calls Try.prog 127 #[iv s, iv f, iv v] w fun e w' => e = .returned (iv (bits .or .i64 (bits .and .i64 f 16) (bits .or .i64 (Pl.fl (v == 0) 4) (Pl.fl (decide (Pl.sg s v < 0)) 8)))) ∧ w' = w := by
  go_enter Try.func127, Try.ntmps127
  go_wp2_with fail
  refine (l1ZnOk s v _ h).mono ?_
  rintro e w' ⟨rfl, rfl⟩
  go_wp2_with fail
  go_ret
  exact ⟨rfl, rfl⟩

end Go.Proofs.Ytnmddmmmgdfknaa

namespace Go.Proofs.Ytnmddmmmgdfknaa
open Go.RowKit
set_option linter.unusedVariables false
theorem eqFo (a b : Pl.Fo) (w : World) : (binOp .eql 47 (.agg #[iv a.k, iv a.z, iv a.a, iv a.b]) (.agg #[iv b.k, iv b.z, iv b.a, iv b.b])).run Try.prog w = .ok (.bool (Pl.foSame a b)) w := by
  obtain ⟨a1, a2, a3, a4⟩ := a
  obtain ⟨b1, b2, b3, b4⟩ := b
  unfold Pl.foSame
  go_simp
  by_cases h1 : a1 = b1
  · by_cases h2 : a2 = b2
    · by_cases h3 : a3 = b3
      · by_cases h4 : a4 = b4
        · simp [h1, h2, h3, h4]
        · simp [h1, h2, h3, h4]
      · simp [h1, h2, h3]
    · simp [h1, h2]
  · simp [h1]
theorem eqFo0 (a : Pl.Fo) (w : World) : (binOp .eql 47 (.agg #[iv a.k, iv a.z, iv a.a, iv a.b]) (.agg #[iv 0, iv 0, iv 0, iv 0])).run Try.prog w = .ok (.bool (Pl.foNone a)) w := by
  obtain ⟨a1, a2, a3, a4⟩ := a
  unfold Pl.foNone
  go_simp
  by_cases h1 : a1 = 0 <;> by_cases h2 : a2 = 0 <;> by_cases h3 : a3 = 0 <;> by_cases h4 : a4 = 0 <;> simp [h1, h2, h3, h4]
theorem specNone (w : World) (x : Pl.Fo) : Calls Try.prog 132 #[.agg (foA x)] w fun e w' => e = .returned (.bool (Pl.foNone x)) ∧ Kept 0 0 w w' := by
  have he := eqFo0 x
  go_enter Try.func132, Try.ntmps132
  go_wp2_with fail
  go_ret
  exact ⟨rfl, kept_alloc _ _⟩
theorem specSum (w : World) (x : Pl.Fo) : Calls Try.prog 113 #[.agg (foA x)] w fun e w' => e = .returned (.bool (Pl.sumK x.k)) ∧ Kept 0 0 w w' := by
  obtain ⟨k, z, a, b⟩ := x
  by_cases h1 : k = 1
  · subst h1
    go_enter Try.func113, Try.ntmps113
    go_wp2_with fail
    go_ret
    exact ⟨rfl, kept_alloc _ _⟩
  · by_cases h2 : k = 2
    · subst h2
      go_enter Try.func113, Try.ntmps113
      go_wp2_with fail
      go_ret
      exact ⟨rfl, kept_alloc _ _⟩
    · have k1 : (k == 1) = false := by simpa using h1
      have k2 : (k == 2) = false := by simpa using h2
      go_enter Try.func113, Try.ntmps113
      go_wp2_with fail
      go_ret
      exact ⟨rB (by simp [Pl.sumK, h1, h2]), kept_alloc _ _⟩
theorem specFo (w : World) (x : Pl.Fo) : Calls Try.prog 112 #[.agg (foA x)] w fun e w' => e = .returned (.bool (Pl.foOk x)) ∧ Kept 0 0 w w' := by
  cases h1 : Pl.okv x.z x.a
  · go_enter Try.func112, Try.ntmps112
    go_wp2_with (go_at_call 70; refine st (l1Value _ _ _) ?_; rw [h1])
    go_ret
    exact ⟨rB (by simp [Pl.foOk, h1]), kept_alloc _ _⟩
  · cases h2 : Pl.okv x.z x.b
    · go_enter Try.func112, Try.ntmps112
      go_wp2_with (go_at_call 70; refine st (l1Value _ _ _) ?_; first | rw [h1] | rw [h2])
      go_ret
      exact ⟨rB (by simp [Pl.foOk, h1, h2]), kept_alloc _ _⟩
    · by_cases h3 : 1 ≤ x.k ∧ x.k ≤ 5
      · have h3b : (decide (1 ≤ x.k) && decide (x.k ≤ 5)) = true := by simp [h3]
        by_cases h4 : x.k ≤ 3
        all_goals
          go_enter Try.func112, Try.ntmps112
          go_wp2_with (first | (go_at_call 70; refine st (l1Value _ _ _) ?_; first | rw [h1] | rw [h2]) | (go_at_call 57; refine st (l1In _ _ _ _) ?_; rw [h3b]))
          go_ret
          exact ⟨rB (by simp [Pl.foOk, h1, h2, h3, h4]), kept_alloc _ _⟩
      · have h3b : (decide (1 ≤ x.k) && decide (x.k ≤ 5)) = false := by simp; omega
        go_enter Try.func112, Try.ntmps112
        go_wp2_with (first | (go_at_call 70; refine st (l1Value _ _ _) ?_; first | rw [h1] | rw [h2]) | (go_at_call 57; refine st (l1In _ _ _ _) ?_; rw [h3b]))
        go_ret
        exact ⟨rB (by simp [Pl.foOk, h1, h2, h3b]), kept_alloc _ _⟩
theorem l1AddOk (s x a b : Int) (w : World) (h : Pl.two s x a b = true) :
    Calls Try.prog 124 #[iv s, iv x, iv a, iv b] w fun e w' => e = .returned (.tuple #[iv (Pl.addV s x a b), iv (Pl.addF s x a b)]) ∧ w' = w := by
  have HV : Pl.addV s x a b = (a + b + x) % Pl.top s := by simp [Pl.addV, h]
  have HF : Pl.addF s x a b = Pl.keptF s (a + b + x) (Pl.sg s a + Pl.sg s b + x) := by simp [Pl.addF, h]
  rw [HV, HF]
  obtain ⟨ka, kb, kx⟩ := Pl.two_ok h
  obtain ⟨hs, a0, a1⟩ := Pl.top_ok ka
  obtain ⟨_, b0, b1⟩ := Pl.top_ok kb
  obtain ⟨x0, x1⟩ := Pl.bit_ok kx
  rcases hs with ⟨rfl, _⟩ | ⟨rfl, _⟩
  · exact l1Add1 x a b w a0 a1 b0 b1 x0 x1
  · exact l1Add2 x a b w a0 a1 b0 b1 x0 x1
/-- what an operation makes of flags -/
theorem specMake (w : World) (f : Int) (x : Pl.Fo) (h : Pl.foOk x = true) (hf : Pl.flags f = true) : Calls Try.prog 79 #[iv f, .agg (foA x)] w fun e w' => e = .returned (iv (Pl.mk f x)) ∧ Kept 0 0 w w' := by
  obtain ⟨h1, h2, h3, h4, h5⟩ := Pl.foOk_ok h
  have hk : x.k = 1 ∨ x.k = 2 ∨ x.k = 3 ∨ x.k = 4 ∨ x.k = 5 := by omega
  obtain ⟨k, z, a, b⟩ := x
  simp only at h1 h2 h5 hk
  clear h h3 h4
  rcases hk with rfl | rfl | rfl | rfl | rfl
  · have HV : Hid (Pl.mk f ⟨1, z, a, b⟩ = Pl.addF z 0 a b) := hide (by simp [Pl.mk])
    go_enter Try.func79, Try.ntmps79
    go_wp2_with (go_at_call 124; refine st (l1AddOk _ _ _ _ _ h5) ?_)
    go_ret
    exact ⟨rI HV.out.symm, kept_alloc _ _⟩
  · have HV : Hid (Pl.mk f ⟨2, z, a, b⟩ = Pl.subF z 0 a b) := hide (by simp [Pl.mk])
    go_enter Try.func79, Try.ntmps79
    go_wp2_with (go_at_call 125; refine st (l1SubOk _ _ _ _ _ h5) ?_)
    go_ret
    exact ⟨rI HV.out.symm, kept_alloc _ _⟩
  · have HV : Hid (Pl.mk f ⟨3, z, a, b⟩ = bits .or .i64 (bits .and .i64 (Pl.subF z 0 a b) 15) (bits .and .i64 f 16)) := hide (by simp [Pl.mk, Pl.cmpF, h5, hf])
    go_enter Try.func79, Try.ntmps79
    go_wp2_with (go_at_call 126; refine st (l1Cmp _ _ _ _ _ h5) ?_)
    go_ret
    exact ⟨rI HV.out.symm, kept_alloc _ _⟩
  · have HV : Hid (Pl.mk f ⟨4, z, a, b⟩ = bits .or .i64 (bits .and .i64 f 16) (bits .or .i64 (Pl.fl (a == 0) 4) (Pl.fl (decide (Pl.sg z a < 0)) 8))) := hide (by simp [Pl.mk, Pl.logF, h1, hf])
    go_enter Try.func79, Try.ntmps79
    go_wp2_with (go_at_call 127; refine st (l1Logic _ _ _ _ h1) ?_)
    go_ret
    exact ⟨rI HV.out.symm, kept_alloc _ _⟩
  · have hg : Pl.goodK 4 z f a = true := by simp [Pl.goodK, h1, hf]
    have HV : Hid (Pl.mk f ⟨5, z, a, b⟩ = Pl.onF 4 z (f / 16) a) := hide (by simp [Pl.mk, Pl.onceF, hg])
    obtain ⟨k0, k1, _, f0, f1, hfit⟩ := Pl.goodK_ok hg
    go_enter Try.func79, Try.ntmps79
    go_wp2_with (go_at_call 61; refine st (l3Once 4 _ _ _ _ k0 k1 f0 f1 hfit) ?_)
    go_ret
    exact ⟨rI HV.out.symm, kept_alloc _ _⟩
end Go.Proofs.Ytnmddmmmgdfknaa

namespace Go.Proofs.Ytnmddmmmgdfknaa
open Go.RowKit
set_option linter.unusedVariables false
/-- whether a note is good, as the model asks it -/
def Pl.lzM (z : Pl.Lz) : Bool := bif !Pl.flags z.b || (!Pl.foNone z.l && !Pl.foOk z.l) then false else bif Pl.foNone z.r then !Pl.sumK z.l.k else bif !Pl.sumK z.r.k || (!Pl.foOk z.r || Pl.foNone z.l) then false else !Pl.sumK z.l.k || Pl.foSame z.l z.r
theorem Pl.lzM_eq (z : Pl.Lz) : Pl.lzM z = Pl.lzOk z := by
  unfold Pl.lzM Pl.lzOk
  cases hF : Pl.flags z.b
  · rfl
  · cases hl : Pl.foNone z.l
    · cases ho : Pl.foOk z.l
      · rfl
      · cases hr : Pl.foNone z.r
        · cases hs : Pl.sumK z.l.k
          · cases h1 : Pl.sumK z.r.k <;> cases h2 : Pl.foOk z.r <;> rfl
          · cases h1 : Pl.sumK z.r.k
            · cases h3 : Pl.foSame z.r z.l
              · rfl
              · rw [Pl.foSame_ok h3, hs] at h1; cases h1
            · cases h2 : Pl.foOk z.r
              · cases h3 : Pl.foSame z.r z.l
                · rfl
                · rw [Pl.foSame_ok h3, ho] at h2; cases h2
              · show Pl.foSame z.l z.r = Pl.foSame z.r z.l
                exact Pl.foSame_comm _ _
        · cases hs : Pl.sumK z.l.k
          · rfl
          · cases h3 : Pl.foSame z.r z.l
            · rfl
            · rw [Pl.foSame_ok h3, hl] at hr; cases hr
    · have hs : Pl.sumK z.l.k = false := by rw [Pl.foNone_ok hl]; rfl
      rw [hs]
      cases hr : Pl.foNone z.r
      · cases h1 : Pl.sumK z.r.k <;> cases h2 : Pl.foOk z.r <;> rfl
      · rfl
set_option maxRecDepth 100000 in
set_option maxHeartbeats 4000000 in
theorem specGoodLazy (w : World) (z : Pl.Lz) : Calls Try.prog 90 #[.agg (lzA z)] w fun e w' => e = .returned (.bool (Pl.lzOk z)) ∧ Kept 0 0 w w' := by
  have he := eqFo z.l z.r
  have K0 := hide (kept_alloc w (.cells (lzA z) 49))
  have B0 := hide (Blk.new w (lzA z) 49)
  have q := B0.out.all
  rw [← Pl.lzM_eq]
  cases F : Pl.flags z.b
  · go_enter Try.func90, Try.ntmps90
    go_wp2_with (first | (go_at_call 74; refine st (l1Flags _ _) ?_; rw [F]) | (go_at_call 132; (first | (with_reducible refine (specNone _ z.l).mono ?_; rw [NL]) | (with_reducible refine (specNone _ z.r).mono ?_; rw [NR])); rintro e9 w9 ⟨rfl, k9⟩; replace K0 := hide (K0.out.trans k9); replace B0 := hide (B0.out.kept0 k9); clear q; have q := B0.out.all; clear k9) | (go_at_call 112; (first | (with_reducible refine (specFo _ z.l).mono ?_; rw [OL]) | (with_reducible refine (specFo _ z.r).mono ?_; rw [OR])); rintro e9 w9 ⟨rfl, k9⟩; replace K0 := hide (K0.out.trans k9); replace B0 := hide (B0.out.kept0 k9); clear q; have q := B0.out.all; clear k9) | (go_at_call 113; (first | (with_reducible refine (specSum _ z.l).mono ?_; rw [SL]) | (with_reducible refine (specSum _ z.r).mono ?_; rw [SR])); rintro e9 w9 ⟨rfl, k9⟩; replace K0 := hide (K0.out.trans k9); replace B0 := hide (B0.out.kept0 k9); clear q; have q := B0.out.all; clear k9))
    go_ret
    exact ⟨rB (by simp [Pl.lzM, F]), K0.out⟩
  · cases NL : Pl.foNone z.l
    · cases OL : Pl.foOk z.l
      · go_enter Try.func90, Try.ntmps90
        go_wp2_with (first | (go_at_call 74; refine st (l1Flags _ _) ?_; rw [F]) | (go_at_call 132; (first | (with_reducible refine (specNone _ z.l).mono ?_; rw [NL]) | (with_reducible refine (specNone _ z.r).mono ?_; rw [NR])); rintro e9 w9 ⟨rfl, k9⟩; replace K0 := hide (K0.out.trans k9); replace B0 := hide (B0.out.kept0 k9); clear q; have q := B0.out.all; clear k9) | (go_at_call 112; (first | (with_reducible refine (specFo _ z.l).mono ?_; rw [OL]) | (with_reducible refine (specFo _ z.r).mono ?_; rw [OR])); rintro e9 w9 ⟨rfl, k9⟩; replace K0 := hide (K0.out.trans k9); replace B0 := hide (B0.out.kept0 k9); clear q; have q := B0.out.all; clear k9) | (go_at_call 113; (first | (with_reducible refine (specSum _ z.l).mono ?_; rw [SL]) | (with_reducible refine (specSum _ z.r).mono ?_; rw [SR])); rintro e9 w9 ⟨rfl, k9⟩; replace K0 := hide (K0.out.trans k9); replace B0 := hide (B0.out.kept0 k9); clear q; have q := B0.out.all; clear k9))
        go_ret
        exact ⟨rB (by simp [Pl.lzM, F, NL, OL]), K0.out⟩
      · cases NR : Pl.foNone z.r
        · cases SR : Pl.sumK z.r.k
          · go_enter Try.func90, Try.ntmps90
            go_wp2_with (first | (go_at_call 74; refine st (l1Flags _ _) ?_; rw [F]) | (go_at_call 132; (first | (with_reducible refine (specNone _ z.l).mono ?_; rw [NL]) | (with_reducible refine (specNone _ z.r).mono ?_; rw [NR])); rintro e9 w9 ⟨rfl, k9⟩; replace K0 := hide (K0.out.trans k9); replace B0 := hide (B0.out.kept0 k9); clear q; have q := B0.out.all; clear k9) | (go_at_call 112; (first | (with_reducible refine (specFo _ z.l).mono ?_; rw [OL]) | (with_reducible refine (specFo _ z.r).mono ?_; rw [OR])); rintro e9 w9 ⟨rfl, k9⟩; replace K0 := hide (K0.out.trans k9); replace B0 := hide (B0.out.kept0 k9); clear q; have q := B0.out.all; clear k9) | (go_at_call 113; (first | (with_reducible refine (specSum _ z.l).mono ?_; rw [SL]) | (with_reducible refine (specSum _ z.r).mono ?_; rw [SR])); rintro e9 w9 ⟨rfl, k9⟩; replace K0 := hide (K0.out.trans k9); replace B0 := hide (B0.out.kept0 k9); clear q; have q := B0.out.all; clear k9))
            go_ret
            exact ⟨rB (by simp [Pl.lzM, F, NL, OL, NR, SR]), K0.out⟩
          · cases OR : Pl.foOk z.r
            · go_enter Try.func90, Try.ntmps90
              go_wp2_with (first | (go_at_call 74; refine st (l1Flags _ _) ?_; rw [F]) | (go_at_call 132; (first | (with_reducible refine (specNone _ z.l).mono ?_; rw [NL]) | (with_reducible refine (specNone _ z.r).mono ?_; rw [NR])); rintro e9 w9 ⟨rfl, k9⟩; replace K0 := hide (K0.out.trans k9); replace B0 := hide (B0.out.kept0 k9); clear q; have q := B0.out.all; clear k9) | (go_at_call 112; (first | (with_reducible refine (specFo _ z.l).mono ?_; rw [OL]) | (with_reducible refine (specFo _ z.r).mono ?_; rw [OR])); rintro e9 w9 ⟨rfl, k9⟩; replace K0 := hide (K0.out.trans k9); replace B0 := hide (B0.out.kept0 k9); clear q; have q := B0.out.all; clear k9) | (go_at_call 113; (first | (with_reducible refine (specSum _ z.l).mono ?_; rw [SL]) | (with_reducible refine (specSum _ z.r).mono ?_; rw [SR])); rintro e9 w9 ⟨rfl, k9⟩; replace K0 := hide (K0.out.trans k9); replace B0 := hide (B0.out.kept0 k9); clear q; have q := B0.out.all; clear k9))
              go_ret
              exact ⟨rB (by simp [Pl.lzM, F, NL, OL, NR, SR, OR]), K0.out⟩
            · cases SL : Pl.sumK z.l.k
              · go_enter Try.func90, Try.ntmps90
                go_wp2_with (first | (go_at_call 74; refine st (l1Flags _ _) ?_; rw [F]) | (go_at_call 132; (first | (with_reducible refine (specNone _ z.l).mono ?_; rw [NL]) | (with_reducible refine (specNone _ z.r).mono ?_; rw [NR])); rintro e9 w9 ⟨rfl, k9⟩; replace K0 := hide (K0.out.trans k9); replace B0 := hide (B0.out.kept0 k9); clear q; have q := B0.out.all; clear k9) | (go_at_call 112; (first | (with_reducible refine (specFo _ z.l).mono ?_; rw [OL]) | (with_reducible refine (specFo _ z.r).mono ?_; rw [OR])); rintro e9 w9 ⟨rfl, k9⟩; replace K0 := hide (K0.out.trans k9); replace B0 := hide (B0.out.kept0 k9); clear q; have q := B0.out.all; clear k9) | (go_at_call 113; (first | (with_reducible refine (specSum _ z.l).mono ?_; rw [SL]) | (with_reducible refine (specSum _ z.r).mono ?_; rw [SR])); rintro e9 w9 ⟨rfl, k9⟩; replace K0 := hide (K0.out.trans k9); replace B0 := hide (B0.out.kept0 k9); clear q; have q := B0.out.all; clear k9))
                go_ret
                exact ⟨rB (by simp [Pl.lzM, F, NL, OL, NR, SR, OR, SL]), K0.out⟩
              · go_enter Try.func90, Try.ntmps90
                go_wp2_with (first | (go_at_call 74; refine st (l1Flags _ _) ?_; rw [F]) | (go_at_call 132; (first | (with_reducible refine (specNone _ z.l).mono ?_; rw [NL]) | (with_reducible refine (specNone _ z.r).mono ?_; rw [NR])); rintro e9 w9 ⟨rfl, k9⟩; replace K0 := hide (K0.out.trans k9); replace B0 := hide (B0.out.kept0 k9); clear q; have q := B0.out.all; clear k9) | (go_at_call 112; (first | (with_reducible refine (specFo _ z.l).mono ?_; rw [OL]) | (with_reducible refine (specFo _ z.r).mono ?_; rw [OR])); rintro e9 w9 ⟨rfl, k9⟩; replace K0 := hide (K0.out.trans k9); replace B0 := hide (B0.out.kept0 k9); clear q; have q := B0.out.all; clear k9) | (go_at_call 113; (first | (with_reducible refine (specSum _ z.l).mono ?_; rw [SL]) | (with_reducible refine (specSum _ z.r).mono ?_; rw [SR])); rintro e9 w9 ⟨rfl, k9⟩; replace K0 := hide (K0.out.trans k9); replace B0 := hide (B0.out.kept0 k9); clear q; have q := B0.out.all; clear k9))
                go_ret
                exact ⟨rB (by simp [Pl.lzM, F, NL, OL, NR, SR, OR, SL]), K0.out⟩
        · cases SL : Pl.sumK z.l.k
          · go_enter Try.func90, Try.ntmps90
            go_wp2_with (first | (go_at_call 74; refine st (l1Flags _ _) ?_; rw [F]) | (go_at_call 132; (first | (with_reducible refine (specNone _ z.l).mono ?_; rw [NL]) | (with_reducible refine (specNone _ z.r).mono ?_; rw [NR])); rintro e9 w9 ⟨rfl, k9⟩; replace K0 := hide (K0.out.trans k9); replace B0 := hide (B0.out.kept0 k9); clear q; have q := B0.out.all; clear k9) | (go_at_call 112; (first | (with_reducible refine (specFo _ z.l).mono ?_; rw [OL]) | (with_reducible refine (specFo _ z.r).mono ?_; rw [OR])); rintro e9 w9 ⟨rfl, k9⟩; replace K0 := hide (K0.out.trans k9); replace B0 := hide (B0.out.kept0 k9); clear q; have q := B0.out.all; clear k9) | (go_at_call 113; (first | (with_reducible refine (specSum _ z.l).mono ?_; rw [SL]) | (with_reducible refine (specSum _ z.r).mono ?_; rw [SR])); rintro e9 w9 ⟨rfl, k9⟩; replace K0 := hide (K0.out.trans k9); replace B0 := hide (B0.out.kept0 k9); clear q; have q := B0.out.all; clear k9))
            go_ret
            exact ⟨rB (by simp [Pl.lzM, F, NL, OL, NR, SL]), K0.out⟩
          · go_enter Try.func90, Try.ntmps90
            go_wp2_with (first | (go_at_call 74; refine st (l1Flags _ _) ?_; rw [F]) | (go_at_call 132; (first | (with_reducible refine (specNone _ z.l).mono ?_; rw [NL]) | (with_reducible refine (specNone _ z.r).mono ?_; rw [NR])); rintro e9 w9 ⟨rfl, k9⟩; replace K0 := hide (K0.out.trans k9); replace B0 := hide (B0.out.kept0 k9); clear q; have q := B0.out.all; clear k9) | (go_at_call 112; (first | (with_reducible refine (specFo _ z.l).mono ?_; rw [OL]) | (with_reducible refine (specFo _ z.r).mono ?_; rw [OR])); rintro e9 w9 ⟨rfl, k9⟩; replace K0 := hide (K0.out.trans k9); replace B0 := hide (B0.out.kept0 k9); clear q; have q := B0.out.all; clear k9) | (go_at_call 113; (first | (with_reducible refine (specSum _ z.l).mono ?_; rw [SL]) | (with_reducible refine (specSum _ z.r).mono ?_; rw [SR])); rintro e9 w9 ⟨rfl, k9⟩; replace K0 := hide (K0.out.trans k9); replace B0 := hide (B0.out.kept0 k9); clear q; have q := B0.out.all; clear k9))
            go_ret
            exact ⟨rB (by simp [Pl.lzM, F, NL, OL, NR, SL]), K0.out⟩
    · cases NR : Pl.foNone z.r
      · cases SR : Pl.sumK z.r.k
        · go_enter Try.func90, Try.ntmps90
          go_wp2_with (first | (go_at_call 74; refine st (l1Flags _ _) ?_; rw [F]) | (go_at_call 132; (first | (with_reducible refine (specNone _ z.l).mono ?_; rw [NL]) | (with_reducible refine (specNone _ z.r).mono ?_; rw [NR])); rintro e9 w9 ⟨rfl, k9⟩; replace K0 := hide (K0.out.trans k9); replace B0 := hide (B0.out.kept0 k9); clear q; have q := B0.out.all; clear k9) | (go_at_call 112; (first | (with_reducible refine (specFo _ z.l).mono ?_; rw [OL]) | (with_reducible refine (specFo _ z.r).mono ?_; rw [OR])); rintro e9 w9 ⟨rfl, k9⟩; replace K0 := hide (K0.out.trans k9); replace B0 := hide (B0.out.kept0 k9); clear q; have q := B0.out.all; clear k9) | (go_at_call 113; (first | (with_reducible refine (specSum _ z.l).mono ?_; rw [SL]) | (with_reducible refine (specSum _ z.r).mono ?_; rw [SR])); rintro e9 w9 ⟨rfl, k9⟩; replace K0 := hide (K0.out.trans k9); replace B0 := hide (B0.out.kept0 k9); clear q; have q := B0.out.all; clear k9))
          go_ret
          exact ⟨rB (by simp [Pl.lzM, F, NL, NR, SR]), K0.out⟩
        · cases OR : Pl.foOk z.r
          · go_enter Try.func90, Try.ntmps90
            go_wp2_with (first | (go_at_call 74; refine st (l1Flags _ _) ?_; rw [F]) | (go_at_call 132; (first | (with_reducible refine (specNone _ z.l).mono ?_; rw [NL]) | (with_reducible refine (specNone _ z.r).mono ?_; rw [NR])); rintro e9 w9 ⟨rfl, k9⟩; replace K0 := hide (K0.out.trans k9); replace B0 := hide (B0.out.kept0 k9); clear q; have q := B0.out.all; clear k9) | (go_at_call 112; (first | (with_reducible refine (specFo _ z.l).mono ?_; rw [OL]) | (with_reducible refine (specFo _ z.r).mono ?_; rw [OR])); rintro e9 w9 ⟨rfl, k9⟩; replace K0 := hide (K0.out.trans k9); replace B0 := hide (B0.out.kept0 k9); clear q; have q := B0.out.all; clear k9) | (go_at_call 113; (first | (with_reducible refine (specSum _ z.l).mono ?_; rw [SL]) | (with_reducible refine (specSum _ z.r).mono ?_; rw [SR])); rintro e9 w9 ⟨rfl, k9⟩; replace K0 := hide (K0.out.trans k9); replace B0 := hide (B0.out.kept0 k9); clear q; have q := B0.out.all; clear k9))
            go_ret
            exact ⟨rB (by simp [Pl.lzM, F, NL, NR, SR, OR]), K0.out⟩
          · go_enter Try.func90, Try.ntmps90
            go_wp2_with (first | (go_at_call 74; refine st (l1Flags _ _) ?_; rw [F]) | (go_at_call 132; (first | (with_reducible refine (specNone _ z.l).mono ?_; rw [NL]) | (with_reducible refine (specNone _ z.r).mono ?_; rw [NR])); rintro e9 w9 ⟨rfl, k9⟩; replace K0 := hide (K0.out.trans k9); replace B0 := hide (B0.out.kept0 k9); clear q; have q := B0.out.all; clear k9) | (go_at_call 112; (first | (with_reducible refine (specFo _ z.l).mono ?_; rw [OL]) | (with_reducible refine (specFo _ z.r).mono ?_; rw [OR])); rintro e9 w9 ⟨rfl, k9⟩; replace K0 := hide (K0.out.trans k9); replace B0 := hide (B0.out.kept0 k9); clear q; have q := B0.out.all; clear k9) | (go_at_call 113; (first | (with_reducible refine (specSum _ z.l).mono ?_; rw [SL]) | (with_reducible refine (specSum _ z.r).mono ?_; rw [SR])); rintro e9 w9 ⟨rfl, k9⟩; replace K0 := hide (K0.out.trans k9); replace B0 := hide (B0.out.kept0 k9); clear q; have q := B0.out.all; clear k9))
            go_ret
            exact ⟨rB (by simp [Pl.lzM, F, NL, NR, SR, OR]), K0.out⟩
      · cases SL : Pl.sumK z.l.k
        · go_enter Try.func90, Try.ntmps90
          go_wp2_with (first | (go_at_call 74; refine st (l1Flags _ _) ?_; rw [F]) | (go_at_call 132; (first | (with_reducible refine (specNone _ z.l).mono ?_; rw [NL]) | (with_reducible refine (specNone _ z.r).mono ?_; rw [NR])); rintro e9 w9 ⟨rfl, k9⟩; replace K0 := hide (K0.out.trans k9); replace B0 := hide (B0.out.kept0 k9); clear q; have q := B0.out.all; clear k9) | (go_at_call 112; (first | (with_reducible refine (specFo _ z.l).mono ?_; rw [OL]) | (with_reducible refine (specFo _ z.r).mono ?_; rw [OR])); rintro e9 w9 ⟨rfl, k9⟩; replace K0 := hide (K0.out.trans k9); replace B0 := hide (B0.out.kept0 k9); clear q; have q := B0.out.all; clear k9) | (go_at_call 113; (first | (with_reducible refine (specSum _ z.l).mono ?_; rw [SL]) | (with_reducible refine (specSum _ z.r).mono ?_; rw [SR])); rintro e9 w9 ⟨rfl, k9⟩; replace K0 := hide (K0.out.trans k9); replace B0 := hide (B0.out.kept0 k9); clear q; have q := B0.out.all; clear k9))
          go_ret
          exact ⟨rB (by simp [Pl.lzM, F, NL, NR, SL]), K0.out⟩
        · go_enter Try.func90, Try.ntmps90
          go_wp2_with (first | (go_at_call 74; refine st (l1Flags _ _) ?_; rw [F]) | (go_at_call 132; (first | (with_reducible refine (specNone _ z.l).mono ?_; rw [NL]) | (with_reducible refine (specNone _ z.r).mono ?_; rw [NR])); rintro e9 w9 ⟨rfl, k9⟩; replace K0 := hide (K0.out.trans k9); replace B0 := hide (B0.out.kept0 k9); clear q; have q := B0.out.all; clear k9) | (go_at_call 112; (first | (with_reducible refine (specFo _ z.l).mono ?_; rw [OL]) | (with_reducible refine (specFo _ z.r).mono ?_; rw [OR])); rintro e9 w9 ⟨rfl, k9⟩; replace K0 := hide (K0.out.trans k9); replace B0 := hide (B0.out.kept0 k9); clear q; have q := B0.out.all; clear k9) | (go_at_call 113; (first | (with_reducible refine (specSum _ z.l).mono ?_; rw [SL]) | (with_reducible refine (specSum _ z.r).mono ?_; rw [SR])); rintro e9 w9 ⟨rfl, k9⟩; replace K0 := hide (K0.out.trans k9); replace B0 := hide (B0.out.kept0 k9); clear q; have q := B0.out.all; clear k9))
          go_ret
          exact ⟨rB (by simp [Pl.lzM, F, NL, NR, SL]), K0.out⟩
end Go.Proofs.Ytnmddmmmgdfknaa

