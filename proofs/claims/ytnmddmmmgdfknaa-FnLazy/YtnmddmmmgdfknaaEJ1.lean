/- The plain arithmetic beneath the walks of chapter 1: what masks, values with a sign and flags are, as functions on whole numbers. No Go text is spoken of here. Small things that every walk of ours leans on: equal answers, a fact kept from the walk, and what the model's test of a range answers. Worlds that grow, one block of them written: three small laws. What the model's reader of drawn bytes does: its calls change its own three cells and no other block that was there; what they answer lies within the bounds that the draws need. What the model's draws of numbers answer: numbers within their bounds; they change the reader's own block and no other that was there. Bytes that came in, read by the model's reader: what every draw of a law's arguments leans on. What the draw of a value answers. What the laws' own functions over lists of whole numbers do: compare, copy, mark, look for the marks. What the laws' own functions do that copy a list of whole numbers, mark it, and look for the marks. Lists that were answered, kept over calls that change other blocks: what the laws on lists lean on. What is said of worlds, blocks and lists by every law on structs with lists: blocks kept outside a span, lists in blocks of a span, a block's cells, copies; no text of a chapter is spoken of here. Draws behind draws: what the reader's calls answer wherever the reading has come to, with boxes of the drawing's own beside it. What the model's draws of sizes and values answer: numbers within their bounds; they change the reader's own block and no other that was there. What the model's test of a size answers. What the model's test of a value of a size answers, for every argument; none changes the world. What the laws' own functions over lists of FlagOp do (structs of 4 whole numbers, laid one behind the other): compare, copy, mark. A list of n is spoken of as the row of its 4 * n numbers. Conditions in numbers: plain arithmetic; no Go text is spoken of here. Bits moved one place at a time, so often, and back; how many are 1; the other way round: plain arithmetic; no Go text is spoken of here. Operations on flags in numbers: plain arithmetic; no Go text is spoken of here. What the model's draws of an operation and of a list of operations answer: numbers within their bounds, at most 41; they change the reader's own block and no other that was there. What the model's draw of a list of operations answers: at most 41, each with numbers within their bounds; DrawEagerFlags, DrawLazyFlags. What the model's small functions of chapter 1 answer, for every argument: one contract a function; none changes the world. What the model's one place answers, for each kind and size: one contract each; none changes the world. -/
import Derived.WalkKit
import Derived.Test.YtnmddmmmgdfknaaProg
import Derived.WalkSpells
import Derived.WalkLawsBesides
import Derived.OpenShut
import Derived.Deep.QuietTactic
import Derived.BigQuiet
import Derived.RegionTactic
import Derived.ChangeAlike
import Derived.BigRegion
import Derived.Deep.RegionWith
import Derived.Laws.Rows
import Derived.Laws.ResultCell
import Derived.Laws.CopyOwn
import Derived.Maps.AppendAt
import Derived.Laws.AppendOwnNone
import Derived.Deep.DeepCutAuto
import Derived.Deep.CutBlock
import Derived.Deep.AppendLies
import Derived.Deep.RegionHeld3
namespace Go.Proofs.Ytnmddmmmgdfknaa.Pl

theorem and255 (a : Int) : bits .and .i64 a 255 = a % 256 := by
  show IntKind.i64.wrap ((BitVec.ofInt 64 a &&& BitVec.ofInt 64 255).toNat : Int) = _
  rw [BitVec.toNat_and, BitVec.toNat_ofInt, show (BitVec.ofInt 64 255).toNat = 2 ^ 8 - 1 from by decide, Nat.and_two_pow_sub_one_eq_mod, IntKind.wrap_i64]
  omega
theorem and65535 (a : Int) : bits .and .i64 a 65535 = a % 65536 := by
  show IntKind.i64.wrap ((BitVec.ofInt 64 a &&& BitVec.ofInt 64 65535).toNat : Int) = _
  rw [BitVec.toNat_and, BitVec.toNat_ofInt, show (BitVec.ofInt 64 65535).toNat = 2 ^ 16 - 1 from by decide, Nat.and_two_pow_sub_one_eq_mod, IntKind.wrap_i64]
  omega
theorem and1 (a : Int) : bits .and .i64 a 1 = a % 2 := by
  show IntKind.i64.wrap ((BitVec.ofInt 64 a &&& BitVec.ofInt 64 1).toNat : Int) = _
  rw [BitVec.toNat_and, BitVec.toNat_ofInt, show (BitVec.ofInt 64 1).toNat = 2 ^ 1 - 1 from by decide, Nat.and_two_pow_sub_one_eq_mod, IntKind.wrap_i64]
  omega

/-- how many values a size has -/
def top (s : Int) : Int := if s = 1 then 256 else 65536
/-- a value of a size -/
def okv (s v : Int) : Bool := (decide (s = 1) || decide (s = 2)) && (decide (0 ≤ v) && decide (v < top s))
/-- a value as a number with a sign -/
def sg (s v : Int) : Int := if top s / 2 ≤ v then v - top s else v
/-- a flag where something is so -/
def fl (b : Bool) (f : Int) : Int := if b then f else 0
/-- the four flags of a result together -/
def four (c v z n : Bool) : Int := fl c 17 + fl v 2 + fl z 4 + fl n 8
def sgnV (s v : Int) : Int := if okv s v = true then sg s v else 0
def bit (x : Int) : Bool := decide (0 ≤ x) && decide (x ≤ 1)
def two (s x a b : Int) : Bool := okv s a && (okv s b && bit x)
def flags (f : Int) : Bool := decide (0 ≤ f) && decide (f ≤ 31)
/-- what is kept of a result, and its flags: of the result without signs and of that with signs -/
def keptF (s plain signed : Int) : Int := four (plain % top s != plain) (sg s (plain % top s) != signed) (plain % top s == 0) (decide (sg s (plain % top s) < 0))
def addV (s x a b : Int) : Int := if two s x a b = true then (a + b + x) % top s else 0
def addF (s x a b : Int) : Int := if two s x a b = true then keptF s (a + b + x) (sg s a + sg s b + x) else 0
def subV (s x a b : Int) : Int := if two s x a b = true then (a - b - x) % top s else 0
def subF (s x a b : Int) : Int := if two s x a b = true then keptF s (a - b - x) (sg s a - sg s b - x) else 0

theorem fl_or (c v z n : Bool) : bits .or .i64 (bits .or .i64 (bits .or .i64 (fl c 17) (fl v 2)) (fl z 4)) (fl n 8) = four c v z n := by
  cases c <;> cases v <;> cases z <;> cases n <;> decide
theorem fl_or2 (c v z n : Bool) : bits .or .i64 (bits .or .i64 (fl c 17) (fl v 2)) (bits .or .i64 (fl z 4) (fl n 8)) = four c v z n := by
  cases c <;> cases v <;> cases z <;> cases n <;> decide
theorem four_bd (c v z n : Bool) : 0 ≤ four c v z n ∧ four c v z n ≤ 31 := by
  cases c <;> cases v <;> cases z <;> cases n <;> decide
theorem top_ok {s v : Int} (h : okv s v = true) : (s = 1 ∧ top s = 256 ∨ s = 2 ∧ top s = 65536) ∧ 0 ≤ v ∧ v < top s := by
  simp [okv] at h
  obtain ⟨h1, h2, h3⟩ := h
  refine ⟨?_, h2, h3⟩
  rcases h1 with rfl | rfl
  · exact .inl ⟨rfl, rfl⟩
  · exact .inr ⟨rfl, rfl⟩

theorem andNot16 (t : Int) (h0 : 0 ≤ t) (h1 : t ≤ 31) : bits .andNot .i64 t 16 = bits .and .i64 t 15 := by
  obtain ⟨n, rfl⟩ := Int.eq_ofNat_of_zero_le h0
  have k : ∀ m : Fin 32, bits .andNot .i64 ((m.val : Nat) : Int) 16 = bits .and .i64 ((m.val : Nat) : Int) 15 := by decide
  exact k ⟨n, by omega⟩

theorem sgnV_ok {s v : Int} (h : okv s v = true) : sgnV s v = sg s v := by simp [sgnV, h]
theorem okv_mk1 {v : Int} (h0 : 0 ≤ v) (h1 : v < 256) : okv 1 v = true := by simp [okv, top, h0, h1]
theorem okv_mk2 {v : Int} (h0 : 0 ≤ v) (h1 : v < 65536) : okv 2 v = true := by simp [okv, top, h0, h1]
theorem sg_bd1 {v : Int} (h0 : 0 ≤ v) (h1 : v < 256) : -128 ≤ sg 1 v ∧ sg 1 v ≤ 127 := by simp [sg, top]; omega
theorem sg_bd2 {v : Int} (h0 : 0 ≤ v) (h1 : v < 65536) : -32768 ≤ sg 2 v ∧ sg 2 v ≤ 32767 := by simp [sg, top]; omega
theorem two_ok {s x a b : Int} (h : two s x a b = true) : okv s a = true ∧ okv s b = true ∧ bit x = true := by
  simpa [two] using h
theorem bit_ok {x : Int} (h : bit x = true) : 0 ≤ x ∧ x ≤ 1 := by simpa [bit] using h
theorem flags_ok {x : Int} (h : flags x = true) : 0 ≤ x ∧ x ≤ 31 := by simpa [flags] using h
theorem kept1 (p q : Int) : bits .or .i64 (bits .or .i64 (bits .or .i64 (fl (p % 256 != p) 17) (fl (sgnV 1 (p % 256) != q) 2)) (fl (p % 256 == 0) 4)) (fl (decide (sgnV 1 (p % 256) < 0)) 8) = keptF 1 p q := by
  rw [fl_or, sgnV_ok (okv_mk1 (by omega) (by omega))]; rfl
theorem kept2 (p q : Int) : bits .or .i64 (bits .or .i64 (bits .or .i64 (fl (p % 65536 != p) 17) (fl (sgnV 2 (p % 65536) != q) 2)) (fl (p % 65536 == 0) 4)) (fl (decide (sgnV 2 (p % 65536) < 0)) 8) = keptF 2 p q := by
  rw [fl_or, sgnV_ok (okv_mk2 (by omega) (by omega))]; rfl

theorem bne_symm (a b : Int) : (a != b) = (b != a) := by rw [Bool.eq_iff_iff]; simp; omega
theorem neg1 {v : Int} (h0 : 0 ≤ v) (h1 : v < 256) : decide (128 ≤ v) = decide (sg 1 v < 0) := by
  rw [Bool.eq_iff_iff]; simp [sg, top]; omega
theorem neg2 {v : Int} (h0 : 0 ≤ v) (h1 : v < 65536) : decide (32768 ≤ v) = decide (sg 2 v < 0) := by
  rw [Bool.eq_iff_iff]; simp [sg, top]; omega
theorem skept1 (p q : Int) : bits .or .i64 (bits .or .i64 (fl (p != p % 256) 17) (fl (q != sg 1 (p % 256)) 2)) (bits .or .i64 (fl (p % 256 == 0) 4) (fl (decide (128 ≤ p % 256)) 8)) = keptF 1 p q := by
  rw [fl_or2, neg1 (by omega) (by omega), bne_symm p, bne_symm q]; rfl
theorem skept2 (p q : Int) : bits .or .i64 (bits .or .i64 (fl (p != p % 65536) 17) (fl (q != sg 2 (p % 65536)) 2)) (bits .or .i64 (fl (p % 65536 == 0) 4) (fl (decide (32768 ≤ p % 65536)) 8)) = keptF 2 p q := by
  rw [fl_or2, neg2 (by omega) (by omega), bne_symm p, bne_symm q]; rfl
theorem below1 {p : Int} (h : p < 256) : decide (p < 0) = (p != p % 256) := by rw [Bool.eq_iff_iff]; simp; omega
theorem below2 {p : Int} (h : p < 65536) : decide (p < 0) = (p != p % 65536) := by rw [Bool.eq_iff_iff]; simp; omega
theorem sbelow1 (p q : Int) (h : p < 256) : bits .or .i64 (bits .or .i64 (fl (decide (p < 0)) 17) (fl (q != sg 1 (p % 256)) 2)) (bits .or .i64 (fl (p % 256 == 0) 4) (fl (decide (128 ≤ p % 256)) 8)) = keptF 1 p q := by
  rw [below1 h, skept1]
theorem sbelow2 (p q : Int) (h : p < 65536) : bits .or .i64 (bits .or .i64 (fl (decide (p < 0)) 17) (fl (q != sg 2 (p % 65536)) 2)) (bits .or .i64 (fl (p % 65536 == 0) 4) (fl (decide (32768 ≤ p % 65536)) 8)) = keptF 2 p q := by
  rw [below2 h, skept2]

theorem keptF_bd (s p q : Int) : 0 ≤ keptF s p q ∧ keptF s p q ≤ 31 := four_bd _ _ _ _
theorem subF_bd (s x a b : Int) : 0 ≤ subF s x a b ∧ subF s x a b ≤ 31 := by
  unfold subF; split
  · exact keptF_bd _ _ _
  · omega
theorem or_comm (a b : Int) : bits .or .i64 a b = bits .or .i64 b a := by
  show IntKind.i64.wrap ((BitVec.ofInt 64 a ||| BitVec.ofInt 64 b).toNat : Int) = IntKind.i64.wrap ((BitVec.ofInt 64 b ||| BitVec.ofInt 64 a).toNat : Int)
  rw [BitVec.or_comm]
def cmpF (s f a b : Int) : Int := if (two s 0 a b && flags f) = true then bits .or .i64 (bits .and .i64 (subF s 0 a b) 15) (bits .and .i64 f 16) else 0
def logF (s f v : Int) : Int := if (okv s v && flags f) = true then bits .or .i64 (bits .and .i64 f 16) (bits .or .i64 (fl (v == 0) 4) (fl (decide (sg s v < 0)) 8)) else 0
theorem keptSelf {s v : Int} (h : okv s v = true) : keptF s v (sg s v) = bits .or .i64 (fl (v == 0) 4) (fl (decide (sg s v < 0)) 8) := by
  obtain ⟨hs, h0, h1⟩ := top_ok h
  have e : v % top s = v := Int.emod_eq_of_lt h0 h1
  unfold keptF
  rw [e, bne_self_eq_false, bne_self_eq_false]
  cases (v == 0) <;> cases decide (sg s v < 0) <;> decide
theorem wraps_i64 (n : Int) (h₀ : 0 ≤ n) (h₁ : n < 2 ^ 62) : IntKind.i64.wrap n = n := by rw [IntKind.wrap_i64]; omega
end Go.Proofs.Ytnmddmmmgdfknaa.Pl

namespace Go.Proofs.Ytnmddmmmgdfknaa
open Go.RowKit
set_option linter.unusedVariables false

/- long words made short -/
abbrev iv (n : Int) : Value := .int .i64 n
abbrev ftZ : Array Value := #[.int .i64 0, .int .i64 0, .int .i64 0, .int .i64 0, .bool false]
theorem st {P : Program} {f : FuncId} {a : Array Value} {w : World} {r : Ending} {Q : Ending → World → Prop} (h : Calls P f a w fun e w' => e = r ∧ w' = w) (q : Q r w) : Calls P f a w Q := h.mono (by rintro e w' ⟨rfl, rfl⟩; exact q)
theorem hide {p : Prop} (h : p) : Hid p := h
theorem rI {a b : Int} (h : a = b) : Ending.returned (.int .i64 a) = .returned (.int .i64 b) := by rw [h]
theorem rB {a b : Bool} (h : a = b) : Ending.returned (.bool a) = .returned (.bool b) := by rw [h]
theorem rIB {a b : Int} {c d : Bool} (h : a = b) (k : c = d) : Ending.returned (.tuple #[.int .i64 a, .bool c]) = .returned (.tuple #[.int .i64 b, .bool d]) := by rw [h, k]
theorem rII {a b c d : Int} (h : a = b) (k : c = d) : Ending.returned (.tuple #[.int .i64 a, .int .i64 c]) = .returned (.tuple #[.int .i64 b, .int .i64 d]) := by rw [h, k]
theorem rIIB {a b c d : Int} {e f : Bool} (h : a = b) (k : c = d) (l : e = f) : Ending.returned (.tuple #[.int .i64 a, .int .i64 c, .bool e]) = .returned (.tuple #[.int .i64 b, .int .i64 d, .bool f]) := by rw [h, k, l]

theorem l1In (n lo hi : Int) (w : World) :
    Calls Try.prog 57 #[.int .i64 n, .int .i64 lo, .int .i64 hi] w fun e w' => e = .returned (.bool (decide (lo ≤ n) && decide (n ≤ hi))) ∧ w' = w := by
  by_cases h0 : lo ≤ n
  all_goals
    by_cases h1 : n ≤ hi
    all_goals
      go_enter Try.func57, Try.ntmps57
      go_wp2
      go_ret
      exact ⟨rB (by simp; omega), rfl⟩

end Go.Proofs.Ytnmddmmmgdfknaa

namespace Go.Proofs.Ytnmddmmmgdfknaa
open Go.RowKit
set_option linter.unusedVariables false

theorem grownBy_set (w : World) (b o : Nat) (v : Value) : w.grownBy (w.setCell ⟨b, o, none⟩ v) (some b) :=
  ⟨rfl, rfl, rfl, by simp, fun k hk hne => Below.heap_setCell _ _ _ _ (fun e => hne (by rw [e]))⟩

theorem grownBy_trans {a b c : World} {row : Option Nat} (h : a.grownBy b row) (k : b.grownBy c row) : a.grownBy c row :=
  ⟨k.os.trans h.os, k.tape.trans h.tape, k.output.trans h.output, Nat.le_trans h.size k.size, fun i hi hne => (k.block i (Nat.lt_of_lt_of_le hi h.size) hne).trans (h.block i hi hne)⟩

theorem grownBy_drew {a b : World} {row : Option Nat} (h : a.grownBy b row) : a.grownBy b.drew row := ⟨h.os, h.tape, h.output, h.size, h.block⟩

end Go.Proofs.Ytnmddmmmgdfknaa

namespace Go.Proofs.Ytnmddmmmgdfknaa
open Go.RowKit
set_option linter.unusedVariables false

/-- a reader of bytes, laid in block b: the bytes, the place, the seed -/
structure Cur (w : World) (b : Nat) (a : Option Addr) (len cap : Nat) (p : Int) : Prop where
  c0 : w.cell? ⟨b, 0, none⟩ = some (.slice a len cap)
  c1 : w.cell? ⟨b, 1, none⟩ = some (.int .i64 p)
  c2 : ∃ sd : Int, w.cell? ⟨b, 2, none⟩ = some (.int .u64 sd)
  f1 : w.frozen? ⟨b, 1, none⟩ = false
  f2 : w.frozen? ⟨b, 2, none⟩ = false
  hl : len ≤ maxLen
  row : ∀ i : Nat, i < len → ∃ (g off : Nat) (z : Int), a = some ⟨g, off, none⟩ ∧ g ≠ b ∧ w.cell? ⟨g, off + i, none⟩ = some (.int .u8 z) ∧ 0 ≤ z ∧ z ≤ 255

theorem Cur.lt {w : World} {b : Nat} {a : Option Addr} {len cap : Nat} {p : Int} (h : Cur w b a len cap p) : b < w.heap.size := World.block_lt_of_cell? _ _ h.c0

theorem Cur.drew {w : World} {b : Nat} {a : Option Addr} {len cap : Nat} {p : Int} (h : Cur w b a len cap p) : Cur w.drew b a len cap p := ⟨h.c0, h.c1, h.c2, h.f1, h.f2, h.hl, h.row⟩

/-- what leaves the reader's block and the bytes' block as they were leaves the reader -/
theorem Cur.kept {w w' : World} {b : Nat} {a : Option Addr} {len cap : Nat} {p : Int} {row : Option Nat} (h : Cur w b a len cap p) (hg : w.grownBy w' row) (hb : some b ≠ row) (ha : ∀ g off, a = some ⟨g, off, none⟩ → some g ≠ row) : Cur w' b a len cap p := by
  have hf : ∀ o, w'.frozen? ⟨b, o, none⟩ = w.frozen? ⟨b, o, none⟩ := fun o => World.frozen?_of_block (w := w) (hg.block b h.lt hb)
  obtain ⟨sd, c2⟩ := h.c2
  refine ⟨hg.cell h.c0 hb, hg.cell h.c1 hb, ⟨sd, hg.cell c2 hb⟩, by rw [hf]; exact h.f1, by rw [hf]; exact h.f2, h.hl, ?_⟩
  intro i hi
  obtain ⟨g, off, z, ea, hne, hc, z0, z1⟩ := h.row i hi
  exact ⟨g, off, z, ea, hne, hg.cell hc (ha g off ea), z0, z1⟩

theorem Cur.stepped {w : World} {b : Nat} {a : Option Addr} {len cap : Nat} {p : Int} (h : Cur w b a len cap p) (q v : Int) :
    Cur ((w.setCell ⟨b, 1, none⟩ (.int .i64 q)).setCell ⟨b, 2, none⟩ (.int .u64 v)) b a len cap q := by
  obtain ⟨sd, c2⟩ := h.c2
  have k2 : (w.setCell ⟨b, 1, none⟩ (.int .i64 q)).cell? ⟨b, 2, none⟩ = some (.int .u64 sd) := by rw [World.cell?_setCell_other _ _ _ _ (by simp)]; exact c2
  refine ⟨?_, ?_, ⟨v, World.cell?_setCell_same _ _ _ k2⟩, by simpa using h.f1, by simpa using h.f2, h.hl, ?_⟩
  · rw [World.cell?_setCell_other _ _ _ _ (by simp), World.cell?_setCell_other _ _ _ _ (by simp)]; exact h.c0
  · rw [World.cell?_setCell_other _ _ _ _ (by simp)]; exact World.cell?_setCell_same _ _ _ h.c1
  · intro i hi
    obtain ⟨g, off, z, ea, hne, hc, z0, z1⟩ := h.row i hi
    refine ⟨g, off, z, ea, hne, ?_, z0, z1⟩
    rw [World.cell?_setCell_other _ _ _ _ (fun e => hne (congrArg Addr.block e).symm), World.cell?_setCell_other _ _ _ _ (fun e => hne (congrArg Addr.block e).symm)]; exact hc

theorem grown_stepped (w : World) (b : Nat) (u v : Value) : w.grownBy ((w.setCell ⟨b, 1, none⟩ u).setCell ⟨b, 2, none⟩ v) (some b) :=
  grownBy_trans (grownBy_set w b 1 u) (grownBy_set _ b 2 v)

theorem and255u (x : Int) : 0 ≤ wrap64 (bits .and .u64 x 255) ∧ wrap64 (bits .and .u64 x 255) ≤ 255 := by
  have e : bits .and .u64 x 255 = x % 256 := by
    show IntKind.u64.wrap ((BitVec.ofInt 64 x &&& BitVec.ofInt 64 255).toNat : Int) = _
    rw [BitVec.toNat_and, BitVec.toNat_ofInt, show (BitVec.ofInt 64 255).toNat = 2 ^ 8 - 1 from by decide, Nat.and_two_pow_sub_one_eq_mod]
    simp only [IntKind.wrap, IntKind.bits, IntKind.signed]
    simp
    omega
  rw [e, IntWalk.wrap64_in _ ⟨by omega, by omega⟩]
  omega

theorem next_old (w : World) (b : Nat) (a : Option Addr) (len cap : Nat) (p : Int) (h : Cur w b a len cap p) (p0 : 0 ≤ p) (p1 : p ≤ 1000000) (hlt : (len : Int) ≤ p) :
    Calls Try.prog 94 #[.pointer (some ⟨b, 0, none⟩)] w fun e w' => ∃ r : Int, e = .returned (.int .i64 r) ∧ 0 ≤ r ∧ r ≤ 255 ∧ Cur w' b a len cap (p + 1) ∧ w.grownBy w' (some b) := by
  have K : Hid (Cur w b a len cap p) := h
  obtain ⟨c0, c1, ⟨sd, c2⟩, f1, f2, hl, row⟩ := h
  clear row
  unfold maxLen at hl
  go_enter Try.func94, Try.ntmps94
  go_wp2
  go_region
  go_wp2
  go_region
  go_wp2
  go_ret
  exact ⟨_, rfl, (and255u _).1, (and255u _).2, (Cur.stepped K.out _ _).drew.drew, grownBy_drew (grownBy_drew (grown_stepped _ _ _ _))⟩

theorem next_new (w : World) (b : Nat) (a : Option Addr) (len cap : Nat) (p : Int) (h : Cur w b a len cap p) (p0 : 0 ≤ p) (p1 : p ≤ 1000000) (hlt : p < (len : Int)) :
    Calls Try.prog 94 #[.pointer (some ⟨b, 0, none⟩)] w fun e w' => ∃ r : Int, e = .returned (.int .i64 r) ∧ 0 ≤ r ∧ r ≤ 255 ∧ Cur w' b a len cap (p + 1) ∧ w.grownBy w' (some b) := by
  have K : Hid (Cur w b a len cap p) := h
  obtain ⟨c0, c1, ⟨sd, c2⟩, f1, f2, hl, row⟩ := h
  obtain ⟨n, rfl⟩ := Int.eq_ofNat_of_zero_le p0
  obtain ⟨g, off, z, rfl, hne, hc, z0, z1⟩ := row n (by omega)
  clear row
  unfold maxLen at hl
  go_enter Try.func94, Try.ntmps94
  go_wp2
  go_region
  go_wp2
  go_region
  go_wp2
  go_region
  go_wp2
  go_ret
  exact ⟨_, rfl, z0, z1, (Cur.stepped K.out _ _).drew.drew.drew, grownBy_drew (grownBy_drew (grownBy_drew (grown_stepped _ _ _ _)))⟩

theorem next_any (w : World) (b : Nat) (a : Option Addr) (len cap : Nat) (p : Int) (h : Cur w b a len cap p) (p0 : 0 ≤ p) (p1 : p ≤ 1000000) :
    Calls Try.prog 94 #[.pointer (some ⟨b, 0, none⟩)] w fun e w' => ∃ r : Int, e = .returned (.int .i64 r) ∧ 0 ≤ r ∧ r ≤ 255 ∧ Cur w' b a len cap (p + 1) ∧ w.grownBy w' (some b) := by
  by_cases hlt : p < (len : Int)
  · exact next_new w b a len cap p h p0 p1 hlt
  · exact next_old w b a len cap p h p0 p1 (by omega)

end Go.Proofs.Ytnmddmmmgdfknaa

namespace Go.Proofs.Ytnmddmmmgdfknaa
open Go.RowKit
set_option linter.unusedVariables false

/-- behind a call of the reader's: at most k bytes more were read, and no block but the reader's has turned -/
def Went (w w' : World) (b : Nat) (a : Option Addr) (len cap : Nat) (p k : Int) : Prop :=
  w.grownBy w' (some b) ∧ ∃ q : Int, p ≤ q ∧ q ≤ p + k ∧ Cur w' b a len cap q

theorem Went.refl {w : World} {b : Nat} {a : Option Addr} {len cap : Nat} {p : Int} (h : Cur w b a len cap p) : Went w w b a len cap p 0 :=
  ⟨World.grownBy.refl _ _, p, by omega, by omega, h⟩
theorem Went.more {w w1 : World} {b : Nat} {a : Option Addr} {len cap : Nat} {p k m : Int} (h : Went w w1 b a len cap p k) (hm : k ≤ m) : Went w w1 b a len cap p m := by
  obtain ⟨g, r, r0, r1, c⟩ := h
  exact ⟨g, r, r0, by omega, c⟩

theorem pick (w : World) (b : Nat) (a : Option Addr) (len cap : Nat) (p n : Int) (h : Cur w b a len cap p) (p0 : 0 ≤ p) (p1 : p ≤ 900000) (n0 : 1 ≤ n) (n1 : n ≤ 1000000) :
    Calls Try.prog 50 #[.pointer (some ⟨b, 0, none⟩), .int .i64 n] w fun e w' => ∃ r : Int, e = .returned (.int .i64 r) ∧ 0 ≤ r ∧ r < n ∧ Went w w' b a len cap p 2 := by
  by_cases h1 : n ≤ 1
  · go_enter Try.func50, Try.ntmps50
    go_wp2_with fail
    go_ret
    exact ⟨0, rfl, by omega, by omega, (Went.refl h).more (by omega)⟩
  · by_cases h2 : 200 < n
    · go_enter Try.func50, Try.ntmps50
      go_wp2_with fail
      refine (next_any _ b a len cap p h p0 (by omega)).mono ?_
      rintro e w1 ⟨x, rfl, x0, x1, hc1, hg1⟩
      go_wp2_with fail
      refine (next_any _ b a len cap (p + 1) hc1 (by omega) (by omega)).mono ?_
      rintro e w2 ⟨y, rfl, y0, y1, hc2, hg2⟩
      have b0 := Int.emod_nonneg (x * 256 + y) (show n ≠ 0 by omega)
      have b1 := Int.emod_lt_of_pos (x * 256 + y) (show 0 < n by omega)
      go_wp2_with fail
      go_ret
      exact ⟨_, rfl, b0, b1, grownBy_trans hg1 hg2, p + 1 + 1, by omega, by omega, hc2⟩
    · go_enter Try.func50, Try.ntmps50
      go_wp2_with fail
      refine (next_any _ b a len cap p h p0 (by omega)).mono ?_
      rintro e w1 ⟨x, rfl, x0, x1, hc1, hg1⟩
      have b0 := Int.emod_nonneg x (show n ≠ 0 by omega)
      have b1 := Int.emod_lt_of_pos x (show 0 < n by omega)
      go_wp2_with fail
      go_ret
      exact ⟨_, rfl, b0, b1, hg1, p + 1, by omega, by omega, hc1⟩

theorem one (w : World) (b : Nat) (a : Option Addr) (len cap : Nat) (p n : Int) (h : Cur w b a len cap p) (p0 : 0 ≤ p) (p1 : p ≤ 900000) (n0 : 1 ≤ n) (n1 : n ≤ 1000000) :
    Calls Try.prog 96 #[.pointer (some ⟨b, 0, none⟩), .int .i64 n] w fun e w' => ∃ r : Bool, e = .returned (.bool r) ∧ Went w w' b a len cap p 2 := by
  go_enter Try.func96, Try.ntmps96
  go_wp2_with fail
  refine (pick _ b a len cap p n h p0 p1 n0 n1).mono ?_
  rintro e w1 ⟨x, rfl, x0, x1, hw⟩
  go_wp2_with fail
  go_ret
  exact ⟨_, rfl, hw⟩

theorem among (w : World) (b : Nat) (a : Option Addr) (len cap : Nat) (p : Int) (g k c : Nat) (lo hi : Int) (h : Cur w b a len cap p) (p0 : 0 ≤ p) (p1 : p ≤ 900000) (k0 : 1 ≤ k) (k1 : k ≤ 1000) (hne : g ≠ b)
    (hz : ∀ i : Nat, i < k → ∃ z : Int, w.cell? ⟨g, i, none⟩ = some (.int .i64 z) ∧ lo ≤ z ∧ z ≤ hi) :
    Calls Try.prog 52 #[.pointer (some ⟨b, 0, none⟩), .slice (some ⟨g, 0, none⟩) k c] w fun e w' => ∃ r : Int, e = .returned (.int .i64 r) ∧ lo ≤ r ∧ r ≤ hi ∧ Went w w' b a len cap p 2 := by
  go_enter Try.func52, Try.ntmps52
  go_wp2_with fail
  refine (pick _ b a len cap p _ h p0 p1 (by omega) (by omega)).mono ?_
  rintro e w1 ⟨x, rfl, x0, x1, hw⟩
  obtain ⟨n, rfl⟩ := Int.eq_ofNat_of_zero_le x0
  obtain ⟨z, hc, z0, z1⟩ := hz n (by omega)
  have hc1 : w1.cell? ⟨g, n, none⟩ = some (.int .i64 z) := hw.1.cell hc (by simpa using hne)
  clear hc hz
  go_wp2_with fail
  go_ret
  exact ⟨_, rfl, z0, z1, hw⟩

end Go.Proofs.Ytnmddmmmgdfknaa

namespace Go.Proofs.Ytnmddmmmgdfknaa
open Go.RowKit
set_option linter.unusedVariables false

theorem Cur.alloc {w : World} {b : Nat} {a : Option Addr} {len cap : Nat} {p : Int} (h : Cur w b a len cap p) (o : Obj) : Cur (w.alloc o) b a len cap p :=
  h.kept (World.grownBy_alloc w o none) (by simp) (by simp)

theorem lits (w : World) (xs : List Int) (lo hi : Int) (h : ∀ x ∈ xs, lo ≤ x ∧ x ≤ hi) (i : Nat) (hl : i < xs.length) :
    ∃ z : Int, (w.alloc (.cells (xs.map (Value.int .i64)).toArray 3)).cell? ⟨w.heap.size, i, none⟩ = some (.int .i64 z) ∧ lo ≤ z ∧ z ≤ hi := by
  refine ⟨xs[i], ?_, h _ (List.getElem_mem hl)⟩
  rw [World.cell?_alloc_new]
  simp [hl]

theorem Went.alloc {w w' : World} {o : Obj} {b : Nat} {a : Option Addr} {len cap : Nat} {p k : Int} (h : Went (w.alloc o) w' b a len cap p k) : Went w w' b a len cap p k := by
  obtain ⟨g, r⟩ := h
  exact ⟨grownBy_trans (World.grownBy_alloc w o _) g, r⟩

/-- bytes that came in: each of the first len cells holds one -/
def Bytes (w : World) (a : Option Addr) (len : Nat) : Prop :=
  len ≤ maxLen ∧ ∀ i : Nat, i < len → ∃ (g off : Nat) (z : Int), a = some ⟨g, off, none⟩ ∧ w.cell? ⟨g, off + i, none⟩ = some (.int .u8 z) ∧ 0 ≤ z ∧ z ≤ 255

theorem Bytes.cur {w : World} {a : Option Addr} {len : Nat} (h : Bytes w a len) (cap : Nat) : Cur (w.alloc (.cells #[.slice a len cap, .int .i64 0, .int .u64 0] 73)) w.heap.size a len cap 0 := by
  obtain ⟨hl, hr⟩ := h
  refine ⟨by simp, by simp, ⟨0, by simp⟩, by simp, by simp, hl, ?_⟩
  intro i hi
  obtain ⟨g, off, z, ea, hc, z0, z1⟩ := hr i hi
  have hg : g < w.heap.size := World.block_lt_of_cell? _ _ hc
  exact ⟨g, off, z, ea, by omega, by rw [World.cell?_alloc_lt _ _ _ hg]; exact hc, z0, z1⟩

theorem bytesOfRow {w : World} {a : Option Addr} {len cap : Nat} {zs : List Int} (h : (a = none ∧ len = 0 ∧ cap = 0 ∧ zs = []) ∨
    ∃ x, a = some x ∧ len ≤ cap ∧ cap ≤ maxLen ∧ zs.length = cap ∧ (∀ i, i < zs.length → w.cell? (x.add i) = some (.int .u8 (zs.getD i 0))) ∧ ∀ n ∈ zs, (Lit.int .u8 n).wf = true) : Bytes w a len := by
  rcases h with ⟨_, rfl, _, _⟩ | ⟨x, rfl, hl, hm, hz, hcell, hwz⟩
  · exact ⟨Nat.zero_le _, fun i hi => absurd hi (Nat.not_lt_zero i)⟩
  · refine ⟨Nat.le_trans hl hm, fun i hi => ?_⟩
    obtain ⟨g, off, spot⟩ := x
    have hspot : spot = none := by simpa [Addr.add] using World.cell?_spot (hcell 0 (by omega))
    subst hspot
    have hi2 : i < zs.length := by omega
    have hc : w.cell? ⟨g, off + i, none⟩ = some (.int .u8 (zs.getD i 0)) := by
      have hc := hcell i hi2
      by_cases h0 : i = 0
      · subst h0; simpa [Addr.add] using hc
      · simpa [Addr.add, h0] using hc
    have hmem : zs.getD i 0 ∈ zs := by simp [List.getD, hi2]
    have hb := bounds_u8 (hwz _ hmem)
    exact ⟨g, off, zs.getD i 0, rfl, hc, hb.1, hb.2⟩

theorem below_of {w w' : World} {o : Obj} (hg : (w.alloc o).grownBy w' (some w.heap.size)) : Below w.heap.size w w' :=
  ⟨hg.os, hg.tape, hg.output, by have := hg.size; simp at this; omega, fun k hk => (hg.block k (by simp; omega) (by simp; omega)).trans (Below.heap_alloc _ _ _ hk)⟩

theorem Cur.kept2 {w w' : World} {b : Nat} {a : Option Addr} {len cap : Nat} {p : Int} {row : Option Nat} (h : Cur w b a len cap p) (hg : w.grownBy w' row) (hb : some b ≠ row) (ha : ∀ g off, 0 < len → a = some ⟨g, off, none⟩ → some g ≠ row) : Cur w' b a len cap p := by
  have hf : ∀ o, w'.frozen? ⟨b, o, none⟩ = w.frozen? ⟨b, o, none⟩ := fun o => World.frozen?_of_block (w := w) (hg.block b h.lt hb)
  obtain ⟨sd, c2⟩ := h.c2
  refine ⟨hg.cell h.c0 hb, hg.cell h.c1 hb, ⟨sd, hg.cell c2 hb⟩, by rw [hf]; exact h.f1, by rw [hf]; exact h.f2, h.hl, ?_⟩
  intro i hi
  obtain ⟨g, off, z, ea, hne, hc, z0, z1⟩ := h.row i hi
  exact ⟨g, off, z, ea, hne, hg.cell hc (ha g off (by omega) ea), z0, z1⟩

end Go.Proofs.Ytnmddmmmgdfknaa

namespace Go.Proofs.Ytnmddmmmgdfknaa
open Go.RowKit
set_option linter.unusedVariables false
theorem value (w : World) (b : Nat) (a : Option Addr) (len cap : Nat) (p : Int) (h : Cur w b a len cap p) (p0 : 0 ≤ p) (p1 : p ≤ 800000) :
    Calls Try.prog 95 #[.pointer (some ⟨b, 0, none⟩)] w fun e w' => ∃ r : Int, e = .returned (.int .i64 r) ∧ -1 ≤ r ∧ r ≤ 65536 ∧ Went w w' b a len cap p 8 := by
  go_enter Try.func95, Try.ntmps95
  go_wp2_with fail
  refine (one _ b a len cap p 2 h p0 (by omega) (by omega) (by omega)).mono ?_
  rintro e w1 ⟨x, rfl, hg1, q1, q10, q11, hc1⟩
  cases x
  · go_wp2_with fail
    refine (pick _ b a len cap q1 256 hc1 (by omega) (by omega) (by omega) (by omega)).mono ?_
    rintro e w2 ⟨x, rfl, x0, x1, hg2, q2, q20, q21, hc2⟩
    go_wp2_with fail
    refine (pick _ b a len cap q2 2 hc2 (by omega) (by omega) (by omega) (by omega)).mono ?_
    rintro e w3 ⟨y, rfl, y0, y1, hg3, q3, q30, q31, hc3⟩
    obtain rfl | rfl : y = 0 ∨ y = 1 := by omega
    all_goals
      go_wp2_with fail
      refine (pick _ b a len cap q3 256 hc3 (by omega) (by omega) (by omega) (by omega)).mono ?_
      rintro e w4 ⟨z, rfl, z0, z1, hg4, q4, q40, q41, hc4⟩
      go_wp2_with fail
      go_ret
      exact ⟨_, rfl, by omega, by omega, grownBy_trans (grownBy_trans (grownBy_trans hg1 hg2) hg3) hg4, q4, by omega, by omega, hc4⟩
  · have hlt := hc1.lt
    go_wp2_with fail
    refine (among _ b a len cap q1 _ _ _ (-1) 65536 (hc1.alloc _) (by omega) (by omega) (by decide) (by decide) (by omega) (lits w1 [0, 1, 127, 128, 255, 256, 32767, 32768, 65535, 65536, -1] (-1) 65536 (by decide))).mono ?_
    rintro e w2 ⟨x, rfl, x0, x1, hw⟩
    obtain ⟨hg2, q2, q20, q21, hc2⟩ := hw.alloc
    go_wp2_with fail
    go_ret
    exact ⟨_, rfl, x0, x1, grownBy_trans hg1 hg2, q2, by omega, by omega, hc2⟩
end Go.Proofs.Ytnmddmmmgdfknaa

namespace Go.Proofs.Ytnmddmmmgdfknaa
open Go.RowKit
set_option linter.unusedVariables false

/-- a list of whole numbers lies in memory from address a on -/
def IRow (w : World) (a : Option Addr) (xs : List Int) : Prop :=
  ∀ i : Nat, i < xs.length → ∃ g off : Nat, a = some ⟨g, off, none⟩ ∧ w.cell? ⟨g, off + i, none⟩ = some (iv (xs[i]?.getD 0))

theorem IRow.kept {w w' : World} {a : Option Addr} {xs : List Int} (h : IRow w a xs) (hg : w.grownBy w' none) : IRow w' a xs := by
  intro i hi
  obtain ⟨g, off, ea, hc⟩ := h i hi
  exact ⟨g, off, ea, hg.cell hc (by simp)⟩

end Go.Proofs.Ytnmddmmmgdfknaa

namespace Go.Proofs.Ytnmddmmmgdfknaa
open Go.RowKit
set_option linter.unusedVariables false

/-- a list of whole numbers that may be written, from the head of block g on -/
def Own (w : World) (g : Nat) (xs : List Int) : Prop :=
  ∀ i : Nat, i < xs.length → w.cell? ⟨g, i, none⟩ = some (iv (xs[i]?.getD 0)) ∧ w.frozen? ⟨g, i, none⟩ = false

theorem Own.row {w : World} {g : Nat} {xs : List Int} (h : Own w g xs) : IRow w (some ⟨g, 0, none⟩) xs := by
  intro i hi
  exact ⟨g, 0, rfl, by simpa using (h i hi).1⟩

end Go.Proofs.Ytnmddmmmgdfknaa

namespace Go.Proofs.Ytnmddmmmgdfknaa
open Go.RowKit
set_option linter.unusedVariables false

def Wide (xs : List Int) : Prop := ∀ i : Nat, i < xs.length → -9223372036854775808 ≤ xs[i]?.getD 0 ∧ xs[i]?.getD 0 ≤ 9223372036854775807

end Go.Proofs.Ytnmddmmmgdfknaa

namespace Go.Proofs.Ytnmddmmmgdfknaa
open Go.RowKit
set_option linter.unusedVariables false

/-- the number at a place of a row -/
def el (xs : List Int) (i : Nat) : Int := xs[i]?.getD 0
theorem grownBy_alloc {a b : World} {row : Option Nat} (h : a.grownBy b row) (o : Obj) : a.grownBy (b.alloc o) row :=
  ⟨h.os, h.tape, h.output, Nat.le_trans h.size (by simp), fun k hk hne => (Below.heap_alloc _ _ _ (Nat.lt_of_lt_of_le hk h.size)).trans (h.block k hk hne)⟩
theorem results_one {fn : Func} {p : Tmp} {ty : TypeId} (h : fn.results = #[.cell p ty]) (tmps : Array Value) (P : Program) (w : World) :
    (results fn tmps).run P w = ((asAddr (tmps.getD p undef)).run P w).andThen fun a w₁ => (loadVar ty a).run P w₁ := by
  simp only [results, h]
  simp [Sem.run_bind, Result.andThen]
/-- of the blocks that were there those outside a span are as they were -/
structure Kept (lo hi : Nat) (w w' : World) : Prop where
  os : w'.os = w.os
  tape : w'.tape = w.tape
  output : w'.output = w.output
  size : w.heap.size ≤ w'.heap.size
  block : ∀ k, k < w.heap.size → ¬ (lo ≤ k ∧ k < hi) → w'.heap[k]? = w.heap[k]?

theorem Kept.refl (lo hi : Nat) (w : World) : Kept lo hi w w := ⟨rfl, rfl, rfl, Nat.le_refl _, fun _ _ _ => rfl⟩
theorem Kept.trans {lo hi : Nat} {a b c : World} (h : Kept lo hi a b) (k : Kept lo hi b c) : Kept lo hi a c :=
  ⟨k.os.trans h.os, k.tape.trans h.tape, k.output.trans h.output, Nat.le_trans h.size k.size, fun i hi hn => (k.block i (Nat.lt_of_lt_of_le hi h.size) hn).trans (h.block i hi hn)⟩
theorem kept_below {w w' : World} (h : Below w.heap.size w w') : Kept 0 0 w w' := ⟨h.os, h.tape, h.output, h.size, fun k hk _ => h.block k hk⟩
theorem Kept.below {w w' : World} (h : Kept 0 0 w w') : Below w.heap.size w w' := ⟨h.os, h.tape, h.output, h.size, fun k hk => h.block k hk (by omega)⟩
theorem Kept.grown {w w' : World} (h : Kept 0 0 w w') : w.grownBy w' none := ⟨h.os, h.tape, h.output, h.size, fun k hk _ => h.block k hk (by omega)⟩
theorem kept_alloc (w : World) (o : Obj) : Kept 0 0 w (w.alloc o) := kept_below ((Below.refl _ w).alloc (Nat.le_refl _) o)
theorem kept_drew {lo hi : Nat} {w w' : World} (h : Kept lo hi w w') : Kept lo hi w w'.drew := ⟨h.os, h.tape, h.output, h.size, h.block⟩
theorem Own.keptS {w w' : World} {g : Nat} {xs : List Int} {lo hi : Nat} (h : Own w g xs) (k : Kept lo hi w w') (hn : ¬ (lo ≤ g ∧ g < hi)) : Own w' g xs := by
  intro i hi'
  obtain ⟨hc, hf⟩ := h i hi'
  have e := k.block g (World.block_lt_of_cell? _ _ hc) hn
  exact ⟨by rw [World.cell?_of_block (w := w) e]; exact hc, by rw [World.frozen?_of_block (w := w) e]; exact hf⟩

/-- a list at address a: nil, or from the head of a block of the span on -/
def SlotIn (w : World) (lo hi : Nat) (a : Option Addr) (xs : List Int) : Prop :=
  (a = none ∧ xs = []) ∨ ∃ g : Nat, a = some ⟨g, 0, none⟩ ∧ lo ≤ g ∧ g < hi ∧ Own w g xs
theorem SlotIn.kept {w w' : World} {l h lo hi : Nat} {a : Option Addr} {xs : List Int} (s : SlotIn w l h a xs) (k : Kept lo hi w w') (hd : h ≤ lo ∨ hi ≤ l ∨ hi ≤ lo) : SlotIn w' l h a xs := by
  rcases s with s | ⟨g, ea, g0, g1, ho⟩
  · exact .inl s
  · exact .inr ⟨g, ea, g0, g1, ho.keptS k (by omega)⟩
theorem SlotIn.wide {w : World} {l h l' h' : Nat} {a : Option Addr} {xs : List Int} (s : SlotIn w l h a xs) (hl : l' ≤ l) (hh : h ≤ h') : SlotIn w l' h' a xs := by
  rcases s with s | ⟨g, ea, g0, g1, ho⟩
  · exact .inl s
  · exact .inr ⟨g, ea, by omega, by omega, ho⟩
theorem SlotIn.row {w : World} {l h : Nat} {a : Option Addr} {xs : List Int} (s : SlotIn w l h a xs) : IRow w a xs := by
  rcases s with ⟨_, rfl⟩ | ⟨g, rfl, _, _, ho⟩
  · intro i hi; exact absurd hi (Nat.not_lt_zero i)
  · exact ho.row
/-- a block that holds these cells -/
def Blk (w : World) (b : Nat) (cs : Array Value) (ty : TypeId) : Prop := w.heap[b]? = some (.cells cs ty)
theorem Blk.lt {w : World} {b : Nat} {cs : Array Value} {ty : TypeId} (h : Blk w b cs ty) : b < w.heap.size := by
  unfold Blk at h
  rcases Nat.lt_or_ge b w.heap.size with h' | h'
  · exact h'
  · rw [Array.getElem?_eq_none h'] at h; cases h
theorem Blk.kept {w w' : World} {b : Nat} {cs : Array Value} {ty : TypeId} {lo hi : Nat} (h : Blk w b cs ty) (k : Kept lo hi w w') (hn : ¬ (lo ≤ b ∧ b < hi)) : Blk w' b cs ty := (k.block b h.lt hn).trans h
theorem Blk.kept0 {w w' : World} {b : Nat} {cs : Array Value} {ty : TypeId} (h : Blk w b cs ty) (k : Kept 0 0 w w') : Blk w' b cs ty := h.kept k (by omega)
theorem Blk.cell {w : World} {b : Nat} {cs : Array Value} {ty : TypeId} (h : Blk w b cs ty) {i : Nat} {v : Value} (hi : cs[i]? = some v) : w.cell? ⟨b, i, none⟩ = some v := by
  unfold Blk at h
  simp [World.cell?, h, hi]
theorem Blk.frozen {w : World} {b : Nat} {cs : Array Value} {ty : TypeId} (h : Blk w b cs ty) (i : Nat) : w.frozen? ⟨b, i, none⟩ = false := by
  unfold Blk at h
  simp [World.frozen?, h]
theorem Blk.set {w : World} {b : Nat} {cs : Array Value} {ty : TypeId} (h : Blk w b cs ty) (i : Nat) (v : Value) : Blk (w.setCell ⟨b, i, none⟩ v) b (cs.setIfInBounds i v) ty := by
  unfold Blk at h ⊢
  simp [World.setCell, Array.getElem?_modify, h]
theorem Blk.other {w : World} {b : Nat} {cs : Array Value} {ty : TypeId} (h : Blk w b cs ty) (c i : Nat) (v : Value) (hn : b ≠ c) : Blk (w.setCell ⟨c, i, none⟩ v) b cs ty :=
  (Below.heap_setCell _ _ _ _ (by simpa using hn)).trans h
theorem Blk.new (w : World) (cs : Array Value) (ty : TypeId) : Blk (w.alloc (.cells cs ty)) w.heap.size cs ty := heap_alloc_new w _
theorem Blk.alloc {w : World} {b : Nat} {cs : Array Value} {ty : TypeId} (h : Blk w b cs ty) (o : Obj) : Blk (w.alloc o) b cs ty := (Below.heap_alloc _ _ _ h.lt).trans h
/-- a store into a block of the span -/
theorem kept_set {w w' : World} {lo hi : Nat} (h : Kept lo hi w w') (b i : Nat) (v : Value) (hb : (lo ≤ b ∧ b < hi) ∨ w.heap.size ≤ b) : Kept lo hi w (w'.setCell ⟨b, i, none⟩ v) :=
  ⟨h.os, h.tape, h.output, by simpa using h.size, fun k hk hn => (Below.heap_setCell _ _ _ _ (by simp; omega)).trans (h.block k hk hn)⟩
theorem kept_new {w w' : World} {lo hi : Nat} (h : Kept lo hi w w') (o : Obj) : Kept lo hi w (w'.alloc o) :=
  ⟨h.os, h.tape, h.output, Nat.le_trans h.size (by simp), fun k hk hn => (Below.heap_alloc _ _ _ (Nat.lt_of_lt_of_le hk h.size)).trans (h.block k hk hn)⟩
theorem IRow.keptS {w w' : World} {a : Option Addr} {xs : List Int} (h : IRow w a xs) (k : Kept 0 0 w w') : IRow w' a xs := h.kept k.grown

/-- a row of numbers that the kind int holds, at address a -/
def Came (w : World) (a : Option Addr) (xs : List Int) : Prop := IRow w a xs ∧ Wide xs
theorem Came.keptS {w w' : World} {a : Option Addr} {xs : List Int} (h : Came w a xs) (k : Kept 0 0 w w') : Came w' a xs := ⟨h.1.keptS k, h.2⟩
theorem undrewK {lo hi : Nat} {w w' : World} (h : Kept lo hi w.drew w') : Kept lo hi w w' := ⟨h.os, h.tape, h.output, h.size, h.block⟩
namespace Pl
end Pl
theorem Blk.all {w : World} {b : Nat} {cs : Array Value} {ty : TypeId} (h : Blk w b cs ty) (i : Nat) : w.cell? ⟨b, i, none⟩ = cs[i]? := by
  have e : w.heap[b]? = some (.cells cs ty (0, 0)) := h
  unfold World.cell?
  dsimp only
  rw [e]
  simp
theorem Blk.fz {w : World} {b : Nat} {cs : Array Value} {ty : TypeId} (h : Blk w b cs ty) (i : Nat) : w.frozen? ⟨b, i, none⟩ = false := h.frozen i
end Go.Proofs.Ytnmddmmmgdfknaa

namespace Go.Proofs.Ytnmddmmmgdfknaa
open Go.RowKit
set_option linter.unusedVariables false
theorem grown_new1 {w W : World} {row : Option Nat} (h : w.grownBy W row) (g i : Nat) (v : Value) (hg : w.heap.size ≤ g) : w.grownBy (W.setCell ⟨g, i, none⟩ v) row :=
  ⟨h.os, h.tape, h.output, by simpa using h.size, fun j hj hne => (Below.heap_setCell _ _ _ _ (by simp; omega)).trans (h.block j hj hne)⟩
theorem Cur.setNew {w0 w : World} {b : Nat} {a : Option Addr} {len cap : Nat} {p p' : Int} (h0 : Cur w0 b a len cap p') (h : Cur w b a len cap p) (g i : Nat) (v : Value) (hg : w0.heap.size ≤ g) : Cur (w.setCell ⟨g, i, none⟩ v) b a len cap p := by
  have hb := h0.lt
  refine h.kept2 (row := some g) ⟨rfl, rfl, rfl, by simp, fun k hk hn => Below.heap_setCell _ _ _ _ (fun e => hn (congrArg some e))⟩ (by simp; omega) ?_
  intro g0 off hl e
  obtain ⟨g1, o1, z, ea, _, hc, _⟩ := h0.row 0 hl
  rw [e] at ea
  cases ea
  have := World.block_lt_of_cell? _ _ hc
  simp at this ⊢
  omega
theorem Went.setNew {w W : World} {b : Nat} {a : Option Addr} {len cap : Nat} {p k p' : Int} (h : Went w W b a len cap p k) (h0 : Cur w b a len cap p') (g i : Nat) (v : Value) (hg : w.heap.size ≤ g) : Went w (W.setCell ⟨g, i, none⟩ v) b a len cap p k := by
  obtain ⟨h1, q, h2, h3, h4⟩ := h
  exact ⟨grown_new1 h1 g i v hg, q, h2, h3, h0.setNew h4 g i v hg⟩
theorem Went.allocW {w W : World} {b : Nat} {a : Option Addr} {len cap : Nat} {p k : Int} (h : Went w W b a len cap p k) (o : Obj) : Went w (W.alloc o) b a len cap p k := by
  obtain ⟨h1, q, h2, h3, h4⟩ := h
  exact ⟨grownBy_alloc h1 o, q, h2, h3, h4.alloc o⟩
theorem Went.step {w W w' : World} {b : Nat} {a : Option Addr} {len cap : Nat} {p q k l : Int} (h1 : w.grownBy W (some b)) (h2 : p ≤ q) (h3 : q ≤ p + k) (h : Went W w' b a len cap q l) : Went w w' b a len cap p (k + l) := by
  obtain ⟨g, r, r0, r1, c⟩ := h
  exact ⟨grownBy_trans h1 g, r, by omega, by omega, c⟩
theorem Blk.by2 {w w' : World} {b : Nat} {cs : Array Value} {ty : TypeId} {row : Option Nat} (h : Blk w b cs ty) (k : w.grownBy w' row) (hn : row ≠ some b) : Blk w' b cs ty := (k.block b h.lt (fun e => hn e.symm)).trans h
section
variable {w W : World} {b : Nat} {a : Option Addr} {len cap : Nat} {p k : Int}
theorem pickW (h : Went w W b a len cap p k) (p0 : 0 ≤ p) (p1 : p + k ≤ 800000) (n : Int) (n0 : 1 ≤ n) (n1 : n ≤ 1000000) :
    Calls Try.prog 50 #[.pointer (some ⟨b, 0, none⟩), .int .i64 n] W fun e w' => ∃ r : Int, e = .returned (.int .i64 r) ∧ 0 ≤ r ∧ r < n ∧ Went w w' b a len cap p (k + 2) ∧ W.grownBy w' (some b) := by
  obtain ⟨h1, q, h2, h3, h4⟩ := h
  refine (pick W b a len cap q n h4 (by omega) (by omega) n0 n1).mono ?_
  rintro e w' ⟨r, he, r0, r1, hw⟩
  exact ⟨r, he, r0, r1, Went.step h1 h2 h3 hw, hw.1⟩
theorem oneW (h : Went w W b a len cap p k) (p0 : 0 ≤ p) (p1 : p + k ≤ 800000) (n : Int) (n0 : 1 ≤ n) (n1 : n ≤ 1000000) :
    Calls Try.prog 96 #[.pointer (some ⟨b, 0, none⟩), .int .i64 n] W fun e w' => ∃ r : Bool, e = .returned (.bool r) ∧ Went w w' b a len cap p (k + 2) ∧ W.grownBy w' (some b) := by
  obtain ⟨h1, q, h2, h3, h4⟩ := h
  refine (one W b a len cap q n h4 (by omega) (by omega) n0 n1).mono ?_
  rintro e w' ⟨r, he, hw⟩
  exact ⟨r, he, Went.step h1 h2 h3 hw, hw.1⟩
theorem valueW (h : Went w W b a len cap p k) (p0 : 0 ≤ p) (p1 : p + k ≤ 800000) :
    Calls Try.prog 95 #[.pointer (some ⟨b, 0, none⟩)] W fun e w' => ∃ r : Int, e = .returned (.int .i64 r) ∧ -1 ≤ r ∧ r ≤ 65536 ∧ Went w w' b a len cap p (k + 8) ∧ W.grownBy w' (some b) := by
  obtain ⟨h1, q, h2, h3, h4⟩ := h
  refine (value W b a len cap q h4 (by omega) (by omega)).mono ?_
  rintro e w' ⟨r, he, r0, r1, hw⟩
  exact ⟨r, he, r0, r1, Went.step h1 h2 h3 hw, hw.1⟩
end
end Go.Proofs.Ytnmddmmmgdfknaa

namespace Go.Proofs.Ytnmddmmmgdfknaa
open Go.RowKit
set_option linter.unusedVariables false

theorem size (w : World) (b : Nat) (a : Option Addr) (len cap : Nat) (p : Int) (h : Cur w b a len cap p) (p0 : 0 ≤ p) (p1 : p ≤ 900000) :
    Calls Try.prog 49 #[.pointer (some ⟨b, 0, none⟩)] w fun e w' => ∃ r : Int, e = .returned (.int .i64 r) ∧ 0 ≤ r ∧ r ≤ 3 ∧ Went w w' b a len cap p 2 := by
  have hlt := h.lt
  go_enter Try.func49, Try.ntmps49
  go_wp2_with fail
  refine (among _ b a len cap p _ _ _ 0 3 (h.alloc _) p0 p1 (by decide) (by decide) (by omega) (lits w [1, 2, 2, 1, 1, 2, 2, 2, 0, 3] 0 3 (by decide))).mono ?_
  rintro e w1 ⟨x, rfl, x0, x1, hw⟩
  go_wp2_with fail
  go_ret
  exact ⟨_, rfl, x0, x1, hw.alloc⟩

theorem fit (w : World) (b : Nat) (a : Option Addr) (len cap : Nat) (p s : Int) (h : Cur w b a len cap p) (p0 : 0 ≤ p) (p1 : p ≤ 700000) :
    Calls Try.prog 51 #[.pointer (some ⟨b, 0, none⟩), .int .i64 s] w fun e w' => ∃ r : Int, e = .returned (.int .i64 r) ∧ -1 ≤ r ∧ r ≤ 65536 ∧ Went w w' b a len cap p 10 := by
  by_cases hs : s = 1
  · subst hs
    go_enter Try.func51, Try.ntmps51
    go_wp2_with fail
    refine (value _ b a len cap p h p0 (by omega)).mono ?_
    rintro e w1 ⟨v, rfl, v0, v1, hg1, q1, q10, q11, hc1⟩
    go_wp2_with fail
    refine (one _ b a len cap q1 20 hc1 (by omega) (by omega) (by omega) (by omega)).mono ?_
    rintro e w2 ⟨x, rfl, hg2, q2, q20, q21, hc2⟩
    have em := Pl.and255 v
    cases x
    all_goals
      go_wp2_with fail
      go_ret
      exact ⟨_, rfl, by omega, by omega, grownBy_trans hg1 hg2, q2, by omega, by omega, hc2⟩
  · have ks : (s == 1) = false := by simpa using hs
    go_enter Try.func51, Try.ntmps51
    go_wp2_with fail
    refine (value _ b a len cap p h p0 (by omega)).mono ?_
    rintro e w1 ⟨v, rfl, v0, v1, hw⟩
    go_wp2_with fail
    go_ret
    exact ⟨_, rfl, v0, v1, hw.more (by omega)⟩

end Go.Proofs.Ytnmddmmmgdfknaa

namespace Go.Proofs.Ytnmddmmmgdfknaa
open Go.RowKit
set_option linter.unusedVariables false

theorem l1Size_no (s : Int) (w : World) (h1 : ¬ s = 1) (h2 : ¬ s = 2) : Calls Try.prog 110 #[iv s] w fun e w' => e = .returned (.bool false) ∧ w' = w := by
  have k1 : (s == 1) = false := by simpa using h1
  have k2 : (s == 2) = false := by simpa using h2
  go_enter Try.func110, Try.ntmps110
  go_wp2
  go_ret
  exact ⟨rfl, rfl⟩

theorem l1Size1 (w : World) : Calls Try.prog 110 #[iv 1] w fun e w' => e = .returned (.bool true) ∧ w' = w := by
  go_enter Try.func110, Try.ntmps110
  go_wp2
  go_ret
  exact ⟨rfl, rfl⟩

theorem l1Size2 (w : World) : Calls Try.prog 110 #[iv 2] w fun e w' => e = .returned (.bool true) ∧ w' = w := by
  go_enter Try.func110, Try.ntmps110
  go_wp2
  go_ret
  exact ⟨rfl, rfl⟩
end Go.Proofs.Ytnmddmmmgdfknaa

namespace Go.Proofs.Ytnmddmmmgdfknaa
open Go.RowKit
set_option linter.unusedVariables false

theorem l1Top1 (w : World) : Calls Try.prog 109 #[iv 1] w fun e w' => e = .returned (iv 256) ∧ w' = w := by
  go_enter Try.func109, Try.ntmps109
  go_wp2
  go_ret
  exact ⟨rfl, rfl⟩

theorem l1Top2 (w : World) : Calls Try.prog 109 #[iv 2] w fun e w' => e = .returned (iv 65536) ∧ w' = w := by
  go_enter Try.func109, Try.ntmps109
  go_wp2
  go_ret
  exact ⟨rfl, rfl⟩

theorem l1Value (s v : Int) (w : World) :
    Calls Try.prog 70 #[iv s, iv v] w fun e w' => e = .returned (.bool (Pl.okv s v)) ∧ w' = w := by
  by_cases h1 : s = 1
  · subst h1
    go_enter Try.func70, Try.ntmps70
    go_wp2_with fail
    refine (l1Size1 _).mono ?_
    rintro e w' ⟨rfl, rfl⟩
    go_wp2_with fail
    refine (l1Top1 _).mono ?_
    rintro e w' ⟨rfl, rfl⟩
    go_wp2_with fail
    refine (l1In _ _ _ _).mono ?_
    rintro e w' ⟨rfl, rfl⟩
    go_wp2_with fail
    go_ret
    exact ⟨rB (by rw [Bool.eq_iff_iff]; simp [Pl.okv, Pl.top]; omega), rfl⟩
  · by_cases h2 : s = 2
    · subst h2
      go_enter Try.func70, Try.ntmps70
      go_wp2_with fail
      refine (l1Size2 _).mono ?_
      rintro e w' ⟨rfl, rfl⟩
      go_wp2_with fail
      refine (l1Top2 _).mono ?_
      rintro e w' ⟨rfl, rfl⟩
      go_wp2_with fail
      refine (l1In _ _ _ _).mono ?_
      rintro e w' ⟨rfl, rfl⟩
      go_wp2_with fail
      go_ret
      exact ⟨rB (by rw [Bool.eq_iff_iff]; simp [Pl.okv, Pl.top]; omega), rfl⟩
    · go_enter Try.func70, Try.ntmps70
      go_wp2_with fail
      refine (l1Size_no s _ h1 h2).mono ?_
      rintro e w' ⟨rfl, rfl⟩
      go_wp2_with fail
      go_ret
      exact ⟨rB (by simp [Pl.okv, h1, h2]), rfl⟩

end Go.Proofs.Ytnmddmmmgdfknaa

namespace Go.Proofs.Ytnmddmmmgdfknaa
open Go.RowKit
set_option linter.unusedVariables false

theorem IRow.at4 {w : World} {a : Option Addr} {xs : List Int} (h : IRow w a xs) {n k : Nat} (hl : xs.length = 4 * n) (hk : k < n) :
    ∃ g off : Nat, a = some ⟨g, off, none⟩ ∧ w.cell? ⟨g, off + k * 4, none⟩ = some (.int .i64 (el xs (k * 4))) ∧ w.cell? ⟨g, off + k * 4 + 1, none⟩ = some (.int .i64 (el xs (k * 4 + 1))) ∧ w.cell? ⟨g, off + k * 4 + 2, none⟩ = some (.int .i64 (el xs (k * 4 + 2))) ∧ w.cell? ⟨g, off + k * 4 + 3, none⟩ = some (.int .i64 (el xs (k * 4 + 3))) := by
  obtain ⟨g, off, ea, c0⟩ := h (k * 4) (by omega)
  have pick : ∀ j, j < 4 → w.cell? ⟨g, off + k * 4 + j, none⟩ = some (.int .i64 (el xs (k * 4 + j))) := by
    intro j hj
    obtain ⟨g', off', ea', c⟩ := h (k * 4 + j) (by omega)
    rw [ea] at ea'
    cases ea'
    rw [Nat.add_assoc]; exact c
  exact ⟨g, off, ea, c0, pick 1 (by decide), pick 2 (by decide), pick 3 (by decide)⟩

theorem Try.infoFlagOp : (Try.prog.info? 47).map (fun i => (i.zero, i.size, i.bytes)) = some (some (.agg #[.int .i64 0, .int .i64 0, .int .i64 0, .int .i64 0]), 4, 32) := by kernel_rfl
theorem own_of_row4 {w : World} {base g n cap : Nat} {xs : List Int} (h : w.ownsRow base 47 4 (.slice (some ⟨g, 0, none⟩) n cap) n (xs.map (Value.int .i64))) : Own w g xs := by
  intro i hi
  rcases h with ⟨hl, ⟨e, _⟩ | ⟨g', cap', cur, e, _, hgg, hn, _, hsz, ht⟩⟩
  · cases e
  · cases e
    simp at hl
    have hc : cur[i]? = some (.int .i64 (xs[i]?.getD 0)) := by
      have : (cur.toList.take (n * 4))[i]? = (xs.map (Value.int .i64))[i]? := by rw [ht]
      rw [List.getElem?_take, if_pos (by omega)] at this
      simpa [hi] using this
    refine ⟨?_, ?_⟩
    · simp [World.cell?, hgg, hc]
    · simp [World.frozen?, hgg]

end Go.Proofs.Ytnmddmmmgdfknaa

namespace Go.Proofs.Ytnmddmmmgdfknaa.Pl
set_option linter.unusedVariables false
/-- the flags, each by itself -/
def cF (f : Int) : Bool := f % 2 == 1
def vF (f : Int) : Bool := f / 2 % 2 == 1
def zF (f : Int) : Bool := f / 4 % 2 == 1
def nF (f : Int) : Bool := f / 8 % 2 == 1
/-- what an even condition tells -/
def ev (c f : Int) : Bool :=
  bif c == 2 then !cF f && !zF f else bif c == 4 then !cF f else bif c == 6 then !zF f else bif c == 8 then !vF f
  else bif c == 10 then !nF f else bif c == 12 then nF f == vF f else bif c == 14 then (nF f == vF f) && !zF f else true
def tst (k f : Int) : Bool := ev (k - k % 2) f == (k % 2 == 0)
def cOk (k : Int) : Bool := decide (0 ≤ k) && decide (k ≤ 15)
def need (k : Int) : Int :=
  bif k - k % 2 == 2 then 5 else bif k - k % 2 == 4 then 1 else bif k - k % 2 == 6 then 4 else bif k - k % 2 == 8 then 2
  else bif k - k % 2 == 10 then 8 else bif k - k % 2 == 12 then 10 else bif k - k % 2 == 14 then 14 else 0
theorem cOk_ok {k : Int} (h : cOk k = true) : 0 ≤ k ∧ k ≤ 15 := by simpa [cOk] using h
theorem nat_of {k : Int} {n : Nat} (h0 : 0 ≤ k) (h1 : k < n) : ∃ j : Nat, j < n ∧ k = (j : Int) := ⟨k.toNat, by omega, by omega⟩
/- the bits of flags, one at a time -/
end Go.Proofs.Ytnmddmmmgdfknaa.Pl

namespace Go.Proofs.Ytnmddmmmgdfknaa.Pl
set_option linter.unusedVariables false

/-- the highest bit -/
def hi (s v : Int) : Int := if top s / 2 ≤ v then 1 else 0
/-- what falls out -/
def fell (k s v : Int) : Int := if k % 2 = 0 then hi s v else v % 2
/-- what comes in -/
def inn (k s x v : Int) : Int := if k = 1 then hi s v else if k = 4 ∨ k = 5 then fell k s v else if 6 ≤ k then x else 0
def nv (k s x v : Int) : Int := if k % 2 = 0 then v * 2 % top s + inn k s x v else v / 2 + inn k s x v * (top s / 2)
def nx (k s x v : Int) : Int := if k = 4 ∨ k = 5 then x else fell k s v
def vfl (k s x v : Int) : Bool := decide (k = 0) && (hi s v != hi s (nv k s x v))
def zn (s v : Int) : Int := fl (v == 0) 4 + fl (decide (top s / 2 ≤ v)) 8
def onF (k s x v : Int) : Int := fell k s v + fl (vfl k s x v) 2 + zn s (nv k s x v) + 16 * nx k s x v

/-- a value and the kept bit, one place on -/
def stp (k s : Int) (p : Int × Int) : Int × Int := (nv k s p.2 p.1, nx k s p.2 p.1)
/-- a value of a size and a kept bit -/
def Fit (s : Int) (p : Int × Int) : Prop := (s = 1 ∨ s = 2) ∧ 0 ≤ p.1 ∧ p.1 < top s ∧ 0 ≤ p.2 ∧ p.2 ≤ 1

theorem hi_bd (s v : Int) : 0 ≤ hi s v ∧ hi s v ≤ 1 := by unfold hi; split <;> omega
theorem fell_bd (k s v : Int) : 0 ≤ fell k s v ∧ fell k s v ≤ 1 := by
  have := hi_bd s v
  unfold fell; split <;> omega
theorem inn_bd (k s x v : Int) (x0 : 0 ≤ x) (x1 : x ≤ 1) : 0 ≤ inn k s x v ∧ inn k s x v ≤ 1 := by
  have := hi_bd s v
  have := fell_bd k s v
  unfold inn; repeat' split
  all_goals omega
theorem nx_bd (k s x v : Int) (x0 : 0 ≤ x) (x1 : x ≤ 1) : 0 ≤ nx k s x v ∧ nx k s x v ≤ 1 := by
  have := fell_bd k s v
  unfold nx; split <;> omega
theorem top12 {s : Int} (h : s = 1 ∨ s = 2) : (s = 1 ∧ top s = 256) ∨ (s = 2 ∧ top s = 65536) := by
  rcases h with rfl | rfl
  · exact .inl ⟨rfl, rfl⟩
  · exact .inr ⟨rfl, rfl⟩
theorem stp_fit {k s : Int} {p : Int × Int} (h : Fit s p) : Fit s (stp k s p) := by
  obtain ⟨hs, v0, v1, x0, x1⟩ := h
  have i := inn_bd k s p.2 p.1 x0 x1
  have n := nx_bd k s p.2 p.1 x0 x1
  refine ⟨hs, ?_, ?_, n.1, n.2⟩
  all_goals
    unfold stp nv
    rcases top12 hs with ⟨_, e⟩ | ⟨_, e⟩
    all_goals
      simp only [e] at v1 ⊢
      generalize inn k s p.2 p.1 = q at i
      split
      · omega
      · have : q = 0 ∨ q = 1 := by omega
        rcases this with rfl | rfl <;> omega
/-! ### what a call answers -/
def goodK (k s f v : Int) : Bool := (decide (0 ≤ k) && decide (k ≤ 7)) && (okv s v && flags f)
def onceV (k s f v : Int) : Int := if goodK k s f v = true then nv k s (f / 16) v else 0
def onceF (k s f v : Int) : Int := if goodK k s f v = true then onF k s (f / 16) v else 0
def kin (k : Int) : Bool := decide (0 ≤ k) && decide (k ≤ 7)
theorem okv_size {s v : Int} (h : okv s v = true) : s = 1 ∨ s = 2 := by
  simp [okv] at h
  exact h.1
theorem goodK_ok {k s f v : Int} (h : goodK k s f v = true) : 0 ≤ k ∧ k ≤ 7 ∧ okv s v = true ∧ 0 ≤ f ∧ f ≤ 31 ∧ Fit s (v, f / 16) := by
  simp only [goodK, Bool.and_eq_true, decide_eq_true_eq] at h
  obtain ⟨⟨k0, k1⟩, ho, hf⟩ := h
  obtain ⟨f0, f1⟩ := flags_ok hf
  have ht := top_ok ho
  exact ⟨k0, k1, ho, f0, f1, okv_size ho, ht.2.1, ht.2.2, by show 0 ≤ f / 16; omega, by show f / 16 ≤ 1; omega⟩
end Go.Proofs.Ytnmddmmmgdfknaa.Pl

namespace Go.Proofs.Ytnmddmmmgdfknaa.Pl
set_option linter.unusedVariables false
structure Fo where
  k : Int
  z : Int
  a : Int
  b : Int
def foNo : Fo := ⟨0, 0, 0, 0⟩
def foNone (x : Fo) : Bool := (x.k == 0) && ((x.z == 0) && ((x.a == 0) && (x.b == 0)))
def foSame (x y : Fo) : Bool := (x.k == y.k) && ((x.z == y.z) && ((x.a == y.a) && (x.b == y.b)))
def sumK (k : Int) : Bool := (k == 1) || (k == 2)
def foOk (x : Fo) : Bool := (okv x.z x.a && okv x.z x.b) && ((decide (1 ≤ x.k) && decide (x.k ≤ 5)) && (decide (x.k ≤ 3) || (x.b == 0)))
/-- what an operation makes of flags -/
def mk (f : Int) (x : Fo) : Int :=
  if x.k = 1 then addF x.z 0 x.a x.b else if x.k = 2 then subF x.z 0 x.a x.b else if x.k = 3 then cmpF x.z f x.a x.b
  else if x.k = 4 then logF x.z f x.a else if x.k = 5 then onceF 4 x.z f x.a else f
/-- a note -/
structure Lz where
  b : Int
  l : Fo
  r : Fo
def lzNo : Lz := ⟨0, foNo, foNo⟩
def lzOk (z : Lz) : Bool := flags z.b && (bif foNone z.l then foNone z.r else foOk z.l && (bif sumK z.l.k then foSame z.r z.l else foNone z.r || (sumK z.r.k && foOk z.r)))
def lzF (z : Lz) : Int := mk (mk z.b z.r) z.l
def lzV (z : Lz) : Int := if lzOk z = true then lzF z else 0
def note (z : Lz) (x : Fo) : Lz := ⟨z.b, x, if sumK x.k = true then x else z.r⟩
def foAt (ys : List Int) (i : Nat) : Fo := ⟨el ys (i * 4), el ys (i * 4 + 1), el ys (i * 4 + 2), el ys (i * 4 + 3)⟩
def allFo (ys : List Int) : Nat → Bool
  | 0 => true
  | n + 1 => allFo ys n && foOk (foAt ys n)
def eag (ys : List Int) (f : Int) : Nat → Int
  | 0 => f
  | n + 1 => mk (eag ys f n) (foAt ys n)
def laz (ys : List Int) (f : Int) : Nat → Lz
  | 0 => ⟨f, foNo, foNo⟩
  | n + 1 => note (laz ys f n) (foAt ys n)
def frOk (ys : List Int) (f : Int) (n : Nat) : Bool := flags f && (decide ((n : Int) ≤ 40) && allFo ys n)
def eagV (ys : List Int) (f : Int) (n : Nat) : Int := if frOk ys f n = true then eag ys f n else 0
def lazV (ys : List Int) (f : Int) (n : Nat) : Lz := if frOk ys f n = true then laz ys f n else lzNo
theorem foOk_ok {x : Fo} (h : foOk x = true) : okv x.z x.a = true ∧ okv x.z x.b = true ∧ 1 ≤ x.k ∧ x.k ≤ 5 ∧ two x.z 0 x.a x.b = true := by
  simp only [foOk, Bool.and_eq_true, decide_eq_true_eq] at h
  exact ⟨h.1.1, h.1.2, h.2.1.1, h.2.1.2, by simp [two, h.1.1, h.1.2, bit]⟩
theorem foOk_bd {x : Fo} (h : foOk x = true) : 0 ≤ x.a ∧ x.a < 65536 ∧ 0 ≤ x.b ∧ x.b < 65536 := by
  obtain ⟨h1, h2, _⟩ := foOk_ok h
  have := top_ok h1
  have := top_ok h2
  omega
theorem foNone_ok {x : Fo} (h : foNone x = true) : x = foNo := by
  obtain ⟨k, z, a, b⟩ := x
  simp [foNone] at h
  obtain ⟨rfl, rfl, rfl, rfl⟩ := h
  rfl
theorem foNone_no {x : Fo} (h : foOk x = true) : foNone x = false := by
  cases q : foNone x
  · rfl
  · rw [foNone_ok q] at h; exact absurd h (by decide)
theorem foSame_ok {x y : Fo} (h : foSame x y = true) : x = y := by
  obtain ⟨k, z, a, b⟩ := x
  obtain ⟨k', z', a', b'⟩ := y
  simp [foSame] at h
  obtain ⟨rfl, rfl, rfl, rfl⟩ := h
  rfl
theorem foSame_self (x : Fo) : foSame x x = true := by simp [foSame]
theorem mk_no (f : Int) : mk f foNo = f := by simp [mk, foNo]
theorem mk_none {x : Fo} (h : foNone x = true) (f : Int) : mk f x = f := by rw [foNone_ok h]; exact mk_no f
theorem mk_sum {x : Fo} (h : sumK x.k = true) (f g : Int) : mk f x = mk g x := by
  simp [sumK] at h
  rcases h with h | h <;> simp [mk, h]
/- flags stay flags -/
theorem flags_nat {f : Int} (h : flags f = true) : ∃ n : Nat, n < 32 ∧ f = (n : Int) := by
  have := flags_ok h
  exact ⟨f.toNat, by omega, by omega⟩
theorem low_high : ∀ t : Nat, t < 32 → ∀ f : Nat, f < 32 → bits .or .i64 (bits .and .i64 (t : Int) 15) (bits .and .i64 (f : Int) 16) = (t : Int) % 16 + 16 * ((f : Int) / 16) := by decide +kernel
theorem log_high : ∀ z n : Bool, ∀ f : Nat, f < 32 → bits .or .i64 (bits .and .i64 (f : Int) 16) (bits .or .i64 (fl z 4) (fl n 8)) = fl z 4 + fl n 8 + 16 * ((f : Int) / 16) := by decide +kernel
theorem addF_bq (s x a b : Int) : 0 ≤ addF s x a b ∧ addF s x a b ≤ 31 := by
  unfold addF; split
  · exact keptF_bd _ _ _
  · omega
theorem cmp_form {s f a b : Int} (h : two s 0 a b = true) (hf : flags f = true) : cmpF s f a b = subF s 0 a b % 16 + 16 * (f / 16) := by
  obtain ⟨n, hn, rfl⟩ := flags_nat hf
  have hb := subF_bd s 0 a b
  obtain ⟨t, ht⟩ := Int.eq_ofNat_of_zero_le hb.1
  unfold cmpF
  rw [h, hf, ht, Bool.and_self, if_pos rfl]
  exact low_high t (by omega) n hn
theorem log_form {s f a : Int} (h : okv s a = true) (hf : flags f = true) : logF s f a = fl (a == 0) 4 + fl (decide (sg s a < 0)) 8 + 16 * (f / 16) := by
  obtain ⟨n, hn, rfl⟩ := flags_nat hf
  unfold logF
  rw [h, hf, Bool.and_self, if_pos rfl]
  exact log_high _ _ n hn
theorem once_form {s f a : Int} (h : okv s a = true) (hf : flags f = true) : onceF 4 s f a = fell 4 s a + zn s (nv 4 s (f / 16) a) + 16 * (f / 16) := by
  have hg : goodK 4 s f a = true := by simp [goodK, h, hf]
  unfold onceF onF
  rw [if_pos hg]
  simp [vfl, nx, fl]
theorem nv4 (s x y v : Int) : nv 4 s x v = nv 4 s y v := by simp [nv, inn]
theorem fl_bq (b : Bool) (n : Int) (h : 0 ≤ n) : 0 ≤ fl b n ∧ fl b n ≤ n := by cases b <;> simp [fl, h]
theorem zn_bq (s v : Int) : 0 ≤ zn s v ∧ zn s v ≤ 12 := by
  have h1 := fl_bq (v == 0) 4 (by omega)
  have h2 := fl_bq (decide (top s / 2 ≤ v)) 8 (by omega)
  unfold zn; omega
/-- what no sum is leaves the last of the five as it was, and looks at no other one -/
theorem mk_high {x : Fo} (h : foOk x = true) (hs : sumK x.k = false) {f : Int} (hf : flags f = true) : ∃ m : Int, 0 ≤ m ∧ m ≤ 15 ∧ ∀ g, flags g = true → mk g x = m + 16 * (g / 16) := by
  obtain ⟨h1, h2, h3, h4, h5⟩ := foOk_ok h
  have hk : x.k = 3 ∨ x.k = 4 ∨ x.k = 5 := by
    simp [sumK] at hs; omega
  rcases hk with hk | hk | hk
  · have hb := subF_bd x.z 0 x.a x.b
    refine ⟨subF x.z 0 x.a x.b % 16, by omega, by omega, fun g hg => ?_⟩
    simp [mk, hk, cmp_form h5 hg]
  · have q1 := fl_bq (x.a == 0) 4 (by omega)
    have q2 := fl_bq (decide (sg x.z x.a < 0)) 8 (by omega)
    refine ⟨fl (x.a == 0) 4 + fl (decide (sg x.z x.a < 0)) 8, by omega, by omega, fun g hg => ?_⟩
    simp only [mk, hk]
    simp only [show ¬ (4 : Int) = 1 from by decide, show ¬ (4 : Int) = 2 from by decide, show ¬ (4 : Int) = 3 from by decide, if_false, if_true]
    exact log_form h1 hg
  · have q1 := fell_bd 4 x.z x.a
    have q2 := zn_bq x.z (nv 4 x.z 0 x.a)
    refine ⟨fell 4 x.z x.a + zn x.z (nv 4 x.z 0 x.a), by omega, by omega, fun g hg => ?_⟩
    simp only [mk, hk]
    simp only [show ¬ (5 : Int) = 1 from by decide, show ¬ (5 : Int) = 2 from by decide, show ¬ (5 : Int) = 3 from by decide, show ¬ (5 : Int) = 4 from by decide, if_false, if_true]
    rw [once_form h1 hg, nv4 x.z (g / 16) 0]
theorem flags_mk {x : Fo} (h : foOk x = true) {f : Int} (hf : flags f = true) : flags (mk f x) = true := by
  cases hs : sumK x.k
  · obtain ⟨m, m0, m1, hm⟩ := mk_high h hs hf
    rw [hm f hf]
    have := flags_ok hf
    simp [flags]; omega
  · simp [sumK] at hs
    have q1 := addF_bq x.z 0 x.a x.b
    have q2 := subF_bd x.z 0 x.a x.b
    rcases hs with hs | hs <;> simp [mk, hs, flags] <;> omega
theorem flags_mk0 {x : Fo} (h : foNone x = true ∨ foOk x = true) {f : Int} (hf : flags f = true) : flags (mk f x) = true := by
  rcases h with h | h
  · rw [mk_none h]; exact hf
  · exact flags_mk h hf
theorem lz_parts {z : Lz} (h : lzOk z = true) : flags z.b = true ∧ (foNone z.l = true ∨ foOk z.l = true) ∧ (foNone z.r = true ∨ foOk z.r = true) := by
  simp only [lzOk, Bool.and_eq_true] at h
  obtain ⟨h1, h2⟩ := h
  cases q : foNone z.l
  · rw [q] at h2
    simp only [cond_false, Bool.and_eq_true] at h2
    refine ⟨h1, .inr h2.1, ?_⟩
    cases q2 : sumK z.l.k
    · rw [q2] at h2
      have := h2.2
      simp only [cond_false, Bool.or_eq_true, Bool.and_eq_true] at this
      rcases this with h | h
      · exact .inl h
      · exact .inr h.2
    · rw [q2] at h2
      have := foSame_ok h2.2
      rw [this]; exact .inr h2.1
  · rw [q] at h2
    exact ⟨h1, .inl rfl, .inl h2⟩
theorem lzF_flags {z : Lz} (h : lzOk z = true) : flags (lzF z) = true := by
  obtain ⟨h1, h2, h3⟩ := lz_parts h
  exact flags_mk0 h2 (flags_mk0 h3 h1)
theorem note_ok {z : Lz} {x : Fo} (h : lzOk z = true) (hx : foOk x = true) : lzOk (note z x) = true := by
  have hn := foNone_no hx
  simp only [lzOk, note, Bool.and_eq_true]
  refine ⟨(lz_parts h).1, ?_⟩
  rw [hn]
  cases q : sumK x.k
  · simp only [cond_false, hx, Bool.true_and, if_false, Bool.false_eq_true]
    simp only [lzOk, Bool.and_eq_true] at h
    obtain ⟨h1, h2⟩ := h
    cases q1 : foNone z.l
    · rw [q1] at h2
      simp only [cond_false, Bool.and_eq_true] at h2
      cases q2 : sumK z.l.k
      · rw [q2] at h2; exact h2.2
      · rw [q2] at h2
        rw [foSame_ok h2.2, q2, h2.1]
        simp
    · rw [q1] at h2
      simp only [cond_true] at h2
      rw [h2]; rfl
  · simp only [cond_false, cond_true, hx, Bool.true_and, if_true]
    exact foSame_self x
theorem note_mk {z : Lz} {x : Fo} (h : lzOk z = true) (hx : foOk x = true) : lzF (note z x) = mk (lzF z) x := by
  unfold lzF note
  simp only
  cases q : sumK x.k
  · simp only [Bool.false_eq_true, if_false]
    obtain ⟨hb, hl, hr⟩ := lz_parts h
    have hg := flags_mk0 hr hb
    obtain ⟨m, m0, m1, hm⟩ := mk_high hx q hb
    rw [hm _ hg, hm _ (flags_mk0 hl hg)]
    rcases hl with hl | hl
    · rw [mk_none hl]
    · cases q2 : sumK z.l.k
      · obtain ⟨m', m0', m1', hm'⟩ := mk_high hl q2 hb
        rw [hm' _ hg]; omega
      · simp only [lzOk, Bool.and_eq_true, foNone_no hl, q2, cond_false, cond_true] at h
        rw [foSame_ok h.2.2, mk_sum q2 (mk z.b z.l) z.b]
  · simp only [if_true]
    exact mk_sum q _ _
theorem laz_ok {ys : List Int} {f : Int} (hf : flags f = true) : ∀ n, allFo ys n = true → lzOk (laz ys f n) = true ∧ lzF (laz ys f n) = eag ys f n
  | 0, _ => by
    refine ⟨?_, ?_⟩
    · simp only [laz, lzOk, hf]; decide
    · simp [laz, lzF, eag, mk_no]
  | n + 1, h => by
    simp only [allFo, Bool.and_eq_true] at h
    obtain ⟨h1, h2⟩ := laz_ok hf n h.1
    exact ⟨note_ok h1 h.2, by show lzF (note _ _) = _; rw [note_mk h1 h.2, h2]; rfl⟩
theorem eag_ok {ys : List Int} {f : Int} (hf : flags f = true) : ∀ n, allFo ys n = true → flags (eag ys f n) = true
  | 0, _ => hf
  | n + 1, h => by
    simp only [allFo, Bool.and_eq_true] at h
    exact flags_mk h.2 (eag_ok hf n h.1)
theorem allFo_no {ys : List Int} {n k : Nat} (hk : k < n) (h : foOk (foAt ys k) = false) : allFo ys n = false := by
  induction n with
  | zero => omega
  | succ n ih =>
    unfold allFo
    by_cases e : k = n
    · subst e; rw [h]; simp
    · rw [ih (by omega)]; rfl
theorem allFo_at {ys : List Int} {n k : Nat} (hk : k < n) (h : allFo ys n = true) : foOk (foAt ys k) = true ∧ allFo ys k = true := by
  induction n with
  | zero => omega
  | succ n ih =>
    simp only [allFo, Bool.and_eq_true] at h
    by_cases e : k = n
    · subst e; exact ⟨h.2, h.1⟩
    · exact ih (by omega) h.1
end Go.Proofs.Ytnmddmmmgdfknaa.Pl
namespace Go.Proofs.Ytnmddmmmgdfknaa
abbrev foA (x : Pl.Fo) : Array Value := #[iv x.k, iv x.z, iv x.a, iv x.b]
abbrev lzA (z : Pl.Lz) : Array Value := #[iv z.b, iv z.l.k, iv z.l.z, iv z.l.a, iv z.l.b, iv z.r.k, iv z.r.z, iv z.r.a, iv z.r.b]
/-- numbers that an int holds -/
structure FoW (x : Pl.Fo) : Prop where
  k : (Lit.int .i64 x.k).wf = true
  z : (Lit.int .i64 x.z).wf = true
  a : (Lit.int .i64 x.a).wf = true
  b : (Lit.int .i64 x.b).wf = true
structure LzW (z : Pl.Lz) : Prop where
  b : (Lit.int .i64 z.b).wf = true
  l : FoW z.l
  r : FoW z.r
end Go.Proofs.Ytnmddmmmgdfknaa

namespace Go.Proofs.Ytnmddmmmgdfknaa
open Go.RowKit
set_option linter.unusedVariables false
structure SmallF (x : Pl.Fo) : Prop where
  k0 : -1 ≤ x.k
  k1 : x.k ≤ 65536
  z0 : -1 ≤ x.z
  z1 : x.z ≤ 65536
  a0 : -1 ≤ x.a
  a1 : x.a ≤ 65536
  b0 : -1 ≤ x.b
  b1 : x.b ≤ 65536
theorem wentD {w W : World} {b : Nat} {a : Option Addr} {len cap : Nat} {p k : Int} (h : Went w W b a len cap p k) : Went w W.drew b a len cap p k := by
  obtain ⟨g, q, q0, q1, c⟩ := h
  exact ⟨grownBy_drew g, q, q0, q1, c.drew⟩
theorem Went.over {w W W' : World} {b : Nat} {a : Option Addr} {len cap : Nat} {p k p' : Int} {row : Option Nat} (h : Went w W b a len cap p k) (h0 : Cur w b a len cap p') (hg : W.grownBy W' row) (hr : ∀ g, row = some g → w.heap.size ≤ g) : Went w W' b a len cap p k := by
  obtain ⟨h1, q, h2, h3, h4⟩ := h
  have hb := h0.lt
  refine ⟨⟨hg.os.trans h1.os, hg.tape.trans h1.tape, hg.output.trans h1.output, Nat.le_trans h1.size hg.size, fun j hj hn => (hg.block j (Nat.lt_of_lt_of_le hj h1.size) (fun e => by have := hr j e.symm; omega)).trans (h1.block j hj hn)⟩, q, h2, h3, ?_⟩
  refine h4.kept2 hg (fun e => by have := hr b e.symm; omega) ?_
  intro g0 off hl e e2
  obtain ⟨g1, o1, z, ea, _, hc, _⟩ := h0.row 0 hl
  rw [e] at ea
  cases ea
  have := World.block_lt_of_cell? _ _ hc
  have := hr g0 e2.symm
  simp at *
  omega
section
variable {w W : World} {b : Nat} {a : Option Addr} {len cap : Nat} {p k : Int}
theorem fitW (h : Went w W b a len cap p k) (p0 : 0 ≤ p) (p1 : p + k ≤ 700000) (s : Int) :
    Calls Try.prog 51 #[.pointer (some ⟨b, 0, none⟩), .int .i64 s] W fun e w' => ∃ r : Int, e = .returned (.int .i64 r) ∧ -1 ≤ r ∧ r ≤ 65536 ∧ Went w w' b a len cap p (k + 10) ∧ W.grownBy w' (some b) := by
  obtain ⟨h1, q, h2, h3, h4⟩ := h
  refine (fit W b a len cap q s h4 (by omega) (by omega)).mono ?_
  rintro e w' ⟨r, he, r0, r1, hw⟩
  exact ⟨r, he, r0, r1, Went.step h1 h2 h3 hw, hw.1⟩
end
theorem and255' (r : Int) : bits .and .i64 r 255 = r % 256 := Pl.and255 r
theorem and65535' (r : Int) : bits .and .i64 r 65535 = r % 65536 := Pl.and65535 r
set_option maxRecDepth 100000 in
set_option maxHeartbeats 16000000 in
theorem fkDraw (w : World) (b : Nat) (a : Option Addr) (len cap : Nat) (p : Int) (h : Cur w b a len cap p) (p0 : 0 ≤ p) (p1 : p ≤ 600000) :
    Calls Try.prog 138 #[.pointer (some ⟨b, 0, none⟩)] w fun e' w' => ∃ X : Pl.Fo, e' = .returned (.agg (foA X)) ∧ SmallF X ∧ Went w w' b a len cap p 100 := by
  have hlt := h.lt
  have HC := hide h
  have T0 := hide ((Went.refl h).allocW (.cells #[iv 0, iv 0, iv 0, iv 0] 47))
  have R0 := hide (Blk.new w #[iv 0, iv 0, iv 0, iv 0] 47)
  clear h
  go_enter Try.func138, Try.ntmps138
  go_wp2_with fail
  refine (pickW T0.out p0 (by omega) 5 (by omega) (by omega)).mono ?_
  rintro e9 w1 ⟨k, rfl, k0, k1, t9, g9⟩
  have T1 := hide t9
  have R1 := hide (R0.out.by2 g9 (by simp; omega))
  have sz1 := g9.size
  clear t9 g9 T0 R0
  simp only [World.size_alloc] at sz1
  go_wp2_with fail
  refine (pickW T1.out p0 (by omega) 2 (by omega) (by omega)).mono ?_
  rintro e9 w2 ⟨s, rfl, s0, s1, t9, g9⟩
  have T2 := hide t9
  have R2 := hide (R1.out.by2 g9 (by simp; omega))
  have sz2 := g9.size
  clear t9 g9 T1 R1
  rcases (show s = 0 ∨ s = 1 by omega) with rfl | rfl
  · obtain ⟨K, hK⟩ : ∃ K : Int, K = 1 + k := ⟨_, rfl⟩
    obtain ⟨K0, K1⟩ : 1 ≤ K ∧ K ≤ 5 := by omega
    obtain ⟨G, hG⟩ : ∃ G : Nat, G = w2.heap.size := ⟨_, rfl⟩
    have g0 : w.heap.size + 1 ≤ G := by omega
    have T := hide (T2.out.allocW (.cells #[iv K, iv 1, iv 0, iv 0] 47))
    have R := hide (R2.out.alloc (.cells #[iv K, iv 1, iv 0, iv 0] 47))
    have BG : Hid (Blk (w2.alloc (.cells #[iv K, iv 1, iv 0, iv 0] 47)) G #[iv K, iv 1, iv 0, iv 0] 47) := hide (by rw [hG]; exact Blk.new w2 _ _)
    obtain ⟨V, hV⟩ : ∃ X : World, w2.alloc (.cells #[iv K, iv 1, iv 0, iv 0] 47) = X := ⟨_, rfl⟩
    rw [hV] at T R BG
    rw [hK] at hV
    have HV := hide hV
    have HG := hide hG
    clear T2 R2 sz1 sz2 hV hG
    go_wp2_with fail
    rw [← HG.out, HV.out]
    clear HV HG
    have TD := hide (wentD T.out)
    have RD : Hid (Blk V.drew w.heap.size #[iv 0, iv 0, iv 0, iv 0] 47) := hide R.out
    have BD : Hid (Blk V.drew G #[iv (K), iv 1, iv (0), iv (0)] 47) := hide BG.out
    have yd : V.drew.cell? ⟨G, 1, none⟩ = some (iv 1) := BD.out.cell (i := 1) rfl
    have yv : V.cell? ⟨G, 1, none⟩ = some (iv 1) := BG.out.cell (i := 1) rfl
    have hem := and255'
    go_region_held3 (fun w' => w'.cell? ⟨G, 1, none⟩ = some (iv 1)) (first | with_reducible exact ya | with_reducible exact yd | with_reducible exact yv | (show World.cell? _ _ = _; rw [World.cell?_setCell_other _ _ _ _ (by simp)]; exact ya) | go_keep) (first | (go_at_call 51; refine (fitW TD.out p0 (by omega) 1).mono ?_; rintro e9 v1 ⟨r, rfl, r0, r1, t9, g9⟩; have U1 := hide t9; have M1 := hide (RD.out.by2 g9 (by simp; omega)); have N1 : Hid (Blk v1 G #[iv (K), iv 1, iv (0), iv (0)] 47) := hide (BD.out.by2 g9 (by simp; omega)); have ya : v1.cell? ⟨G, 1, none⟩ = some (iv 1) := N1.out.cell (i := 1) rfl; have yz := N1.out.all; have yf := N1.out.fz; clear t9 g9) | (go_at_call 109; refine st (l1Top1 _) ?_))
    simp only [show (IntKind.i64.wrap 255) = 255 from by decide, hem]
    obtain ⟨A, hA⟩ : ∃ x : Int, x = r % 256 := ⟨_, rfl⟩
    obtain ⟨A0, A1⟩ : 0 ≤ A ∧ A ≤ 65535 := by omega
    rw [← hA]
    clear hA
    have T2 := hide (U1.out.setNew HC.out G 2 (iv A) (by omega))
    have R2 := hide (M1.out.other G 2 (iv A) (by omega))
    have B2 : Hid (Blk (v1.setCell ⟨G, 2, none⟩ (iv A)) G #[iv (K), iv 1, iv (A), iv (0)] 47) := hide (N1.out.set 2 (iv A))
    clear TD RD BD yd yv ya yz yf U1 M1 N1 T R BG r0 r1 hem
    obtain ⟨V1, hJ⟩ : ∃ X : World, X = v1.setCell ⟨G, 2, none⟩ (iv A) := ⟨_, rfl⟩
    rw [← hJ] at T2 R2 B2 ⊢
    clear hJ
    have T := T2
    have R := R2
    have BG := B2
    clear T2 R2 B2
    by_cases hk3 : K ≤ 3
    · have y := BG.out.all
      have yf := BG.out.fz
      go_wp2_with fail
      clear y yf
      obtain ⟨V, hV⟩ : ∃ X : World, X = V1 := ⟨_, rfl⟩
      rw [← hV] at T R BG ⊢
      clear hV
      have TD := hide (wentD T.out)
      have RD : Hid (Blk V.drew w.heap.size #[iv 0, iv 0, iv 0, iv 0] 47) := hide R.out
      have BD : Hid (Blk V.drew G #[iv (K), iv 1, iv (A), iv (0)] 47) := hide BG.out
      have yd : V.drew.cell? ⟨G, 1, none⟩ = some (iv 1) := BD.out.cell (i := 1) rfl
      have yv : V.cell? ⟨G, 1, none⟩ = some (iv 1) := BG.out.cell (i := 1) rfl
      have hem := and255'
      go_region_held3 (fun w' => w'.cell? ⟨G, 1, none⟩ = some (iv 1)) (first | with_reducible exact ya | with_reducible exact yd | with_reducible exact yv | (show World.cell? _ _ = _; rw [World.cell?_setCell_other _ _ _ _ (by simp)]; exact ya) | go_keep) (first | (go_at_call 51; refine (fitW TD.out p0 (by omega) 1).mono ?_; rintro e9 v1 ⟨r, rfl, r0, r1, t9, g9⟩; have U1 := hide t9; have M1 := hide (RD.out.by2 g9 (by simp; omega)); have N1 : Hid (Blk v1 G #[iv (K), iv 1, iv (A), iv (0)] 47) := hide (BD.out.by2 g9 (by simp; omega)); have ya : v1.cell? ⟨G, 1, none⟩ = some (iv 1) := N1.out.cell (i := 1) rfl; have yz := N1.out.all; have yf := N1.out.fz; clear t9 g9) | (go_at_call 109; refine st (l1Top1 _) ?_))
      simp only [show (IntKind.i64.wrap 255) = 255 from by decide, hem]
      obtain ⟨B, hB⟩ : ∃ x : Int, x = r % 256 := ⟨_, rfl⟩
      obtain ⟨B0, B1⟩ : 0 ≤ B ∧ B ≤ 65535 := by omega
      rw [← hB]
      clear hB
      have T2 := hide (U1.out.setNew HC.out G 3 (iv B) (by omega))
      have R2 := hide (M1.out.other G 3 (iv B) (by omega))
      have B2 : Hid (Blk (v1.setCell ⟨G, 3, none⟩ (iv B)) G #[iv (K), iv 1, iv (A), iv (B)] 47) := hide (N1.out.set 3 (iv B))
      clear TD RD BD yd yv ya yz yf U1 M1 N1 T R BG r0 r1 hem
      obtain ⟨V2, hJ⟩ : ∃ X : World, X = v1.setCell ⟨G, 3, none⟩ (iv B) := ⟨_, rfl⟩
      rw [← hJ] at T2 R2 B2 ⊢
      clear hJ
      have T := T2
      have R := R2
      have BG := B2
      clear T2 R2 B2
      have y := BG.out.all
      have yf := BG.out.fz
      go_wp2_with fail
      clear y yf
      refine (oneW T.out p0 (by omega) 30 (by omega) (by omega)).mono ?_
      rintro e9 u1 ⟨on, rfl, t9, g9⟩
      have T1 := hide t9
      have R1 := hide (R.out.by2 g9 (by simp; omega))
      have B1 := hide (BG.out.by2 g9 (by simp; omega))
      clear t9 g9 T R BG
      have y := B1.out.all
      have yf := B1.out.fz
      have x := R1.out.all
      have xf := R1.out.fz
      cases on
      · go_wp2_with fail
        refine bodyPost_ret (v := .agg #[iv (K), iv 1, iv (A), iv (B)]) ?_ rfl ⟨⟨K, 1, A, B⟩, rfl, ⟨by dsimp only; omega, by dsimp only; omega, by dsimp only; omega, by dsimp only; omega, by dsimp only; omega, by dsimp only; omega, by dsimp only; omega, by dsimp only; omega⟩, ?_⟩
        · rw [results_one rfl]; go_simp
        · exact ((((T1.out.setNew HC.out _ _ _ (by omega)).setNew HC.out _ _ _ (by omega)).setNew HC.out _ _ _ (by omega)).setNew HC.out _ _ _ (by omega)).more (by omega)
      · go_wp2_with fail
        clear y yf x xf
        refine (pickW T1.out p0 (by omega) 7 (by omega) (by omega)).mono ?_
        rintro e9 u2 ⟨kk, rfl, kk0, kk1, t9, g9⟩
        have S0 := hide t9
        have Q0 := hide (R1.out.by2 g9 (by simp; omega))
        have D0 := hide (B1.out.by2 g9 (by simp; omega))
        clear t9 g9 T1 R1 B1
        go_wp2_with fail
        refine (pickW S0.out p0 (by omega) 4 (by omega) (by omega)).mono ?_
        rintro e9 u3 ⟨zz, rfl, zz0, zz1, t9, g9⟩
        have S1 := hide t9
        have Q1 := hide (Q0.out.by2 g9 (by simp; omega))
        have D1 := hide (D0.out.by2 g9 (by simp; omega))
        clear t9 g9 S0 Q0 D0
        go_wp2_with fail
        refine (valueW S1.out p0 (by omega)).mono ?_
        rintro e9 u4 ⟨aa, rfl, aa0, aa1, t9, g9⟩
        have S2 := hide t9
        have Q2 := hide (Q1.out.by2 g9 (by simp; omega))
        have D2 := hide (D1.out.by2 g9 (by simp; omega))
        clear t9 g9 S1 Q1 D1
        go_wp2_with fail
        refine (pickW S2.out p0 (by omega) 3 (by omega) (by omega)).mono ?_
        rintro e9 u5 ⟨bb, rfl, bb0, bb1, t9, g9⟩
        have S3 := hide t9
        have Q3 := hide (Q2.out.by2 g9 (by simp; omega))
        have D3 := hide (D2.out.by2 g9 (by simp; omega))
        clear t9 g9 S2 Q2 D2
        have y := D3.out.all
        have yf := D3.out.fz
        have x := Q3.out.all
        have xf := Q3.out.fz
        go_wp2_with fail
        refine bodyPost_ret (v := .agg #[iv kk, iv zz, iv aa, iv bb]) ?_ rfl ⟨⟨kk, zz, aa, bb⟩, rfl, ⟨by dsimp only; omega, by dsimp only; omega, by dsimp only; omega, by dsimp only; omega, by dsimp only; omega, by dsimp only; omega, by dsimp only; omega, by dsimp only; omega⟩, ?_⟩
        · rw [results_one rfl]; go_simp
        · exact ((((((((S3.out.setNew HC.out _ _ _ (by omega)).setNew HC.out _ _ _ (by omega)).setNew HC.out _ _ _ (by omega)).setNew HC.out _ _ _ (by omega)).setNew HC.out _ _ _ (by omega)).setNew HC.out _ _ _ (by omega)).setNew HC.out _ _ _ (by omega)).setNew HC.out _ _ _ (by omega)).more (by omega)
    · have y := BG.out.all
      have yf := BG.out.fz
      go_wp2_with fail
      clear y yf
      refine (oneW T.out p0 (by omega) 30 (by omega) (by omega)).mono ?_
      rintro e9 u1 ⟨on, rfl, t9, g9⟩
      have T1 := hide t9
      have R1 := hide (R.out.by2 g9 (by simp; omega))
      have B1 := hide (BG.out.by2 g9 (by simp; omega))
      clear t9 g9 T R BG
      have y := B1.out.all
      have yf := B1.out.fz
      have x := R1.out.all
      have xf := R1.out.fz
      cases on
      · go_wp2_with fail
        refine bodyPost_ret (v := .agg #[iv (K), iv 1, iv (A), iv (0)]) ?_ rfl ⟨⟨K, 1, A, 0⟩, rfl, ⟨by dsimp only; omega, by dsimp only; omega, by dsimp only; omega, by dsimp only; omega, by dsimp only; omega, by dsimp only; omega, by dsimp only; omega, by dsimp only; omega⟩, ?_⟩
        · rw [results_one rfl]; go_simp
        · exact ((((T1.out.setNew HC.out _ _ _ (by omega)).setNew HC.out _ _ _ (by omega)).setNew HC.out _ _ _ (by omega)).setNew HC.out _ _ _ (by omega)).more (by omega)
      · go_wp2_with fail
        clear y yf x xf
        refine (pickW T1.out p0 (by omega) 7 (by omega) (by omega)).mono ?_
        rintro e9 u2 ⟨kk, rfl, kk0, kk1, t9, g9⟩
        have S0 := hide t9
        have Q0 := hide (R1.out.by2 g9 (by simp; omega))
        have D0 := hide (B1.out.by2 g9 (by simp; omega))
        clear t9 g9 T1 R1 B1
        go_wp2_with fail
        refine (pickW S0.out p0 (by omega) 4 (by omega) (by omega)).mono ?_
        rintro e9 u3 ⟨zz, rfl, zz0, zz1, t9, g9⟩
        have S1 := hide t9
        have Q1 := hide (Q0.out.by2 g9 (by simp; omega))
        have D1 := hide (D0.out.by2 g9 (by simp; omega))
        clear t9 g9 S0 Q0 D0
        go_wp2_with fail
        refine (valueW S1.out p0 (by omega)).mono ?_
        rintro e9 u4 ⟨aa, rfl, aa0, aa1, t9, g9⟩
        have S2 := hide t9
        have Q2 := hide (Q1.out.by2 g9 (by simp; omega))
        have D2 := hide (D1.out.by2 g9 (by simp; omega))
        clear t9 g9 S1 Q1 D1
        go_wp2_with fail
        refine (pickW S2.out p0 (by omega) 3 (by omega) (by omega)).mono ?_
        rintro e9 u5 ⟨bb, rfl, bb0, bb1, t9, g9⟩
        have S3 := hide t9
        have Q3 := hide (Q2.out.by2 g9 (by simp; omega))
        have D3 := hide (D2.out.by2 g9 (by simp; omega))
        clear t9 g9 S2 Q2 D2
        have y := D3.out.all
        have yf := D3.out.fz
        have x := Q3.out.all
        have xf := Q3.out.fz
        go_wp2_with fail
        refine bodyPost_ret (v := .agg #[iv kk, iv zz, iv aa, iv bb]) ?_ rfl ⟨⟨kk, zz, aa, bb⟩, rfl, ⟨by dsimp only; omega, by dsimp only; omega, by dsimp only; omega, by dsimp only; omega, by dsimp only; omega, by dsimp only; omega, by dsimp only; omega, by dsimp only; omega⟩, ?_⟩
        · rw [results_one rfl]; go_simp
        · exact ((((((((S3.out.setNew HC.out _ _ _ (by omega)).setNew HC.out _ _ _ (by omega)).setNew HC.out _ _ _ (by omega)).setNew HC.out _ _ _ (by omega)).setNew HC.out _ _ _ (by omega)).setNew HC.out _ _ _ (by omega)).setNew HC.out _ _ _ (by omega)).setNew HC.out _ _ _ (by omega)).more (by omega)
  · obtain ⟨K, hK⟩ : ∃ K : Int, K = 1 + k := ⟨_, rfl⟩
    obtain ⟨K0, K1⟩ : 1 ≤ K ∧ K ≤ 5 := by omega
    obtain ⟨G, hG⟩ : ∃ G : Nat, G = w2.heap.size := ⟨_, rfl⟩
    have g0 : w.heap.size + 1 ≤ G := by omega
    have T := hide (T2.out.allocW (.cells #[iv K, iv 2, iv 0, iv 0] 47))
    have R := hide (R2.out.alloc (.cells #[iv K, iv 2, iv 0, iv 0] 47))
    have BG : Hid (Blk (w2.alloc (.cells #[iv K, iv 2, iv 0, iv 0] 47)) G #[iv K, iv 2, iv 0, iv 0] 47) := hide (by rw [hG]; exact Blk.new w2 _ _)
    obtain ⟨V, hV⟩ : ∃ X : World, w2.alloc (.cells #[iv K, iv 2, iv 0, iv 0] 47) = X := ⟨_, rfl⟩
    rw [hV] at T R BG
    rw [hK] at hV
    have HV := hide hV
    have HG := hide hG
    clear T2 R2 sz1 sz2 hV hG
    go_wp2_with fail
    rw [← HG.out, HV.out]
    clear HV HG
    have TD := hide (wentD T.out)
    have RD : Hid (Blk V.drew w.heap.size #[iv 0, iv 0, iv 0, iv 0] 47) := hide R.out
    have BD : Hid (Blk V.drew G #[iv (K), iv 2, iv (0), iv (0)] 47) := hide BG.out
    have yd : V.drew.cell? ⟨G, 1, none⟩ = some (iv 2) := BD.out.cell (i := 1) rfl
    have yv : V.cell? ⟨G, 1, none⟩ = some (iv 2) := BG.out.cell (i := 1) rfl
    have hem := and65535'
    go_region_held3 (fun w' => w'.cell? ⟨G, 1, none⟩ = some (iv 2)) (first | with_reducible exact ya | with_reducible exact yd | with_reducible exact yv | (show World.cell? _ _ = _; rw [World.cell?_setCell_other _ _ _ _ (by simp)]; exact ya) | go_keep) (first | (go_at_call 51; refine (fitW TD.out p0 (by omega) 2).mono ?_; rintro e9 v1 ⟨r, rfl, r0, r1, t9, g9⟩; have U1 := hide t9; have M1 := hide (RD.out.by2 g9 (by simp; omega)); have N1 : Hid (Blk v1 G #[iv (K), iv 2, iv (0), iv (0)] 47) := hide (BD.out.by2 g9 (by simp; omega)); have ya : v1.cell? ⟨G, 1, none⟩ = some (iv 2) := N1.out.cell (i := 1) rfl; have yz := N1.out.all; have yf := N1.out.fz; clear t9 g9) | (go_at_call 109; refine st (l1Top2 _) ?_))
    simp only [show (IntKind.i64.wrap 65535) = 65535 from by decide, hem]
    obtain ⟨A, hA⟩ : ∃ x : Int, x = r % 65536 := ⟨_, rfl⟩
    obtain ⟨A0, A1⟩ : 0 ≤ A ∧ A ≤ 65535 := by omega
    rw [← hA]
    clear hA
    have T2 := hide (U1.out.setNew HC.out G 2 (iv A) (by omega))
    have R2 := hide (M1.out.other G 2 (iv A) (by omega))
    have B2 : Hid (Blk (v1.setCell ⟨G, 2, none⟩ (iv A)) G #[iv (K), iv 2, iv (A), iv (0)] 47) := hide (N1.out.set 2 (iv A))
    clear TD RD BD yd yv ya yz yf U1 M1 N1 T R BG r0 r1 hem
    obtain ⟨V1, hJ⟩ : ∃ X : World, X = v1.setCell ⟨G, 2, none⟩ (iv A) := ⟨_, rfl⟩
    rw [← hJ] at T2 R2 B2 ⊢
    clear hJ
    have T := T2
    have R := R2
    have BG := B2
    clear T2 R2 B2
    by_cases hk3 : K ≤ 3
    · have y := BG.out.all
      have yf := BG.out.fz
      go_wp2_with fail
      clear y yf
      obtain ⟨V, hV⟩ : ∃ X : World, X = V1 := ⟨_, rfl⟩
      rw [← hV] at T R BG ⊢
      clear hV
      have TD := hide (wentD T.out)
      have RD : Hid (Blk V.drew w.heap.size #[iv 0, iv 0, iv 0, iv 0] 47) := hide R.out
      have BD : Hid (Blk V.drew G #[iv (K), iv 2, iv (A), iv (0)] 47) := hide BG.out
      have yd : V.drew.cell? ⟨G, 1, none⟩ = some (iv 2) := BD.out.cell (i := 1) rfl
      have yv : V.cell? ⟨G, 1, none⟩ = some (iv 2) := BG.out.cell (i := 1) rfl
      have hem := and65535'
      go_region_held3 (fun w' => w'.cell? ⟨G, 1, none⟩ = some (iv 2)) (first | with_reducible exact ya | with_reducible exact yd | with_reducible exact yv | (show World.cell? _ _ = _; rw [World.cell?_setCell_other _ _ _ _ (by simp)]; exact ya) | go_keep) (first | (go_at_call 51; refine (fitW TD.out p0 (by omega) 2).mono ?_; rintro e9 v1 ⟨r, rfl, r0, r1, t9, g9⟩; have U1 := hide t9; have M1 := hide (RD.out.by2 g9 (by simp; omega)); have N1 : Hid (Blk v1 G #[iv (K), iv 2, iv (A), iv (0)] 47) := hide (BD.out.by2 g9 (by simp; omega)); have ya : v1.cell? ⟨G, 1, none⟩ = some (iv 2) := N1.out.cell (i := 1) rfl; have yz := N1.out.all; have yf := N1.out.fz; clear t9 g9) | (go_at_call 109; refine st (l1Top2 _) ?_))
      simp only [show (IntKind.i64.wrap 65535) = 65535 from by decide, hem]
      obtain ⟨B, hB⟩ : ∃ x : Int, x = r % 65536 := ⟨_, rfl⟩
      obtain ⟨B0, B1⟩ : 0 ≤ B ∧ B ≤ 65535 := by omega
      rw [← hB]
      clear hB
      have T2 := hide (U1.out.setNew HC.out G 3 (iv B) (by omega))
      have R2 := hide (M1.out.other G 3 (iv B) (by omega))
      have B2 : Hid (Blk (v1.setCell ⟨G, 3, none⟩ (iv B)) G #[iv (K), iv 2, iv (A), iv (B)] 47) := hide (N1.out.set 3 (iv B))
      clear TD RD BD yd yv ya yz yf U1 M1 N1 T R BG r0 r1 hem
      obtain ⟨V2, hJ⟩ : ∃ X : World, X = v1.setCell ⟨G, 3, none⟩ (iv B) := ⟨_, rfl⟩
      rw [← hJ] at T2 R2 B2 ⊢
      clear hJ
      have T := T2
      have R := R2
      have BG := B2
      clear T2 R2 B2
      have y := BG.out.all
      have yf := BG.out.fz
      go_wp2_with fail
      clear y yf
      refine (oneW T.out p0 (by omega) 30 (by omega) (by omega)).mono ?_
      rintro e9 u1 ⟨on, rfl, t9, g9⟩
      have T1 := hide t9
      have R1 := hide (R.out.by2 g9 (by simp; omega))
      have B1 := hide (BG.out.by2 g9 (by simp; omega))
      clear t9 g9 T R BG
      have y := B1.out.all
      have yf := B1.out.fz
      have x := R1.out.all
      have xf := R1.out.fz
      cases on
      · go_wp2_with fail
        refine bodyPost_ret (v := .agg #[iv (K), iv 2, iv (A), iv (B)]) ?_ rfl ⟨⟨K, 2, A, B⟩, rfl, ⟨by dsimp only; omega, by dsimp only; omega, by dsimp only; omega, by dsimp only; omega, by dsimp only; omega, by dsimp only; omega, by dsimp only; omega, by dsimp only; omega⟩, ?_⟩
        · rw [results_one rfl]; go_simp
        · exact ((((T1.out.setNew HC.out _ _ _ (by omega)).setNew HC.out _ _ _ (by omega)).setNew HC.out _ _ _ (by omega)).setNew HC.out _ _ _ (by omega)).more (by omega)
      · go_wp2_with fail
        clear y yf x xf
        refine (pickW T1.out p0 (by omega) 7 (by omega) (by omega)).mono ?_
        rintro e9 u2 ⟨kk, rfl, kk0, kk1, t9, g9⟩
        have S0 := hide t9
        have Q0 := hide (R1.out.by2 g9 (by simp; omega))
        have D0 := hide (B1.out.by2 g9 (by simp; omega))
        clear t9 g9 T1 R1 B1
        go_wp2_with fail
        refine (pickW S0.out p0 (by omega) 4 (by omega) (by omega)).mono ?_
        rintro e9 u3 ⟨zz, rfl, zz0, zz1, t9, g9⟩
        have S1 := hide t9
        have Q1 := hide (Q0.out.by2 g9 (by simp; omega))
        have D1 := hide (D0.out.by2 g9 (by simp; omega))
        clear t9 g9 S0 Q0 D0
        go_wp2_with fail
        refine (valueW S1.out p0 (by omega)).mono ?_
        rintro e9 u4 ⟨aa, rfl, aa0, aa1, t9, g9⟩
        have S2 := hide t9
        have Q2 := hide (Q1.out.by2 g9 (by simp; omega))
        have D2 := hide (D1.out.by2 g9 (by simp; omega))
        clear t9 g9 S1 Q1 D1
        go_wp2_with fail
        refine (pickW S2.out p0 (by omega) 3 (by omega) (by omega)).mono ?_
        rintro e9 u5 ⟨bb, rfl, bb0, bb1, t9, g9⟩
        have S3 := hide t9
        have Q3 := hide (Q2.out.by2 g9 (by simp; omega))
        have D3 := hide (D2.out.by2 g9 (by simp; omega))
        clear t9 g9 S2 Q2 D2
        have y := D3.out.all
        have yf := D3.out.fz
        have x := Q3.out.all
        have xf := Q3.out.fz
        go_wp2_with fail
        refine bodyPost_ret (v := .agg #[iv kk, iv zz, iv aa, iv bb]) ?_ rfl ⟨⟨kk, zz, aa, bb⟩, rfl, ⟨by dsimp only; omega, by dsimp only; omega, by dsimp only; omega, by dsimp only; omega, by dsimp only; omega, by dsimp only; omega, by dsimp only; omega, by dsimp only; omega⟩, ?_⟩
        · rw [results_one rfl]; go_simp
        · exact ((((((((S3.out.setNew HC.out _ _ _ (by omega)).setNew HC.out _ _ _ (by omega)).setNew HC.out _ _ _ (by omega)).setNew HC.out _ _ _ (by omega)).setNew HC.out _ _ _ (by omega)).setNew HC.out _ _ _ (by omega)).setNew HC.out _ _ _ (by omega)).setNew HC.out _ _ _ (by omega)).more (by omega)
    · have y := BG.out.all
      have yf := BG.out.fz
      go_wp2_with fail
      clear y yf
      refine (oneW T.out p0 (by omega) 30 (by omega) (by omega)).mono ?_
      rintro e9 u1 ⟨on, rfl, t9, g9⟩
      have T1 := hide t9
      have R1 := hide (R.out.by2 g9 (by simp; omega))
      have B1 := hide (BG.out.by2 g9 (by simp; omega))
      clear t9 g9 T R BG
      have y := B1.out.all
      have yf := B1.out.fz
      have x := R1.out.all
      have xf := R1.out.fz
      cases on
      · go_wp2_with fail
        refine bodyPost_ret (v := .agg #[iv (K), iv 2, iv (A), iv (0)]) ?_ rfl ⟨⟨K, 2, A, 0⟩, rfl, ⟨by dsimp only; omega, by dsimp only; omega, by dsimp only; omega, by dsimp only; omega, by dsimp only; omega, by dsimp only; omega, by dsimp only; omega, by dsimp only; omega⟩, ?_⟩
        · rw [results_one rfl]; go_simp
        · exact ((((T1.out.setNew HC.out _ _ _ (by omega)).setNew HC.out _ _ _ (by omega)).setNew HC.out _ _ _ (by omega)).setNew HC.out _ _ _ (by omega)).more (by omega)
      · go_wp2_with fail
        clear y yf x xf
        refine (pickW T1.out p0 (by omega) 7 (by omega) (by omega)).mono ?_
        rintro e9 u2 ⟨kk, rfl, kk0, kk1, t9, g9⟩
        have S0 := hide t9
        have Q0 := hide (R1.out.by2 g9 (by simp; omega))
        have D0 := hide (B1.out.by2 g9 (by simp; omega))
        clear t9 g9 T1 R1 B1
        go_wp2_with fail
        refine (pickW S0.out p0 (by omega) 4 (by omega) (by omega)).mono ?_
        rintro e9 u3 ⟨zz, rfl, zz0, zz1, t9, g9⟩
        have S1 := hide t9
        have Q1 := hide (Q0.out.by2 g9 (by simp; omega))
        have D1 := hide (D0.out.by2 g9 (by simp; omega))
        clear t9 g9 S0 Q0 D0
        go_wp2_with fail
        refine (valueW S1.out p0 (by omega)).mono ?_
        rintro e9 u4 ⟨aa, rfl, aa0, aa1, t9, g9⟩
        have S2 := hide t9
        have Q2 := hide (Q1.out.by2 g9 (by simp; omega))
        have D2 := hide (D1.out.by2 g9 (by simp; omega))
        clear t9 g9 S1 Q1 D1
        go_wp2_with fail
        refine (pickW S2.out p0 (by omega) 3 (by omega) (by omega)).mono ?_
        rintro e9 u5 ⟨bb, rfl, bb0, bb1, t9, g9⟩
        have S3 := hide t9
        have Q3 := hide (Q2.out.by2 g9 (by simp; omega))
        have D3 := hide (D2.out.by2 g9 (by simp; omega))
        clear t9 g9 S2 Q2 D2
        have y := D3.out.all
        have yf := D3.out.fz
        have x := Q3.out.all
        have xf := Q3.out.fz
        go_wp2_with fail
        refine bodyPost_ret (v := .agg #[iv kk, iv zz, iv aa, iv bb]) ?_ rfl ⟨⟨kk, zz, aa, bb⟩, rfl, ⟨by dsimp only; omega, by dsimp only; omega, by dsimp only; omega, by dsimp only; omega, by dsimp only; omega, by dsimp only; omega, by dsimp only; omega, by dsimp only; omega⟩, ?_⟩
        · rw [results_one rfl]; go_simp
        · exact ((((((((S3.out.setNew HC.out _ _ _ (by omega)).setNew HC.out _ _ _ (by omega)).setNew HC.out _ _ _ (by omega)).setNew HC.out _ _ _ (by omega)).setNew HC.out _ _ _ (by omega)).setNew HC.out _ _ _ (by omega)).setNew HC.out _ _ _ (by omega)).setNew HC.out _ _ _ (by omega)).more (by omega)
end Go.Proofs.Ytnmddmmmgdfknaa

namespace Go.Proofs.Ytnmddmmmgdfknaa
open Go.RowKit
set_option linter.unusedVariables false
def Pl.flatF (l : List Pl.Fo) : List Int := l.flatMap fun x => [x.k, x.z, x.a, x.b]
theorem Pl.flatF_snoc (l : List Pl.Fo) (x : Pl.Fo) : Pl.flatF (l ++ [x]) = Pl.flatF l ++ [x.k, x.z, x.a, x.b] := by simp [Pl.flatF]
theorem Pl.flatF_len (l : List Pl.Fo) : (Pl.flatF l).length = 4 * l.length := by
  induction l with
  | nil => rfl
  | cons x t ih => simp only [Pl.flatF, List.flatMap_cons, List.length_append, List.length_cons, List.length_nil] at ih ⊢; omega
theorem small_flat {l : List Pl.Fo} (h : ∀ x ∈ l, SmallF x) : ∀ y ∈ Pl.flatF l, -1 ≤ y ∧ y ≤ 65536 := by
  intro y hy
  simp only [Pl.flatF, List.mem_flatMap] at hy
  obtain ⟨x, hx, hy⟩ := hy
  have s := h x hx
  simp at hy
  rcases hy with rfl | rfl | rfl | rfl
  · exact ⟨s.k0, s.k1⟩
  · exact ⟨s.z0, s.z1⟩
  · exact ⟨s.a0, s.a1⟩
  · exact ⟨s.b0, s.b1⟩
theorem small_snoc {O : List Pl.Fo} {X : Pl.Fo} (h : ∀ x ∈ O, SmallF x) (sx : SmallF X) : ∀ x ∈ O ++ [X], SmallF x := by
  intro x hx
  rw [List.mem_append] at hx
  rcases hx with hx | hx
  · exact h x hx
  · simp at hx; rw [hx]; exact sx
theorem fkW {w W : World} {b : Nat} {a : Option Addr} {len cap : Nat} {p k : Int} (h : Went w W b a len cap p k) (p0 : 0 ≤ p) (p1 : p + k ≤ 600000) :
    Calls Try.prog 138 #[.pointer (some ⟨b, 0, none⟩)] W fun e' w' => ∃ X : Pl.Fo, e' = .returned (.agg (foA X)) ∧ SmallF X ∧ Went w w' b a len cap p (k + 100) ∧ W.grownBy w' (some b) := by
  obtain ⟨h1, q, h2, h3, h4⟩ := h
  refine (fkDraw W b a len cap q h4 (by omega) (by omega)).mono ?_
  rintro e' w' ⟨X, he, hs, hw⟩
  exact ⟨X, he, hs, Went.step h1 h2 h3 hw, hw.1⟩
theorem slotIn_row4 {w : World} {base n : Nat} {v : Value} {xs : List Int} (h : w.ownsRow base 47 4 v n (xs.map (Value.int .i64))) : ∃ (b : Option Addr) (cb : Nat), v = .slice b n cb ∧ SlotIn w base w.heap.size b xs := by
  have h9 := h
  rcases h with ⟨hl, ⟨rfl, e⟩ | ⟨g, cap, cur, e, hb, hgg, hn, _, hsz, ht⟩⟩
  · subst e
    exact ⟨none, 0, rfl, .inl ⟨rfl, by simpa using hl⟩⟩
  · subst e
    exact ⟨some ⟨g, 0, none⟩, cap, rfl, .inr ⟨g, rfl, (h9.lt g rfl).1, (h9.lt g rfl).2, own_of_row4 h9⟩⟩
set_option maxRecDepth 100000 in
set_option maxHeartbeats 8000000 in
theorem fkList (w : World) (b : Nat) (a : Option Addr) (len cap : Nat) (p : Int) (h : Cur w b a len cap p) (p0 : 0 ≤ p) (p1 : p ≤ 100000) :
    Calls Try.prog 111 #[.pointer (some ⟨b, 0, none⟩)] w fun e' w' => ∃ (d : Option Addr) (c : Nat) (O : List Pl.Fo), e' = .returned (.slice d O.length c) ∧ O.length ≤ 41 ∧ (∀ x ∈ O, SmallF x) ∧ SlotIn w' w.heap.size w'.heap.size d (Pl.flatF O) ∧ Went w w' b a len cap p 5000 := by
  have hlt := h.lt
  have HC := hide h
  obtain ⟨i, hi, hz0, hz1, hz2⟩ := info_parts Try.infoFlagOp
  have T0 := hide (Went.refl h)
  clear h
  go_enter Try.func111, Try.ntmps111
  go_wp2_with fail
  refine (pickW T0.out p0 (by omega) 8 (by omega) (by omega)).mono ?_
  rintro e9 w1 ⟨n1, rfl, n0, n9, t9, g9⟩
  have T1 := hide t9
  clear t9 g9 T0
  go_wp2_with fail
  refine (oneW T1.out p0 (by omega) 20 (by omega) (by omega)).mono ?_
  rintro e9 w2 ⟨on, rfl, t9, g9⟩
  have T2 := hide t9
  clear t9 g9 T1
  go_upto_if 8 with fail
  go_cut [4] (fun n wx => ∃ N : Nat, n = .int .i64 (N : Int) ∧ N ≤ 41 ∧ Went w wx b a len cap p 6)
  case first =>
    as_aux_lemma =>
      cases on
      · go_wp2_with fail
        go_meet
        case rel => exact ⟨n1.toNat, by rw [Int.toNat_of_nonneg n0], by omega, T2.out.more (by omega)⟩
      · go_wp2_with fail
        refine (pickW T2.out p0 (by omega) 2 (by omega) (by omega)).mono ?_
        rintro e9 w3 ⟨q, rfl, q0, q1, t9, g9⟩
        have T3 := hide t9
        clear t9 g9 T2
        go_wp2_with fail
        go_meet
        case rel => exact ⟨(40 + q).toNat, by rw [Int.toNat_of_nonneg (by omega)], by omega, T3.out⟩
  case rest =>
    · skip
      obtain ⟨N, rfl, hN, hT⟩ := hcut
      have T3 := hide hT
      have s3 := hT.1.size
      clear hT T2
      go_wp2_with fail
      go_loopw [3, 4] (fun v j wr => ∃ (k : Nat) (O : List Pl.Fo), j = .int .i64 (k : Int) ∧ k ≤ N ∧ O.length + k = N ∧ (∀ x ∈ O, SmallF x) ∧ wr.ownsRow w.heap.size 47 4 v O.length ((Pl.flatF O).map (Value.int .i64)) ∧ Went w wr b a len cap p (6 + 100 * ((N : Int) - k))) (fun _ j _ => (intOf j).toNat)
      case atStart => exact ⟨N, [], rfl, Nat.le_refl _, by simp, by simp, World.ownsRow_nil _ _ _ _, T3.out.more (by omega)⟩
      case round =>
        obtain ⟨k, O, rfl, hk, hOl, hsm, hown, hwent⟩ := hrel
        have HO := hide hown
        have HT := hide hwent
        have HS := hide hsm
        clear hown hwent hsm
        by_cases hlt : 0 < k
        · go_wp2_with fail
          refine (fkW HT.out p0 (by omega)).mono ?_
          rintro e9 w4 ⟨X, rfl, sx, t9, g9⟩
          have T4 := hide (t9.allocW (.cells #[.int .i64 X.k, .int .i64 X.z, .int .i64 X.a, .int .i64 X.b] 47))
          have O4 := hide ((HO.out.kept g9 (.inr (fun e => by have := HO.out.lt b e; omega))).alloc (.cells #[.int .i64 X.k, .int .i64 X.z, .int .i64 X.a, .int .i64 X.b] 47))
          have BN := hide (Blk.new w4 #[.int .i64 X.k, .int .i64 X.z, .int .i64 X.a, .int .i64 X.b] 47)
          clear t9 g9 HO HT
          go_wp2_with (first | (at_builtin; refine wpList_append_own _ rfl _ _ 43 rfl w.heap.size 47 i (.agg #[.int .i64 0, .int .i64 0, .int .i64 0, .int .i64 0]) 4 32 Try.underlying43 hi hz0 hz1 hz2 rfl (by decide) _ _ _ rfl O4.out ⟨w4.heap.size, 0, none⟩ 1 1 [.int .i64 X.k, .int .i64 X.z, .int .i64 X.a, .int .i64 X.b] rfl rfl ?c1 ?c2 ?c3 ?c4 ?c5 ?_))
          case c1 => exact World.news_of_block (cs := #[.int .i64 X.k, .int .i64 X.z, .int .i64 X.a, .int .i64 X.b]) (t := 47) (fr := (0, 0)) BN.out
          case c2 => intro u hu; simp at hu; rcases hu with rfl | rfl | rfl | rfl <;> rfl
          case c3 => unfold maxLen; omega
          case c4 => omega
          case c5 => have := T4.out.1.size; omega
          intro v' w5 hown' hgr _
          have HO5 := hide hown'
          have T5 := hide (T4.out.over HC.out hgr (fun g hg => (O4.out.lt g hg).1))
          clear hown' hgr T4 O4 BN
          go_wp2_with fail
          go_roundw
          case rel => exact ⟨k - 1, O ++ [X], by go_num, by omega, by simp; omega, small_snoc HS.out sx, (by rw [Pl.flatF_snoc, List.length_append, List.map_append]; exact HO5.out), T5.out.more (by omega)⟩
          case measure => simp [intOf]; omega
        · obtain ⟨d, dc, rfl, hS⟩ := slotIn_row4 HO.out
          obtain rfl : k = 0 := by omega
          have HSl := hide hS
          clear hS HO
          go_wp2_with fail
          go_ret
          exact ⟨d, dc, O, rfl, by omega, HS.out, HSl.out, HT.out.more (by omega)⟩
set_option maxRecDepth 100000 in
theorem drawEager (w : World) (a : Option Addr) (len cap : Nat) (h : Bytes w a len) :
    Calls Try.prog 71 #[.slice a len cap] w fun e w' => ∃ (f : Int) (d : Option Addr) (c : Nat) (O : List Pl.Fo), e = .returned (.tuple #[iv f, .slice d O.length c]) ∧ 0 ≤ f ∧ f ≤ 32 ∧ O.length ≤ 41 ∧ (∀ x ∈ O, SmallF x) ∧ SlotIn w' w.heap.size w'.heap.size d (Pl.flatF O) ∧ Below w.heap.size w w' := by
  have hc := h.cur cap
  have T0 := hide (Went.refl hc)
  have HC := hide hc
  clear hc
  go_enter Try.func71, Try.ntmps71
  go_wp2_with fail
  refine (pickW T0.out (by omega) (by omega) 33 (by omega) (by omega)).mono ?_
  rintro e9 w1 ⟨f, rfl, f0, f1, t9, g9⟩
  obtain ⟨g1, q, q0, q1, c1⟩ := t9
  go_wp2_with fail
  refine (fkList _ _ a len cap q c1 (by omega) (by omega)).mono ?_
  rintro e9 w2 ⟨d, c, O, rfl, hO, hs, hl, hw⟩
  go_wp2_with fail
  go_ret2
  have sz := g1.size
  simp only [World.size_alloc] at sz
  exact ⟨f, d, c, O, rfl, f0, by omega, hO, hs, hl.wide (by omega) (Nat.le_refl _), below_of (grownBy_trans g1 hw.1)⟩
theorem drawLazy (w : World) (a : Option Addr) (len cap : Nat) (h : Bytes w a len) :
    Calls Try.prog 32 #[.slice a len cap] w fun e w' => ∃ (f : Int) (d : Option Addr) (c : Nat) (O : List Pl.Fo), e = .returned (.tuple #[iv f, .slice d O.length c]) ∧ 0 ≤ f ∧ f ≤ 32 ∧ O.length ≤ 41 ∧ (∀ x ∈ O, SmallF x) ∧ SlotIn w' w.heap.size w'.heap.size d (Pl.flatF O) ∧ Below w.heap.size w w' := by
  go_enter Try.func32, Try.ntmps32
  go_wp2_with fail
  refine (drawEager w a len cap h).mono ?_
  rintro e9 w2 ⟨f, d, c, O, rfl, f0, f1, hO, hs, hl, hb⟩
  go_wp2_with fail
  go_ret2
  exact ⟨f, d, c, O, rfl, f0, f1, hO, hs, hl, hb⟩
end Go.Proofs.Ytnmddmmmgdfknaa

namespace Go.Proofs.Ytnmddmmmgdfknaa
open Go.RowKit
set_option linter.unusedVariables false

theorem l1Flag (b : Bool) (f : Int) (w : World) :
    Calls Try.prog 108 #[.bool b, iv f] w fun e w' => e = .returned (iv (Pl.fl b f)) ∧ w' = w := by
  cases b
  all_goals
    go_enter Try.func108, Try.ntmps108
    go_wp2
    go_ret
    exact ⟨rfl, rfl⟩

theorem l1Zn1 (v : Int) (w : World) :
    Calls Try.prog 107 #[iv 1, iv v] w fun e w' => e = .returned (iv (bits .or .i64 (Pl.fl (v == 0) 4) (Pl.fl (decide (128 ≤ v)) 8))) ∧ w' = w := by
  go_enter Try.func107, Try.ntmps107
  go_wp2_with fail
  refine (l1Flag _ _ _).mono ?_
  rintro e w' ⟨rfl, rfl⟩
  go_wp2_with fail
  refine (l1Top1 _).mono ?_
  rintro e w' ⟨rfl, rfl⟩
  go_wp2_with fail
  refine (l1Flag _ _ _).mono ?_
  rintro e w' ⟨rfl, rfl⟩
  go_wp2_with fail
  go_ret
  exact ⟨rfl, rfl⟩

theorem l1Zn2 (v : Int) (w : World) :
    Calls Try.prog 107 #[iv 2, iv v] w fun e w' => e = .returned (iv (bits .or .i64 (Pl.fl (v == 0) 4) (Pl.fl (decide (32768 ≤ v)) 8))) ∧ w' = w := by
  go_enter Try.func107, Try.ntmps107
  go_wp2_with fail
  refine (l1Flag _ _ _).mono ?_
  rintro e w' ⟨rfl, rfl⟩
  go_wp2_with fail
  refine (l1Top2 _).mono ?_
  rintro e w' ⟨rfl, rfl⟩
  go_wp2_with fail
  refine (l1Flag _ _ _).mono ?_
  rintro e w' ⟨rfl, rfl⟩
  go_wp2_with fail
  go_ret
  exact ⟨rfl, rfl⟩

theorem l1Flags (f : Int) (w : World) :
    Calls Try.prog 74 #[iv f] w fun e w' => e = .returned (.bool (Pl.flags f)) ∧ w' = w := by
  go_enter Try.func74, Try.ntmps74
  go_wp2_with fail
  refine (l1In f 0 31 _).mono ?_
  rintro e w' ⟨rfl, rfl⟩
  go_wp2_with fail
  go_ret
  exact ⟨rfl, rfl⟩

end Go.Proofs.Ytnmddmmmgdfknaa

namespace Go.Proofs.Ytnmddmmmgdfknaa
open Go.RowKit
set_option linter.unusedVariables false
set_option linter.unusedSimpArgs false

theorem Pl.and16 {f : Int} (h0 : 0 ≤ f) (h1 : f ≤ 31) : bits .and .i64 f 16 = f / 16 * 16 := by
  obtain ⟨n, rfl⟩ := Int.eq_ofNat_of_zero_le h0
  have hn : n < 32 := by omega
  have : ∀ m : Nat, m < 32 → bits .and .i64 (m : Int) 16 = (m : Int) / 16 * 16 := by decide
  exact this n hn
theorem Pl.or_low {a q : Int} (h0 : 0 ≤ a) (h1 : a < 65536) (h2 : a % 2 = 0) (q0 : 0 ≤ q) (q1 : q ≤ 1) : bits .or .i64 a q = a + q :=
  bits_join .i64 62 (by decide) wraps_i64 1 a q (by omega) (by omega) (by omega) (by omega) (by omega) (by omega)
theorem Pl.or_high1 {a q : Int} (h0 : 0 ≤ a) (h1 : a < 128) (q0 : 0 ≤ q) (q1 : q ≤ 1) : bits .or .i64 a (q * 128) = a + q * 128 := by
  rw [Pl.or_comm, bits_join .i64 62 (by decide) wraps_i64 7 (q * 128) a (by omega) (by omega) (by omega) (by omega) (by omega) (by omega)]; omega
theorem Pl.or_high2 {a q : Int} (h0 : 0 ≤ a) (h1 : a < 32768) (q0 : 0 ≤ q) (q1 : q ≤ 1) : bits .or .i64 a (q * 32768) = a + q * 32768 := by
  rw [Pl.or_comm, bits_join .i64 62 (by decide) wraps_i64 15 (q * 32768) a (by omega) (by omega) (by omega) (by omega) (by omega) (by omega)]; omega
theorem Pl.or_flags {c o x : Int} {z n : Bool} (hc : c = 0 ∨ c = 1) (ho : o = 0 ∨ o = 2) (hx : x = 0 ∨ x = 16) :
    bits .or .i64 (bits .or .i64 (bits .or .i64 c (bits .or .i64 (Pl.fl z 4) (Pl.fl n 8))) o) x = c + o + (Pl.fl z 4 + Pl.fl n 8) + x := by
  rcases hc with rfl | rfl <;> rcases ho with rfl | rfl <;> rcases hx with rfl | rfl <;> cases z <;> cases n <;> decide
theorem Pl.fl_two (b : Bool) : Pl.fl b 2 = 0 ∨ Pl.fl b 2 = 2 := by cases b <;> simp [Pl.fl]

theorem l1FlagH1 (v : Int) (w : World) : Calls Try.prog 108 #[.bool (decide (128 ≤ v)), iv 1] w fun e w' => e = .returned (iv (Pl.hi 1 v)) ∧ w' = w := by
  have e : Pl.hi 1 v = Pl.fl (decide (128 ≤ v)) 1 := by simp [Pl.hi, Pl.fl, Pl.top]
  rw [e]; exact l1Flag _ 1 w
theorem l1FlagH2 (v : Int) (w : World) : Calls Try.prog 108 #[.bool (decide (32768 ≤ v)), iv 1] w fun e w' => e = .returned (iv (Pl.hi 2 v)) ∧ w' = w := by
  have e : Pl.hi 2 v = Pl.fl (decide (32768 ≤ v)) 1 := by simp [Pl.hi, Pl.fl, Pl.top]
  rw [e]; exact l1Flag _ 1 w
theorem l1FlagX (f : Int) (f0 : 0 ≤ f) (f1 : f ≤ 31) (w : World) : Calls Try.prog 108 #[.bool (f / 16 * 16 != 0), iv 1] w fun e w' => e = .returned (iv (f / 16)) ∧ w' = w := by
  refine (l1Flag _ 1 w).mono ?_
  rintro e w' ⟨rfl, rfl⟩
  refine ⟨rI ?_, rfl⟩
  obtain h | h : f / 16 = 0 ∨ f / 16 = 1 := by omega
  all_goals rw [h]; decide

theorem l3Left (k : Int) (w : World) : Calls Try.prog 64 #[iv k] w fun e w' => e = .returned (.bool (k % 2 == 0)) ∧ w' = w := by
  have h := Pl.and1 k
  go_enter Try.func64, Try.ntmps64
  go_wp2
  go_ret
  exact ⟨rfl, rfl⟩
theorem l3LeftT (k : Int) (h : (k % 2 == 0) = true) (w : World) : Calls Try.prog 64 #[iv k] w fun e w' => e = .returned (.bool true) ∧ w' = w := by
  rw [← h]; exact l3Left k w
theorem l3LeftF (k : Int) (h : (k % 2 == 0) = false) (w : World) : Calls Try.prog 64 #[iv k] w fun e w' => e = .returned (.bool false) ∧ w' = w := by
  rw [← h]; exact l3Left k w

theorem l3Once01 (f v : Int) (w : World) (f0 : 0 ≤ f) (f1 : f ≤ 31) (v0 : 0 ≤ v) (v1 : v < 256) :
    Calls Try.prog 61 #[iv 0, iv 1, iv f, iv v] w fun e w' => e = .returned (.tuple #[iv (Pl.nv 0 1 (f / 16) v), iv (Pl.onF 0 1 (f / 16) v)]) ∧ w' = w := by
  have hA := Pl.and1 v
  have hB := Pl.and16 f0 f1
  obtain ⟨q0, q1⟩ := Pl.hi_bd 1 v
  have hC := Pl.and255 (v * 2)
  have hD := Pl.or_low (a := v * 2 % 256) (q := 0) (by omega) (by omega) (by omega) (by omega) (by omega)
  rw [Int.add_zero] at hD
  have hW : Hid (Pl.nv 0 1 (f / 16) v = (v * 2 % 256)) := hide (by simp only [Pl.nv, Pl.inn, Pl.fell, Pl.top, Int.reduceMod, Int.reduceEq, Int.reduceLE, if_true, if_false, or_self] <;> omega)
  have hO : Hid (Pl.onF 0 1 (f / 16) v = Pl.hi 1 v + Pl.fl (Pl.hi 1 v != Pl.hi 1 (v * 2 % 256)) 2 + (Pl.fl ((v * 2 % 256) == 0) 4 + Pl.fl (decide (128 ≤ (v * 2 % 256))) 8) + Pl.hi 1 v * 16) := hide (by simp only [Pl.onF, Pl.vfl, hW.out, Pl.zn, Pl.nx, Pl.fell, Pl.top, Int.reduceMod, Int.reduceEq, Int.reduceDiv, if_true, if_false, decide_true, Bool.true_and, or_self] <;> omega)
  go_enter Try.func61, Try.ntmps61
  go_wp2_with fail
  refine (l1Top1 _).mono ?_
  rintro e w' ⟨rfl, rfl⟩
  go_wp2_with fail
  refine (l1FlagH1 _ _).mono ?_
  rintro e w' ⟨rfl, rfl⟩
  go_wp2_with fail
  refine (l3LeftT 0 rfl _).mono ?_
  rintro e w' ⟨rfl, rfl⟩
  go_wp2_with fail
  refine (l3LeftT 0 rfl _).mono ?_
  rintro e w' ⟨rfl, rfl⟩
  go_wp2_with fail
  refine (l1Zn1 _ _).mono ?_
  rintro e w' ⟨rfl, rfl⟩
  go_wp2_with fail
  refine (l1FlagH1 _ _).mono ?_
  rintro e w' ⟨rfl, rfl⟩
  go_wp2_with fail
  refine (l1Flag _ _ _).mono ?_
  rintro e w' ⟨rfl, rfl⟩
  go_wp2_with fail
  go_ret2
  exact ⟨rII hW.out.symm (by rw [Pl.or_flags (by omega) (Pl.fl_two _) (by omega)]; exact hO.out.symm), rfl⟩

theorem l3Once11 (f v : Int) (w : World) (f0 : 0 ≤ f) (f1 : f ≤ 31) (v0 : 0 ≤ v) (v1 : v < 256) :
    Calls Try.prog 61 #[iv 1, iv 1, iv f, iv v] w fun e w' => e = .returned (.tuple #[iv (Pl.nv 1 1 (f / 16) v), iv (Pl.onF 1 1 (f / 16) v)]) ∧ w' = w := by
  have hA := Pl.and1 v
  have hB := Pl.and16 f0 f1
  obtain ⟨q0, q1⟩ := Pl.hi_bd 1 v
  have hD := Pl.or_high1 (a := v / 2) (q := Pl.hi 1 v) (by omega) (by omega) (by omega) (by omega)
  have hW : Hid (Pl.nv 1 1 (f / 16) v = (v / 2 + Pl.hi 1 v * 128)) := hide (by simp only [Pl.nv, Pl.inn, Pl.fell, Pl.top, Int.reduceMod, Int.reduceEq, Int.reduceLE, if_true, if_false] <;> omega)
  have hO : Hid (Pl.onF 1 1 (f / 16) v = v % 2 + Pl.fl false 2 + (Pl.fl ((v / 2 + Pl.hi 1 v * 128) == 0) 4 + Pl.fl (decide (128 ≤ (v / 2 + Pl.hi 1 v * 128))) 8) + v % 2 * 16) := hide (by simp only [Pl.onF, Pl.vfl, hW.out, Pl.zn, Pl.nx, Pl.fell, Pl.top, Int.reduceMod, Int.reduceEq, Int.reduceDiv, if_true, if_false, decide_false, Bool.false_and, or_self] <;> omega)
  go_enter Try.func61, Try.ntmps61
  go_wp2_with fail
  refine (l1Top1 _).mono ?_
  rintro e w' ⟨rfl, rfl⟩
  go_wp2_with fail
  refine (l1FlagH1 _ _).mono ?_
  rintro e w' ⟨rfl, rfl⟩
  go_wp2_with fail
  refine (l3LeftF 1 rfl _).mono ?_
  rintro e w' ⟨rfl, rfl⟩
  go_wp2_with fail
  refine (l3LeftF 1 rfl _).mono ?_
  rintro e w' ⟨rfl, rfl⟩
  go_wp2_with fail
  refine (l1Zn1 _ _).mono ?_
  rintro e w' ⟨rfl, rfl⟩
  go_wp2_with fail
  refine (l1Flag _ _ _).mono ?_
  rintro e w' ⟨rfl, rfl⟩
  go_wp2_with fail
  go_ret2
  exact ⟨rII hW.out.symm (by rw [Pl.or_flags (by omega) (Pl.fl_two _) (by omega)]; exact hO.out.symm), rfl⟩

theorem l3Once21 (f v : Int) (w : World) (f0 : 0 ≤ f) (f1 : f ≤ 31) (v0 : 0 ≤ v) (v1 : v < 256) :
    Calls Try.prog 61 #[iv 2, iv 1, iv f, iv v] w fun e w' => e = .returned (.tuple #[iv (Pl.nv 2 1 (f / 16) v), iv (Pl.onF 2 1 (f / 16) v)]) ∧ w' = w := by
  have hA := Pl.and1 v
  have hB := Pl.and16 f0 f1
  obtain ⟨q0, q1⟩ := Pl.hi_bd 1 v
  have hC := Pl.and255 (v * 2)
  have hD := Pl.or_low (a := v * 2 % 256) (q := 0) (by omega) (by omega) (by omega) (by omega) (by omega)
  rw [Int.add_zero] at hD
  have hW : Hid (Pl.nv 2 1 (f / 16) v = (v * 2 % 256)) := hide (by simp only [Pl.nv, Pl.inn, Pl.fell, Pl.top, Int.reduceMod, Int.reduceEq, Int.reduceLE, if_true, if_false, or_self] <;> omega)
  have hO : Hid (Pl.onF 2 1 (f / 16) v = Pl.hi 1 v + Pl.fl false 2 + (Pl.fl ((v * 2 % 256) == 0) 4 + Pl.fl (decide (128 ≤ (v * 2 % 256))) 8) + Pl.hi 1 v * 16) := hide (by simp only [Pl.onF, Pl.vfl, hW.out, Pl.zn, Pl.nx, Pl.fell, Pl.top, Int.reduceMod, Int.reduceEq, Int.reduceDiv, if_true, if_false, decide_false, Bool.false_and, or_self] <;> omega)
  go_enter Try.func61, Try.ntmps61
  go_wp2_with fail
  refine (l1Top1 _).mono ?_
  rintro e w' ⟨rfl, rfl⟩
  go_wp2_with fail
  refine (l1FlagH1 _ _).mono ?_
  rintro e w' ⟨rfl, rfl⟩
  go_wp2_with fail
  refine (l3LeftT 2 rfl _).mono ?_
  rintro e w' ⟨rfl, rfl⟩
  go_wp2_with fail
  refine (l3LeftT 2 rfl _).mono ?_
  rintro e w' ⟨rfl, rfl⟩
  go_wp2_with fail
  refine (l1Zn1 _ _).mono ?_
  rintro e w' ⟨rfl, rfl⟩
  go_wp2_with fail
  refine (l1Flag _ _ _).mono ?_
  rintro e w' ⟨rfl, rfl⟩
  go_wp2_with fail
  go_ret2
  exact ⟨rII hW.out.symm (by rw [Pl.or_flags (by omega) (Pl.fl_two _) (by omega)]; exact hO.out.symm), rfl⟩

theorem l3Once31 (f v : Int) (w : World) (f0 : 0 ≤ f) (f1 : f ≤ 31) (v0 : 0 ≤ v) (v1 : v < 256) :
    Calls Try.prog 61 #[iv 3, iv 1, iv f, iv v] w fun e w' => e = .returned (.tuple #[iv (Pl.nv 3 1 (f / 16) v), iv (Pl.onF 3 1 (f / 16) v)]) ∧ w' = w := by
  have hA := Pl.and1 v
  have hB := Pl.and16 f0 f1
  obtain ⟨q0, q1⟩ := Pl.hi_bd 1 v
  have hD := Pl.or_high1 (a := v / 2) (q := 0) (by omega) (by omega) (by omega) (by omega)
  rw [Int.zero_mul, Int.add_zero] at hD
  have hW : Hid (Pl.nv 3 1 (f / 16) v = (v / 2)) := hide (by simp only [Pl.nv, Pl.inn, Pl.fell, Pl.top, Int.reduceMod, Int.reduceEq, Int.reduceLE, if_true, if_false, or_self] <;> omega)
  have hO : Hid (Pl.onF 3 1 (f / 16) v = v % 2 + Pl.fl false 2 + (Pl.fl ((v / 2) == 0) 4 + Pl.fl (decide (128 ≤ (v / 2))) 8) + v % 2 * 16) := hide (by simp only [Pl.onF, Pl.vfl, hW.out, Pl.zn, Pl.nx, Pl.fell, Pl.top, Int.reduceMod, Int.reduceEq, Int.reduceDiv, if_true, if_false, decide_false, Bool.false_and, or_self] <;> omega)
  go_enter Try.func61, Try.ntmps61
  go_wp2_with fail
  refine (l1Top1 _).mono ?_
  rintro e w' ⟨rfl, rfl⟩
  go_wp2_with fail
  refine (l1FlagH1 _ _).mono ?_
  rintro e w' ⟨rfl, rfl⟩
  go_wp2_with fail
  refine (l3LeftF 3 rfl _).mono ?_
  rintro e w' ⟨rfl, rfl⟩
  go_wp2_with fail
  refine (l3LeftF 3 rfl _).mono ?_
  rintro e w' ⟨rfl, rfl⟩
  go_wp2_with fail
  refine (l1Zn1 _ _).mono ?_
  rintro e w' ⟨rfl, rfl⟩
  go_wp2_with fail
  refine (l1Flag _ _ _).mono ?_
  rintro e w' ⟨rfl, rfl⟩
  go_wp2_with fail
  go_ret2
  exact ⟨rII hW.out.symm (by rw [Pl.or_flags (by omega) (Pl.fl_two _) (by omega)]; exact hO.out.symm), rfl⟩

theorem l3Once41 (f v : Int) (w : World) (f0 : 0 ≤ f) (f1 : f ≤ 31) (v0 : 0 ≤ v) (v1 : v < 256) :
    Calls Try.prog 61 #[iv 4, iv 1, iv f, iv v] w fun e w' => e = .returned (.tuple #[iv (Pl.nv 4 1 (f / 16) v), iv (Pl.onF 4 1 (f / 16) v)]) ∧ w' = w := by
  have hA := Pl.and1 v
  have hB := Pl.and16 f0 f1
  obtain ⟨q0, q1⟩ := Pl.hi_bd 1 v
  have hC := Pl.and255 (v * 2)
  have hD := Pl.or_low (a := v * 2 % 256) (q := Pl.hi 1 v) (by omega) (by omega) (by omega) (by omega) (by omega)
  have hW : Hid (Pl.nv 4 1 (f / 16) v = (v * 2 % 256 + Pl.hi 1 v)) := hide (by simp only [Pl.nv, Pl.inn, Pl.fell, Pl.top, Int.reduceMod, Int.reduceEq, Int.reduceLE, if_true, if_false, or_false] <;> omega)
  have hO : Hid (Pl.onF 4 1 (f / 16) v = Pl.hi 1 v + Pl.fl false 2 + (Pl.fl ((v * 2 % 256 + Pl.hi 1 v) == 0) 4 + Pl.fl (decide (128 ≤ (v * 2 % 256 + Pl.hi 1 v))) 8) + f / 16 * 16) := hide (by simp only [Pl.onF, Pl.vfl, hW.out, Pl.zn, Pl.nx, Pl.fell, Pl.top, Int.reduceMod, Int.reduceEq, Int.reduceDiv, if_true, if_false, decide_false, Bool.false_and, or_false] <;> omega)
  go_enter Try.func61, Try.ntmps61
  go_wp2_with fail
  refine (l1Top1 _).mono ?_
  rintro e w' ⟨rfl, rfl⟩
  go_wp2_with fail
  refine (l1FlagH1 _ _).mono ?_
  rintro e w' ⟨rfl, rfl⟩
  go_wp2_with fail
  refine (l3LeftT 4 rfl _).mono ?_
  rintro e w' ⟨rfl, rfl⟩
  go_wp2_with fail
  refine (l3LeftT 4 rfl _).mono ?_
  rintro e w' ⟨rfl, rfl⟩
  go_wp2_with fail
  refine (l1Zn1 _ _).mono ?_
  rintro e w' ⟨rfl, rfl⟩
  go_wp2_with fail
  refine (l1Flag _ _ _).mono ?_
  rintro e w' ⟨rfl, rfl⟩
  go_wp2_with fail
  go_ret2
  exact ⟨rII hW.out.symm (by rw [Pl.or_flags (by omega) (Pl.fl_two _) (by omega)]; exact hO.out.symm), rfl⟩

theorem l3Once51 (f v : Int) (w : World) (f0 : 0 ≤ f) (f1 : f ≤ 31) (v0 : 0 ≤ v) (v1 : v < 256) :
    Calls Try.prog 61 #[iv 5, iv 1, iv f, iv v] w fun e w' => e = .returned (.tuple #[iv (Pl.nv 5 1 (f / 16) v), iv (Pl.onF 5 1 (f / 16) v)]) ∧ w' = w := by
  have hA := Pl.and1 v
  have hB := Pl.and16 f0 f1
  obtain ⟨q0, q1⟩ := Pl.hi_bd 1 v
  have hD := Pl.or_high1 (a := v / 2) (q := (v % 2)) (by omega) (by omega) (by omega) (by omega)
  have hW : Hid (Pl.nv 5 1 (f / 16) v = (v / 2 + (v % 2) * 128)) := hide (by simp only [Pl.nv, Pl.inn, Pl.fell, Pl.top, Int.reduceMod, Int.reduceEq, Int.reduceLE, if_true, if_false, or_true] <;> omega)
  have hO : Hid (Pl.onF 5 1 (f / 16) v = v % 2 + Pl.fl false 2 + (Pl.fl ((v / 2 + (v % 2) * 128) == 0) 4 + Pl.fl (decide (128 ≤ (v / 2 + (v % 2) * 128))) 8) + f / 16 * 16) := hide (by simp only [Pl.onF, Pl.vfl, hW.out, Pl.zn, Pl.nx, Pl.fell, Pl.top, Int.reduceMod, Int.reduceEq, Int.reduceDiv, if_true, if_false, decide_false, Bool.false_and, or_true] <;> omega)
  go_enter Try.func61, Try.ntmps61
  go_wp2_with fail
  refine (l1Top1 _).mono ?_
  rintro e w' ⟨rfl, rfl⟩
  go_wp2_with fail
  refine (l1FlagH1 _ _).mono ?_
  rintro e w' ⟨rfl, rfl⟩
  go_wp2_with fail
  refine (l3LeftF 5 rfl _).mono ?_
  rintro e w' ⟨rfl, rfl⟩
  go_wp2_with fail
  refine (l3LeftF 5 rfl _).mono ?_
  rintro e w' ⟨rfl, rfl⟩
  go_wp2_with fail
  refine (l1Zn1 _ _).mono ?_
  rintro e w' ⟨rfl, rfl⟩
  go_wp2_with fail
  refine (l1Flag _ _ _).mono ?_
  rintro e w' ⟨rfl, rfl⟩
  go_wp2_with fail
  go_ret2
  exact ⟨rII hW.out.symm (by rw [Pl.or_flags (by omega) (Pl.fl_two _) (by omega)]; exact hO.out.symm), rfl⟩

theorem l3Once61 (f v : Int) (w : World) (f0 : 0 ≤ f) (f1 : f ≤ 31) (v0 : 0 ≤ v) (v1 : v < 256) :
    Calls Try.prog 61 #[iv 6, iv 1, iv f, iv v] w fun e w' => e = .returned (.tuple #[iv (Pl.nv 6 1 (f / 16) v), iv (Pl.onF 6 1 (f / 16) v)]) ∧ w' = w := by
  have hA := Pl.and1 v
  have hB := Pl.and16 f0 f1
  obtain ⟨q0, q1⟩ := Pl.hi_bd 1 v
  have hC := Pl.and255 (v * 2)
  have hD := Pl.or_low (a := v * 2 % 256) (q := (f / 16)) (by omega) (by omega) (by omega) (by omega) (by omega)
  have hW : Hid (Pl.nv 6 1 (f / 16) v = (v * 2 % 256 + (f / 16))) := hide (by simp only [Pl.nv, Pl.inn, Pl.fell, Pl.top, Int.reduceMod, Int.reduceEq, Int.reduceLE, if_true, if_false, or_self] <;> omega)
  have hO : Hid (Pl.onF 6 1 (f / 16) v = Pl.hi 1 v + Pl.fl false 2 + (Pl.fl ((v * 2 % 256 + (f / 16)) == 0) 4 + Pl.fl (decide (128 ≤ (v * 2 % 256 + (f / 16)))) 8) + Pl.hi 1 v * 16) := hide (by simp only [Pl.onF, Pl.vfl, hW.out, Pl.zn, Pl.nx, Pl.fell, Pl.top, Int.reduceMod, Int.reduceEq, Int.reduceDiv, if_true, if_false, decide_false, Bool.false_and, or_self] <;> omega)
  go_enter Try.func61, Try.ntmps61
  go_wp2_with fail
  refine (l1Top1 _).mono ?_
  rintro e w' ⟨rfl, rfl⟩
  go_wp2_with fail
  refine (l1FlagH1 _ _).mono ?_
  rintro e w' ⟨rfl, rfl⟩
  go_wp2_with fail
  refine (l3LeftT 6 rfl _).mono ?_
  rintro e w' ⟨rfl, rfl⟩
  go_wp2_with fail
  refine (l1FlagX f f0 f1 _).mono ?_
  rintro e w' ⟨rfl, rfl⟩
  go_wp2_with fail
  refine (l3LeftT 6 rfl _).mono ?_
  rintro e w' ⟨rfl, rfl⟩
  go_wp2_with fail
  refine (l1Zn1 _ _).mono ?_
  rintro e w' ⟨rfl, rfl⟩
  go_wp2_with fail
  refine (l1Flag _ _ _).mono ?_
  rintro e w' ⟨rfl, rfl⟩
  go_wp2_with fail
  go_ret2
  exact ⟨rII hW.out.symm (by rw [Pl.or_flags (by omega) (Pl.fl_two _) (by omega)]; exact hO.out.symm), rfl⟩

theorem l3Once71 (f v : Int) (w : World) (f0 : 0 ≤ f) (f1 : f ≤ 31) (v0 : 0 ≤ v) (v1 : v < 256) :
    Calls Try.prog 61 #[iv 7, iv 1, iv f, iv v] w fun e w' => e = .returned (.tuple #[iv (Pl.nv 7 1 (f / 16) v), iv (Pl.onF 7 1 (f / 16) v)]) ∧ w' = w := by
  have hA := Pl.and1 v
  have hB := Pl.and16 f0 f1
  obtain ⟨q0, q1⟩ := Pl.hi_bd 1 v
  have hD := Pl.or_high1 (a := v / 2) (q := (f / 16)) (by omega) (by omega) (by omega) (by omega)
  have hW : Hid (Pl.nv 7 1 (f / 16) v = (v / 2 + (f / 16) * 128)) := hide (by simp only [Pl.nv, Pl.inn, Pl.fell, Pl.top, Int.reduceMod, Int.reduceEq, Int.reduceLE, if_true, if_false, or_self] <;> omega)
  have hO : Hid (Pl.onF 7 1 (f / 16) v = v % 2 + Pl.fl false 2 + (Pl.fl ((v / 2 + (f / 16) * 128) == 0) 4 + Pl.fl (decide (128 ≤ (v / 2 + (f / 16) * 128))) 8) + v % 2 * 16) := hide (by simp only [Pl.onF, Pl.vfl, hW.out, Pl.zn, Pl.nx, Pl.fell, Pl.top, Int.reduceMod, Int.reduceEq, Int.reduceDiv, if_true, if_false, decide_false, Bool.false_and, or_self] <;> omega)
  go_enter Try.func61, Try.ntmps61
  go_wp2_with fail
  refine (l1Top1 _).mono ?_
  rintro e w' ⟨rfl, rfl⟩
  go_wp2_with fail
  refine (l1FlagH1 _ _).mono ?_
  rintro e w' ⟨rfl, rfl⟩
  go_wp2_with fail
  refine (l3LeftF 7 rfl _).mono ?_
  rintro e w' ⟨rfl, rfl⟩
  go_wp2_with fail
  refine (l1FlagX f f0 f1 _).mono ?_
  rintro e w' ⟨rfl, rfl⟩
  go_wp2_with fail
  refine (l3LeftF 7 rfl _).mono ?_
  rintro e w' ⟨rfl, rfl⟩
  go_wp2_with fail
  refine (l1Zn1 _ _).mono ?_
  rintro e w' ⟨rfl, rfl⟩
  go_wp2_with fail
  refine (l1Flag _ _ _).mono ?_
  rintro e w' ⟨rfl, rfl⟩
  go_wp2_with fail
  go_ret2
  exact ⟨rII hW.out.symm (by rw [Pl.or_flags (by omega) (Pl.fl_two _) (by omega)]; exact hO.out.symm), rfl⟩

theorem l3Once02 (f v : Int) (w : World) (f0 : 0 ≤ f) (f1 : f ≤ 31) (v0 : 0 ≤ v) (v1 : v < 65536) :
    Calls Try.prog 61 #[iv 0, iv 2, iv f, iv v] w fun e w' => e = .returned (.tuple #[iv (Pl.nv 0 2 (f / 16) v), iv (Pl.onF 0 2 (f / 16) v)]) ∧ w' = w := by
  have hA := Pl.and1 v
  have hB := Pl.and16 f0 f1
  obtain ⟨q0, q1⟩ := Pl.hi_bd 2 v
  have hC := Pl.and65535 (v * 2)
  have hD := Pl.or_low (a := v * 2 % 65536) (q := 0) (by omega) (by omega) (by omega) (by omega) (by omega)
  rw [Int.add_zero] at hD
  have hW : Hid (Pl.nv 0 2 (f / 16) v = (v * 2 % 65536)) := hide (by simp only [Pl.nv, Pl.inn, Pl.fell, Pl.top, Int.reduceMod, Int.reduceEq, Int.reduceLE, if_true, if_false, or_self] <;> omega)
  have hO : Hid (Pl.onF 0 2 (f / 16) v = Pl.hi 2 v + Pl.fl (Pl.hi 2 v != Pl.hi 2 (v * 2 % 65536)) 2 + (Pl.fl ((v * 2 % 65536) == 0) 4 + Pl.fl (decide (32768 ≤ (v * 2 % 65536))) 8) + Pl.hi 2 v * 16) := hide (by simp only [Pl.onF, Pl.vfl, hW.out, Pl.zn, Pl.nx, Pl.fell, Pl.top, Int.reduceMod, Int.reduceEq, Int.reduceDiv, if_true, if_false, decide_true, Bool.true_and, or_self] <;> omega)
  go_enter Try.func61, Try.ntmps61
  go_wp2_with fail
  refine (l1Top2 _).mono ?_
  rintro e w' ⟨rfl, rfl⟩
  go_wp2_with fail
  refine (l1FlagH2 _ _).mono ?_
  rintro e w' ⟨rfl, rfl⟩
  go_wp2_with fail
  refine (l3LeftT 0 rfl _).mono ?_
  rintro e w' ⟨rfl, rfl⟩
  go_wp2_with fail
  refine (l3LeftT 0 rfl _).mono ?_
  rintro e w' ⟨rfl, rfl⟩
  go_wp2_with fail
  refine (l1Zn2 _ _).mono ?_
  rintro e w' ⟨rfl, rfl⟩
  go_wp2_with fail
  refine (l1FlagH2 _ _).mono ?_
  rintro e w' ⟨rfl, rfl⟩
  go_wp2_with fail
  refine (l1Flag _ _ _).mono ?_
  rintro e w' ⟨rfl, rfl⟩
  go_wp2_with fail
  go_ret2
  exact ⟨rII hW.out.symm (by rw [Pl.or_flags (by omega) (Pl.fl_two _) (by omega)]; exact hO.out.symm), rfl⟩

theorem l3Once12 (f v : Int) (w : World) (f0 : 0 ≤ f) (f1 : f ≤ 31) (v0 : 0 ≤ v) (v1 : v < 65536) :
    Calls Try.prog 61 #[iv 1, iv 2, iv f, iv v] w fun e w' => e = .returned (.tuple #[iv (Pl.nv 1 2 (f / 16) v), iv (Pl.onF 1 2 (f / 16) v)]) ∧ w' = w := by
  have hA := Pl.and1 v
  have hB := Pl.and16 f0 f1
  obtain ⟨q0, q1⟩ := Pl.hi_bd 2 v
  have hD := Pl.or_high2 (a := v / 2) (q := Pl.hi 2 v) (by omega) (by omega) (by omega) (by omega)
  have hW : Hid (Pl.nv 1 2 (f / 16) v = (v / 2 + Pl.hi 2 v * 32768)) := hide (by simp only [Pl.nv, Pl.inn, Pl.fell, Pl.top, Int.reduceMod, Int.reduceEq, Int.reduceLE, if_true, if_false] <;> omega)
  have hO : Hid (Pl.onF 1 2 (f / 16) v = v % 2 + Pl.fl false 2 + (Pl.fl ((v / 2 + Pl.hi 2 v * 32768) == 0) 4 + Pl.fl (decide (32768 ≤ (v / 2 + Pl.hi 2 v * 32768))) 8) + v % 2 * 16) := hide (by simp only [Pl.onF, Pl.vfl, hW.out, Pl.zn, Pl.nx, Pl.fell, Pl.top, Int.reduceMod, Int.reduceEq, Int.reduceDiv, if_true, if_false, decide_false, Bool.false_and, or_self] <;> omega)
  go_enter Try.func61, Try.ntmps61
  go_wp2_with fail
  refine (l1Top2 _).mono ?_
  rintro e w' ⟨rfl, rfl⟩
  go_wp2_with fail
  refine (l1FlagH2 _ _).mono ?_
  rintro e w' ⟨rfl, rfl⟩
  go_wp2_with fail
  refine (l3LeftF 1 rfl _).mono ?_
  rintro e w' ⟨rfl, rfl⟩
  go_wp2_with fail
  refine (l3LeftF 1 rfl _).mono ?_
  rintro e w' ⟨rfl, rfl⟩
  go_wp2_with fail
  refine (l1Zn2 _ _).mono ?_
  rintro e w' ⟨rfl, rfl⟩
  go_wp2_with fail
  refine (l1Flag _ _ _).mono ?_
  rintro e w' ⟨rfl, rfl⟩
  go_wp2_with fail
  go_ret2
  exact ⟨rII hW.out.symm (by rw [Pl.or_flags (by omega) (Pl.fl_two _) (by omega)]; exact hO.out.symm), rfl⟩

theorem l3Once22 (f v : Int) (w : World) (f0 : 0 ≤ f) (f1 : f ≤ 31) (v0 : 0 ≤ v) (v1 : v < 65536) :
    Calls Try.prog 61 #[iv 2, iv 2, iv f, iv v] w fun e w' => e = .returned (.tuple #[iv (Pl.nv 2 2 (f / 16) v), iv (Pl.onF 2 2 (f / 16) v)]) ∧ w' = w := by
  have hA := Pl.and1 v
  have hB := Pl.and16 f0 f1
  obtain ⟨q0, q1⟩ := Pl.hi_bd 2 v
  have hC := Pl.and65535 (v * 2)
  have hD := Pl.or_low (a := v * 2 % 65536) (q := 0) (by omega) (by omega) (by omega) (by omega) (by omega)
  rw [Int.add_zero] at hD
  have hW : Hid (Pl.nv 2 2 (f / 16) v = (v * 2 % 65536)) := hide (by simp only [Pl.nv, Pl.inn, Pl.fell, Pl.top, Int.reduceMod, Int.reduceEq, Int.reduceLE, if_true, if_false, or_self] <;> omega)
  have hO : Hid (Pl.onF 2 2 (f / 16) v = Pl.hi 2 v + Pl.fl false 2 + (Pl.fl ((v * 2 % 65536) == 0) 4 + Pl.fl (decide (32768 ≤ (v * 2 % 65536))) 8) + Pl.hi 2 v * 16) := hide (by simp only [Pl.onF, Pl.vfl, hW.out, Pl.zn, Pl.nx, Pl.fell, Pl.top, Int.reduceMod, Int.reduceEq, Int.reduceDiv, if_true, if_false, decide_false, Bool.false_and, or_self] <;> omega)
  go_enter Try.func61, Try.ntmps61
  go_wp2_with fail
  refine (l1Top2 _).mono ?_
  rintro e w' ⟨rfl, rfl⟩
  go_wp2_with fail
  refine (l1FlagH2 _ _).mono ?_
  rintro e w' ⟨rfl, rfl⟩
  go_wp2_with fail
  refine (l3LeftT 2 rfl _).mono ?_
  rintro e w' ⟨rfl, rfl⟩
  go_wp2_with fail
  refine (l3LeftT 2 rfl _).mono ?_
  rintro e w' ⟨rfl, rfl⟩
  go_wp2_with fail
  refine (l1Zn2 _ _).mono ?_
  rintro e w' ⟨rfl, rfl⟩
  go_wp2_with fail
  refine (l1Flag _ _ _).mono ?_
  rintro e w' ⟨rfl, rfl⟩
  go_wp2_with fail
  go_ret2
  exact ⟨rII hW.out.symm (by rw [Pl.or_flags (by omega) (Pl.fl_two _) (by omega)]; exact hO.out.symm), rfl⟩

theorem l3Once32 (f v : Int) (w : World) (f0 : 0 ≤ f) (f1 : f ≤ 31) (v0 : 0 ≤ v) (v1 : v < 65536) :
    Calls Try.prog 61 #[iv 3, iv 2, iv f, iv v] w fun e w' => e = .returned (.tuple #[iv (Pl.nv 3 2 (f / 16) v), iv (Pl.onF 3 2 (f / 16) v)]) ∧ w' = w := by
  have hA := Pl.and1 v
  have hB := Pl.and16 f0 f1
  obtain ⟨q0, q1⟩ := Pl.hi_bd 2 v
  have hD := Pl.or_high2 (a := v / 2) (q := 0) (by omega) (by omega) (by omega) (by omega)
  rw [Int.zero_mul, Int.add_zero] at hD
  have hW : Hid (Pl.nv 3 2 (f / 16) v = (v / 2)) := hide (by simp only [Pl.nv, Pl.inn, Pl.fell, Pl.top, Int.reduceMod, Int.reduceEq, Int.reduceLE, if_true, if_false, or_self] <;> omega)
  have hO : Hid (Pl.onF 3 2 (f / 16) v = v % 2 + Pl.fl false 2 + (Pl.fl ((v / 2) == 0) 4 + Pl.fl (decide (32768 ≤ (v / 2))) 8) + v % 2 * 16) := hide (by simp only [Pl.onF, Pl.vfl, hW.out, Pl.zn, Pl.nx, Pl.fell, Pl.top, Int.reduceMod, Int.reduceEq, Int.reduceDiv, if_true, if_false, decide_false, Bool.false_and, or_self] <;> omega)
  go_enter Try.func61, Try.ntmps61
  go_wp2_with fail
  refine (l1Top2 _).mono ?_
  rintro e w' ⟨rfl, rfl⟩
  go_wp2_with fail
  refine (l1FlagH2 _ _).mono ?_
  rintro e w' ⟨rfl, rfl⟩
  go_wp2_with fail
  refine (l3LeftF 3 rfl _).mono ?_
  rintro e w' ⟨rfl, rfl⟩
  go_wp2_with fail
  refine (l3LeftF 3 rfl _).mono ?_
  rintro e w' ⟨rfl, rfl⟩
  go_wp2_with fail
  refine (l1Zn2 _ _).mono ?_
  rintro e w' ⟨rfl, rfl⟩
  go_wp2_with fail
  refine (l1Flag _ _ _).mono ?_
  rintro e w' ⟨rfl, rfl⟩
  go_wp2_with fail
  go_ret2
  exact ⟨rII hW.out.symm (by rw [Pl.or_flags (by omega) (Pl.fl_two _) (by omega)]; exact hO.out.symm), rfl⟩

theorem l3Once42 (f v : Int) (w : World) (f0 : 0 ≤ f) (f1 : f ≤ 31) (v0 : 0 ≤ v) (v1 : v < 65536) :
    Calls Try.prog 61 #[iv 4, iv 2, iv f, iv v] w fun e w' => e = .returned (.tuple #[iv (Pl.nv 4 2 (f / 16) v), iv (Pl.onF 4 2 (f / 16) v)]) ∧ w' = w := by
  have hA := Pl.and1 v
  have hB := Pl.and16 f0 f1
  obtain ⟨q0, q1⟩ := Pl.hi_bd 2 v
  have hC := Pl.and65535 (v * 2)
  have hD := Pl.or_low (a := v * 2 % 65536) (q := Pl.hi 2 v) (by omega) (by omega) (by omega) (by omega) (by omega)
  have hW : Hid (Pl.nv 4 2 (f / 16) v = (v * 2 % 65536 + Pl.hi 2 v)) := hide (by simp only [Pl.nv, Pl.inn, Pl.fell, Pl.top, Int.reduceMod, Int.reduceEq, Int.reduceLE, if_true, if_false, or_false] <;> omega)
  have hO : Hid (Pl.onF 4 2 (f / 16) v = Pl.hi 2 v + Pl.fl false 2 + (Pl.fl ((v * 2 % 65536 + Pl.hi 2 v) == 0) 4 + Pl.fl (decide (32768 ≤ (v * 2 % 65536 + Pl.hi 2 v))) 8) + f / 16 * 16) := hide (by simp only [Pl.onF, Pl.vfl, hW.out, Pl.zn, Pl.nx, Pl.fell, Pl.top, Int.reduceMod, Int.reduceEq, Int.reduceDiv, if_true, if_false, decide_false, Bool.false_and, or_false] <;> omega)
  go_enter Try.func61, Try.ntmps61
  go_wp2_with fail
  refine (l1Top2 _).mono ?_
  rintro e w' ⟨rfl, rfl⟩
  go_wp2_with fail
  refine (l1FlagH2 _ _).mono ?_
  rintro e w' ⟨rfl, rfl⟩
  go_wp2_with fail
  refine (l3LeftT 4 rfl _).mono ?_
  rintro e w' ⟨rfl, rfl⟩
  go_wp2_with fail
  refine (l3LeftT 4 rfl _).mono ?_
  rintro e w' ⟨rfl, rfl⟩
  go_wp2_with fail
  refine (l1Zn2 _ _).mono ?_
  rintro e w' ⟨rfl, rfl⟩
  go_wp2_with fail
  refine (l1Flag _ _ _).mono ?_
  rintro e w' ⟨rfl, rfl⟩
  go_wp2_with fail
  go_ret2
  exact ⟨rII hW.out.symm (by rw [Pl.or_flags (by omega) (Pl.fl_two _) (by omega)]; exact hO.out.symm), rfl⟩

theorem l3Once52 (f v : Int) (w : World) (f0 : 0 ≤ f) (f1 : f ≤ 31) (v0 : 0 ≤ v) (v1 : v < 65536) :
    Calls Try.prog 61 #[iv 5, iv 2, iv f, iv v] w fun e w' => e = .returned (.tuple #[iv (Pl.nv 5 2 (f / 16) v), iv (Pl.onF 5 2 (f / 16) v)]) ∧ w' = w := by
  have hA := Pl.and1 v
  have hB := Pl.and16 f0 f1
  obtain ⟨q0, q1⟩ := Pl.hi_bd 2 v
  have hD := Pl.or_high2 (a := v / 2) (q := (v % 2)) (by omega) (by omega) (by omega) (by omega)
  have hW : Hid (Pl.nv 5 2 (f / 16) v = (v / 2 + (v % 2) * 32768)) := hide (by simp only [Pl.nv, Pl.inn, Pl.fell, Pl.top, Int.reduceMod, Int.reduceEq, Int.reduceLE, if_true, if_false, or_true] <;> omega)
  have hO : Hid (Pl.onF 5 2 (f / 16) v = v % 2 + Pl.fl false 2 + (Pl.fl ((v / 2 + (v % 2) * 32768) == 0) 4 + Pl.fl (decide (32768 ≤ (v / 2 + (v % 2) * 32768))) 8) + f / 16 * 16) := hide (by simp only [Pl.onF, Pl.vfl, hW.out, Pl.zn, Pl.nx, Pl.fell, Pl.top, Int.reduceMod, Int.reduceEq, Int.reduceDiv, if_true, if_false, decide_false, Bool.false_and, or_true] <;> omega)
  go_enter Try.func61, Try.ntmps61
  go_wp2_with fail
  refine (l1Top2 _).mono ?_
  rintro e w' ⟨rfl, rfl⟩
  go_wp2_with fail
  refine (l1FlagH2 _ _).mono ?_
  rintro e w' ⟨rfl, rfl⟩
  go_wp2_with fail
  refine (l3LeftF 5 rfl _).mono ?_
  rintro e w' ⟨rfl, rfl⟩
  go_wp2_with fail
  refine (l3LeftF 5 rfl _).mono ?_
  rintro e w' ⟨rfl, rfl⟩
  go_wp2_with fail
  refine (l1Zn2 _ _).mono ?_
  rintro e w' ⟨rfl, rfl⟩
  go_wp2_with fail
  refine (l1Flag _ _ _).mono ?_
  rintro e w' ⟨rfl, rfl⟩
  go_wp2_with fail
  go_ret2
  exact ⟨rII hW.out.symm (by rw [Pl.or_flags (by omega) (Pl.fl_two _) (by omega)]; exact hO.out.symm), rfl⟩

theorem l3Once62 (f v : Int) (w : World) (f0 : 0 ≤ f) (f1 : f ≤ 31) (v0 : 0 ≤ v) (v1 : v < 65536) :
    Calls Try.prog 61 #[iv 6, iv 2, iv f, iv v] w fun e w' => e = .returned (.tuple #[iv (Pl.nv 6 2 (f / 16) v), iv (Pl.onF 6 2 (f / 16) v)]) ∧ w' = w := by
  have hA := Pl.and1 v
  have hB := Pl.and16 f0 f1
  obtain ⟨q0, q1⟩ := Pl.hi_bd 2 v
  have hC := Pl.and65535 (v * 2)
  have hD := Pl.or_low (a := v * 2 % 65536) (q := (f / 16)) (by omega) (by omega) (by omega) (by omega) (by omega)
  have hW : Hid (Pl.nv 6 2 (f / 16) v = (v * 2 % 65536 + (f / 16))) := hide (by simp only [Pl.nv, Pl.inn, Pl.fell, Pl.top, Int.reduceMod, Int.reduceEq, Int.reduceLE, if_true, if_false, or_self] <;> omega)
  have hO : Hid (Pl.onF 6 2 (f / 16) v = Pl.hi 2 v + Pl.fl false 2 + (Pl.fl ((v * 2 % 65536 + (f / 16)) == 0) 4 + Pl.fl (decide (32768 ≤ (v * 2 % 65536 + (f / 16)))) 8) + Pl.hi 2 v * 16) := hide (by simp only [Pl.onF, Pl.vfl, hW.out, Pl.zn, Pl.nx, Pl.fell, Pl.top, Int.reduceMod, Int.reduceEq, Int.reduceDiv, if_true, if_false, decide_false, Bool.false_and, or_self] <;> omega)
  go_enter Try.func61, Try.ntmps61
  go_wp2_with fail
  refine (l1Top2 _).mono ?_
  rintro e w' ⟨rfl, rfl⟩
  go_wp2_with fail
  refine (l1FlagH2 _ _).mono ?_
  rintro e w' ⟨rfl, rfl⟩
  go_wp2_with fail
  refine (l3LeftT 6 rfl _).mono ?_
  rintro e w' ⟨rfl, rfl⟩
  go_wp2_with fail
  refine (l1FlagX f f0 f1 _).mono ?_
  rintro e w' ⟨rfl, rfl⟩
  go_wp2_with fail
  refine (l3LeftT 6 rfl _).mono ?_
  rintro e w' ⟨rfl, rfl⟩
  go_wp2_with fail
  refine (l1Zn2 _ _).mono ?_
  rintro e w' ⟨rfl, rfl⟩
  go_wp2_with fail
  refine (l1Flag _ _ _).mono ?_
  rintro e w' ⟨rfl, rfl⟩
  go_wp2_with fail
  go_ret2
  exact ⟨rII hW.out.symm (by rw [Pl.or_flags (by omega) (Pl.fl_two _) (by omega)]; exact hO.out.symm), rfl⟩

theorem l3Once72 (f v : Int) (w : World) (f0 : 0 ≤ f) (f1 : f ≤ 31) (v0 : 0 ≤ v) (v1 : v < 65536) :
    Calls Try.prog 61 #[iv 7, iv 2, iv f, iv v] w fun e w' => e = .returned (.tuple #[iv (Pl.nv 7 2 (f / 16) v), iv (Pl.onF 7 2 (f / 16) v)]) ∧ w' = w := by
  have hA := Pl.and1 v
  have hB := Pl.and16 f0 f1
  obtain ⟨q0, q1⟩ := Pl.hi_bd 2 v
  have hD := Pl.or_high2 (a := v / 2) (q := (f / 16)) (by omega) (by omega) (by omega) (by omega)
  have hW : Hid (Pl.nv 7 2 (f / 16) v = (v / 2 + (f / 16) * 32768)) := hide (by simp only [Pl.nv, Pl.inn, Pl.fell, Pl.top, Int.reduceMod, Int.reduceEq, Int.reduceLE, if_true, if_false, or_self] <;> omega)
  have hO : Hid (Pl.onF 7 2 (f / 16) v = v % 2 + Pl.fl false 2 + (Pl.fl ((v / 2 + (f / 16) * 32768) == 0) 4 + Pl.fl (decide (32768 ≤ (v / 2 + (f / 16) * 32768))) 8) + v % 2 * 16) := hide (by simp only [Pl.onF, Pl.vfl, hW.out, Pl.zn, Pl.nx, Pl.fell, Pl.top, Int.reduceMod, Int.reduceEq, Int.reduceDiv, if_true, if_false, decide_false, Bool.false_and, or_self] <;> omega)
  go_enter Try.func61, Try.ntmps61
  go_wp2_with fail
  refine (l1Top2 _).mono ?_
  rintro e w' ⟨rfl, rfl⟩
  go_wp2_with fail
  refine (l1FlagH2 _ _).mono ?_
  rintro e w' ⟨rfl, rfl⟩
  go_wp2_with fail
  refine (l3LeftF 7 rfl _).mono ?_
  rintro e w' ⟨rfl, rfl⟩
  go_wp2_with fail
  refine (l1FlagX f f0 f1 _).mono ?_
  rintro e w' ⟨rfl, rfl⟩
  go_wp2_with fail
  refine (l3LeftF 7 rfl _).mono ?_
  rintro e w' ⟨rfl, rfl⟩
  go_wp2_with fail
  refine (l1Zn2 _ _).mono ?_
  rintro e w' ⟨rfl, rfl⟩
  go_wp2_with fail
  refine (l1Flag _ _ _).mono ?_
  rintro e w' ⟨rfl, rfl⟩
  go_wp2_with fail
  go_ret2
  exact ⟨rII hW.out.symm (by rw [Pl.or_flags (by omega) (Pl.fl_two _) (by omega)]; exact hO.out.symm), rfl⟩

end Go.Proofs.Ytnmddmmmgdfknaa

