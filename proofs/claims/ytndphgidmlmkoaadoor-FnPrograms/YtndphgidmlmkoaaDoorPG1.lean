/- The plain arithmetic beneath the walks of chapter 1: what masks, values with a sign and flags are, as functions on whole numbers. No Go text is spoken of here. Small things that every walk of ours leans on: equal answers, a fact kept from the walk, and what the model's test of a range answers. Worlds that grow, one block of them written: three small laws. What the model's reader of drawn bytes does: its calls change its own three cells and no other block that was there; what they answer lies within the bounds that the draws need. What the model's draws of numbers answer: numbers within their bounds; they change the reader's own block and no other that was there. Bytes that came in, read by the model's reader: what every draw of a law's arguments leans on. What the draw of a value answers. What the laws' own functions over lists of whole numbers do: compare, copy, mark, look for the marks. What the laws' own functions do that copy a list of whole numbers, mark it, and look for the marks. Lists that were answered, kept over calls that change other blocks: what the laws on lists lean on. What is said of worlds, blocks and lists by every law on structs with lists: blocks kept outside a span, lists in blocks of a span, a block's cells, copies; no text of a chapter is spoken of here. Draws behind draws: what the reader's calls answer wherever the reading has come to, with boxes of the drawing's own beside it. Registers in numbers, and what is done to them: plain arithmetic; no Go text is spoken of here. What the model's test of a size answers. What the model's tests of words and operands answer. What the model's draw of an operand answers: numbers within their bounds; it changes the reader's own block and no other that was there. Instructions in numbers: plain arithmetic; no Go text is spoken of here. What the small models of chapter 7 answer. What the model's GoodIns answers, for operands that are no numbers in the code and size 1. -/
import Derived.WalkKit
import Derived.Test.YtndphgidmlmkoaaDoorProg
import Derived.WalkSpells
import Derived.WalkLawsBesides
import Derived.OpenShut
import Derived.Deep.QuietTactic
import Derived.BigQuiet
import Derived.RegionTactic
import Derived.ChangeAlike
import Derived.BigRegion
import Derived.Deep.RegionWith
import Derived.Laws.Rows
import Derived.Laws.ResultCell
import Derived.Laws.CopyOwn
import Derived.Maps.AppendAt
import Derived.Laws.AppendOwnNone
import Derived.Deep.DeepCutAuto
namespace Go.Proofs.YtndphgidmlmkoaaDoor.Pl

theorem and255 (a : Int) : bits .and .i64 a 255 = a % 256 := by
  show IntKind.i64.wrap ((BitVec.ofInt 64 a &&& BitVec.ofInt 64 255).toNat : Int) = _
  rw [BitVec.toNat_and, BitVec.toNat_ofInt, show (BitVec.ofInt 64 255).toNat = 2 ^ 8 - 1 from by decide, Nat.and_two_pow_sub_one_eq_mod, IntKind.wrap_i64]
  omega
theorem and1 (a : Int) : bits .and .i64 a 1 = a % 2 := by
  show IntKind.i64.wrap ((BitVec.ofInt 64 a &&& BitVec.ofInt 64 1).toNat : Int) = _
  rw [BitVec.toNat_and, BitVec.toNat_ofInt, show (BitVec.ofInt 64 1).toNat = 2 ^ 1 - 1 from by decide, Nat.and_two_pow_sub_one_eq_mod, IntKind.wrap_i64]
  omega

/-- how many values a size has -/
def top (s : Int) : Int := if s = 1 then 256 else 65536
/-- a value of a size -/
def okv (s v : Int) : Bool := (decide (s = 1) || decide (s = 2)) && (decide (0 ≤ v) && decide (v < top s))
/-- a value as a number with a sign -/
def sg (s v : Int) : Int := if top s / 2 ≤ v then v - top s else v
def sgnV (s v : Int) : Int := if okv s v = true then sg s v else 0
theorem top_ok {s v : Int} (h : okv s v = true) : (s = 1 ∧ top s = 256 ∨ s = 2 ∧ top s = 65536) ∧ 0 ≤ v ∧ v < top s := by
  simp [okv] at h
  obtain ⟨h1, h2, h3⟩ := h
  refine ⟨?_, h2, h3⟩
  rcases h1 with rfl | rfl
  · exact .inl ⟨rfl, rfl⟩
  · exact .inr ⟨rfl, rfl⟩

theorem wraps_i64 (n : Int) (h₀ : 0 ≤ n) (h₁ : n < 2 ^ 62) : IntKind.i64.wrap n = n := by rw [IntKind.wrap_i64]; omega
end Go.Proofs.YtndphgidmlmkoaaDoor.Pl

namespace Go.Proofs.YtndphgidmlmkoaaDoor
open Go.RowKit
set_option linter.unusedVariables false

/- long words made short -/
abbrev iv (n : Int) : Value := .int .i64 n
abbrev inA (op z r m k e s : Int) : Array Value := #[.int .i64 op, .int .i64 z, .int .i64 r, .int .i64 m, .int .i64 k, .int .i64 e, .int .i64 s]
theorem st {P : Program} {f : FuncId} {a : Array Value} {w : World} {r : Ending} {Q : Ending → World → Prop} (h : Calls P f a w fun e w' => e = r ∧ w' = w) (q : Q r w) : Calls P f a w Q := h.mono (by rintro e w' ⟨rfl, rfl⟩; exact q)
theorem hide {p : Prop} (h : p) : Hid p := h
theorem rI {a b : Int} (h : a = b) : Ending.returned (.int .i64 a) = .returned (.int .i64 b) := by rw [h]
theorem rB {a b : Bool} (h : a = b) : Ending.returned (.bool a) = .returned (.bool b) := by rw [h]
theorem rIB {a b : Int} {c d : Bool} (h : a = b) (k : c = d) : Ending.returned (.tuple #[.int .i64 a, .bool c]) = .returned (.tuple #[.int .i64 b, .bool d]) := by rw [h, k]
theorem l1In (n lo hi : Int) (w : World) :
    Calls Tryd.prog 43 #[.int .i64 n, .int .i64 lo, .int .i64 hi] w fun e w' => e = .returned (.bool (decide (lo ≤ n) && decide (n ≤ hi))) ∧ w' = w := by
  by_cases h0 : lo ≤ n
  all_goals
    by_cases h1 : n ≤ hi
    all_goals
      go_enter Tryd.func43, Tryd.ntmps43
      go_wp2
      go_ret
      exact ⟨rB (by simp; omega), rfl⟩

end Go.Proofs.YtndphgidmlmkoaaDoor

namespace Go.Proofs.YtndphgidmlmkoaaDoor
open Go.RowKit
set_option linter.unusedVariables false

theorem grownBy_set (w : World) (b o : Nat) (v : Value) : w.grownBy (w.setCell ⟨b, o, none⟩ v) (some b) :=
  ⟨rfl, rfl, rfl, by simp, fun k hk hne => Below.heap_setCell _ _ _ _ (fun e => hne (by rw [e]))⟩

theorem grownBy_trans {a b c : World} {row : Option Nat} (h : a.grownBy b row) (k : b.grownBy c row) : a.grownBy c row :=
  ⟨k.os.trans h.os, k.tape.trans h.tape, k.output.trans h.output, Nat.le_trans h.size k.size, fun i hi hne => (k.block i (Nat.lt_of_lt_of_le hi h.size) hne).trans (h.block i hi hne)⟩

theorem grownBy_drew {a b : World} {row : Option Nat} (h : a.grownBy b row) : a.grownBy b.drew row := ⟨h.os, h.tape, h.output, h.size, h.block⟩

end Go.Proofs.YtndphgidmlmkoaaDoor

namespace Go.Proofs.YtndphgidmlmkoaaDoor
open Go.RowKit
set_option linter.unusedVariables false

/-- a reader of bytes, laid in block b: the bytes, the place, the seed -/
structure Cur (w : World) (b : Nat) (a : Option Addr) (len cap : Nat) (p : Int) : Prop where
  c0 : w.cell? ⟨b, 0, none⟩ = some (.slice a len cap)
  c1 : w.cell? ⟨b, 1, none⟩ = some (.int .i64 p)
  c2 : ∃ sd : Int, w.cell? ⟨b, 2, none⟩ = some (.int .u64 sd)
  f1 : w.frozen? ⟨b, 1, none⟩ = false
  f2 : w.frozen? ⟨b, 2, none⟩ = false
  hl : len ≤ maxLen
  row : ∀ i : Nat, i < len → ∃ (g off : Nat) (z : Int), a = some ⟨g, off, none⟩ ∧ g ≠ b ∧ w.cell? ⟨g, off + i, none⟩ = some (.int .u8 z) ∧ 0 ≤ z ∧ z ≤ 255

theorem Cur.lt {w : World} {b : Nat} {a : Option Addr} {len cap : Nat} {p : Int} (h : Cur w b a len cap p) : b < w.heap.size := World.block_lt_of_cell? _ _ h.c0

theorem Cur.drew {w : World} {b : Nat} {a : Option Addr} {len cap : Nat} {p : Int} (h : Cur w b a len cap p) : Cur w.drew b a len cap p := ⟨h.c0, h.c1, h.c2, h.f1, h.f2, h.hl, h.row⟩

/-- what leaves the reader's block and the bytes' block as they were leaves the reader -/
theorem Cur.kept {w w' : World} {b : Nat} {a : Option Addr} {len cap : Nat} {p : Int} {row : Option Nat} (h : Cur w b a len cap p) (hg : w.grownBy w' row) (hb : some b ≠ row) (ha : ∀ g off, a = some ⟨g, off, none⟩ → some g ≠ row) : Cur w' b a len cap p := by
  have hf : ∀ o, w'.frozen? ⟨b, o, none⟩ = w.frozen? ⟨b, o, none⟩ := fun o => World.frozen?_of_block (w := w) (hg.block b h.lt hb)
  obtain ⟨sd, c2⟩ := h.c2
  refine ⟨hg.cell h.c0 hb, hg.cell h.c1 hb, ⟨sd, hg.cell c2 hb⟩, by rw [hf]; exact h.f1, by rw [hf]; exact h.f2, h.hl, ?_⟩
  intro i hi
  obtain ⟨g, off, z, ea, hne, hc, z0, z1⟩ := h.row i hi
  exact ⟨g, off, z, ea, hne, hg.cell hc (ha g off ea), z0, z1⟩

theorem Cur.stepped {w : World} {b : Nat} {a : Option Addr} {len cap : Nat} {p : Int} (h : Cur w b a len cap p) (q v : Int) :
    Cur ((w.setCell ⟨b, 1, none⟩ (.int .i64 q)).setCell ⟨b, 2, none⟩ (.int .u64 v)) b a len cap q := by
  obtain ⟨sd, c2⟩ := h.c2
  have k2 : (w.setCell ⟨b, 1, none⟩ (.int .i64 q)).cell? ⟨b, 2, none⟩ = some (.int .u64 sd) := by rw [World.cell?_setCell_other _ _ _ _ (by simp)]; exact c2
  refine ⟨?_, ?_, ⟨v, World.cell?_setCell_same _ _ _ k2⟩, by simpa using h.f1, by simpa using h.f2, h.hl, ?_⟩
  · rw [World.cell?_setCell_other _ _ _ _ (by simp), World.cell?_setCell_other _ _ _ _ (by simp)]; exact h.c0
  · rw [World.cell?_setCell_other _ _ _ _ (by simp)]; exact World.cell?_setCell_same _ _ _ h.c1
  · intro i hi
    obtain ⟨g, off, z, ea, hne, hc, z0, z1⟩ := h.row i hi
    refine ⟨g, off, z, ea, hne, ?_, z0, z1⟩
    rw [World.cell?_setCell_other _ _ _ _ (fun e => hne (congrArg Addr.block e).symm), World.cell?_setCell_other _ _ _ _ (fun e => hne (congrArg Addr.block e).symm)]; exact hc

theorem grown_stepped (w : World) (b : Nat) (u v : Value) : w.grownBy ((w.setCell ⟨b, 1, none⟩ u).setCell ⟨b, 2, none⟩ v) (some b) :=
  grownBy_trans (grownBy_set w b 1 u) (grownBy_set _ b 2 v)

theorem and255u (x : Int) : 0 ≤ wrap64 (bits .and .u64 x 255) ∧ wrap64 (bits .and .u64 x 255) ≤ 255 := by
  have e : bits .and .u64 x 255 = x % 256 := by
    show IntKind.u64.wrap ((BitVec.ofInt 64 x &&& BitVec.ofInt 64 255).toNat : Int) = _
    rw [BitVec.toNat_and, BitVec.toNat_ofInt, show (BitVec.ofInt 64 255).toNat = 2 ^ 8 - 1 from by decide, Nat.and_two_pow_sub_one_eq_mod]
    simp only [IntKind.wrap, IntKind.bits, IntKind.signed]
    simp
    omega
  rw [e, IntWalk.wrap64_in _ ⟨by omega, by omega⟩]
  omega

theorem next_old (w : World) (b : Nat) (a : Option Addr) (len cap : Nat) (p : Int) (h : Cur w b a len cap p) (p0 : 0 ≤ p) (p1 : p ≤ 1000000) (hlt : (len : Int) ≤ p) :
    Calls Tryd.prog 52 #[.pointer (some ⟨b, 0, none⟩)] w fun e w' => ∃ r : Int, e = .returned (.int .i64 r) ∧ 0 ≤ r ∧ r ≤ 255 ∧ Cur w' b a len cap (p + 1) ∧ w.grownBy w' (some b) := by
  have K : Hid (Cur w b a len cap p) := h
  obtain ⟨c0, c1, ⟨sd, c2⟩, f1, f2, hl, row⟩ := h
  clear row
  unfold maxLen at hl
  go_enter Tryd.func52, Tryd.ntmps52
  go_wp2
  go_region
  go_wp2
  go_region
  go_wp2
  go_ret
  exact ⟨_, rfl, (and255u _).1, (and255u _).2, (Cur.stepped K.out _ _).drew.drew, grownBy_drew (grownBy_drew (grown_stepped _ _ _ _))⟩

theorem next_new (w : World) (b : Nat) (a : Option Addr) (len cap : Nat) (p : Int) (h : Cur w b a len cap p) (p0 : 0 ≤ p) (p1 : p ≤ 1000000) (hlt : p < (len : Int)) :
    Calls Tryd.prog 52 #[.pointer (some ⟨b, 0, none⟩)] w fun e w' => ∃ r : Int, e = .returned (.int .i64 r) ∧ 0 ≤ r ∧ r ≤ 255 ∧ Cur w' b a len cap (p + 1) ∧ w.grownBy w' (some b) := by
  have K : Hid (Cur w b a len cap p) := h
  obtain ⟨c0, c1, ⟨sd, c2⟩, f1, f2, hl, row⟩ := h
  obtain ⟨n, rfl⟩ := Int.eq_ofNat_of_zero_le p0
  obtain ⟨g, off, z, rfl, hne, hc, z0, z1⟩ := row n (by omega)
  clear row
  unfold maxLen at hl
  go_enter Tryd.func52, Tryd.ntmps52
  go_wp2
  go_region
  go_wp2
  go_region
  go_wp2
  go_region
  go_wp2
  go_ret
  exact ⟨_, rfl, z0, z1, (Cur.stepped K.out _ _).drew.drew.drew, grownBy_drew (grownBy_drew (grownBy_drew (grown_stepped _ _ _ _)))⟩

theorem next_any (w : World) (b : Nat) (a : Option Addr) (len cap : Nat) (p : Int) (h : Cur w b a len cap p) (p0 : 0 ≤ p) (p1 : p ≤ 1000000) :
    Calls Tryd.prog 52 #[.pointer (some ⟨b, 0, none⟩)] w fun e w' => ∃ r : Int, e = .returned (.int .i64 r) ∧ 0 ≤ r ∧ r ≤ 255 ∧ Cur w' b a len cap (p + 1) ∧ w.grownBy w' (some b) := by
  by_cases hlt : p < (len : Int)
  · exact next_new w b a len cap p h p0 p1 hlt
  · exact next_old w b a len cap p h p0 p1 (by omega)

end Go.Proofs.YtndphgidmlmkoaaDoor

namespace Go.Proofs.YtndphgidmlmkoaaDoor
open Go.RowKit
set_option linter.unusedVariables false

/-- behind a call of the reader's: at most k bytes more were read, and no block but the reader's has turned -/
def Went (w w' : World) (b : Nat) (a : Option Addr) (len cap : Nat) (p k : Int) : Prop :=
  w.grownBy w' (some b) ∧ ∃ q : Int, p ≤ q ∧ q ≤ p + k ∧ Cur w' b a len cap q

theorem Went.refl {w : World} {b : Nat} {a : Option Addr} {len cap : Nat} {p : Int} (h : Cur w b a len cap p) : Went w w b a len cap p 0 :=
  ⟨World.grownBy.refl _ _, p, by omega, by omega, h⟩
theorem Went.more {w w1 : World} {b : Nat} {a : Option Addr} {len cap : Nat} {p k m : Int} (h : Went w w1 b a len cap p k) (hm : k ≤ m) : Went w w1 b a len cap p m := by
  obtain ⟨g, r, r0, r1, c⟩ := h
  exact ⟨g, r, r0, by omega, c⟩

theorem pick (w : World) (b : Nat) (a : Option Addr) (len cap : Nat) (p n : Int) (h : Cur w b a len cap p) (p0 : 0 ≤ p) (p1 : p ≤ 900000) (n0 : 1 ≤ n) (n1 : n ≤ 1000000) :
    Calls Tryd.prog 25 #[.pointer (some ⟨b, 0, none⟩), .int .i64 n] w fun e w' => ∃ r : Int, e = .returned (.int .i64 r) ∧ 0 ≤ r ∧ r < n ∧ Went w w' b a len cap p 2 := by
  by_cases h1 : n ≤ 1
  · go_enter Tryd.func25, Tryd.ntmps25
    go_wp2_with fail
    go_ret
    exact ⟨0, rfl, by omega, by omega, (Went.refl h).more (by omega)⟩
  · by_cases h2 : 200 < n
    · go_enter Tryd.func25, Tryd.ntmps25
      go_wp2_with fail
      refine (next_any _ b a len cap p h p0 (by omega)).mono ?_
      rintro e w1 ⟨x, rfl, x0, x1, hc1, hg1⟩
      go_wp2_with fail
      refine (next_any _ b a len cap (p + 1) hc1 (by omega) (by omega)).mono ?_
      rintro e w2 ⟨y, rfl, y0, y1, hc2, hg2⟩
      have b0 := Int.emod_nonneg (x * 256 + y) (show n ≠ 0 by omega)
      have b1 := Int.emod_lt_of_pos (x * 256 + y) (show 0 < n by omega)
      go_wp2_with fail
      go_ret
      exact ⟨_, rfl, b0, b1, grownBy_trans hg1 hg2, p + 1 + 1, by omega, by omega, hc2⟩
    · go_enter Tryd.func25, Tryd.ntmps25
      go_wp2_with fail
      refine (next_any _ b a len cap p h p0 (by omega)).mono ?_
      rintro e w1 ⟨x, rfl, x0, x1, hc1, hg1⟩
      have b0 := Int.emod_nonneg x (show n ≠ 0 by omega)
      have b1 := Int.emod_lt_of_pos x (show 0 < n by omega)
      go_wp2_with fail
      go_ret
      exact ⟨_, rfl, b0, b1, hg1, p + 1, by omega, by omega, hc1⟩

theorem one (w : World) (b : Nat) (a : Option Addr) (len cap : Nat) (p n : Int) (h : Cur w b a len cap p) (p0 : 0 ≤ p) (p1 : p ≤ 900000) (n0 : 1 ≤ n) (n1 : n ≤ 1000000) :
    Calls Tryd.prog 23 #[.pointer (some ⟨b, 0, none⟩), .int .i64 n] w fun e w' => ∃ r : Bool, e = .returned (.bool r) ∧ Went w w' b a len cap p 2 := by
  go_enter Tryd.func23, Tryd.ntmps23
  go_wp2_with fail
  refine (pick _ b a len cap p n h p0 p1 n0 n1).mono ?_
  rintro e w1 ⟨x, rfl, x0, x1, hw⟩
  go_wp2_with fail
  go_ret
  exact ⟨_, rfl, hw⟩

theorem among (w : World) (b : Nat) (a : Option Addr) (len cap : Nat) (p : Int) (g k c : Nat) (lo hi : Int) (h : Cur w b a len cap p) (p0 : 0 ≤ p) (p1 : p ≤ 900000) (k0 : 1 ≤ k) (k1 : k ≤ 1000) (hne : g ≠ b)
    (hz : ∀ i : Nat, i < k → ∃ z : Int, w.cell? ⟨g, i, none⟩ = some (.int .i64 z) ∧ lo ≤ z ∧ z ≤ hi) :
    Calls Tryd.prog 51 #[.pointer (some ⟨b, 0, none⟩), .slice (some ⟨g, 0, none⟩) k c] w fun e w' => ∃ r : Int, e = .returned (.int .i64 r) ∧ lo ≤ r ∧ r ≤ hi ∧ Went w w' b a len cap p 2 := by
  go_enter Tryd.func51, Tryd.ntmps51
  go_wp2_with fail
  refine (pick _ b a len cap p _ h p0 p1 (by omega) (by omega)).mono ?_
  rintro e w1 ⟨x, rfl, x0, x1, hw⟩
  obtain ⟨n, rfl⟩ := Int.eq_ofNat_of_zero_le x0
  obtain ⟨z, hc, z0, z1⟩ := hz n (by omega)
  have hc1 : w1.cell? ⟨g, n, none⟩ = some (.int .i64 z) := hw.1.cell hc (by simpa using hne)
  clear hc hz
  go_wp2_with fail
  go_ret
  exact ⟨_, rfl, z0, z1, hw⟩

end Go.Proofs.YtndphgidmlmkoaaDoor

namespace Go.Proofs.YtndphgidmlmkoaaDoor
open Go.RowKit
set_option linter.unusedVariables false

theorem Cur.alloc {w : World} {b : Nat} {a : Option Addr} {len cap : Nat} {p : Int} (h : Cur w b a len cap p) (o : Obj) : Cur (w.alloc o) b a len cap p :=
  h.kept (World.grownBy_alloc w o none) (by simp) (by simp)

theorem lits (w : World) (xs : List Int) (lo hi : Int) (h : ∀ x ∈ xs, lo ≤ x ∧ x ≤ hi) (i : Nat) (hl : i < xs.length) :
    ∃ z : Int, (w.alloc (.cells (xs.map (Value.int .i64)).toArray 3)).cell? ⟨w.heap.size, i, none⟩ = some (.int .i64 z) ∧ lo ≤ z ∧ z ≤ hi := by
  refine ⟨xs[i], ?_, h _ (List.getElem_mem hl)⟩
  rw [World.cell?_alloc_new]
  simp [hl]

theorem Went.alloc {w w' : World} {o : Obj} {b : Nat} {a : Option Addr} {len cap : Nat} {p k : Int} (h : Went (w.alloc o) w' b a len cap p k) : Went w w' b a len cap p k := by
  obtain ⟨g, r⟩ := h
  exact ⟨grownBy_trans (World.grownBy_alloc w o _) g, r⟩

/-- bytes that came in: each of the first len cells holds one -/
def Bytes (w : World) (a : Option Addr) (len : Nat) : Prop :=
  len ≤ maxLen ∧ ∀ i : Nat, i < len → ∃ (g off : Nat) (z : Int), a = some ⟨g, off, none⟩ ∧ w.cell? ⟨g, off + i, none⟩ = some (.int .u8 z) ∧ 0 ≤ z ∧ z ≤ 255

theorem Bytes.cur {w : World} {a : Option Addr} {len : Nat} (h : Bytes w a len) (cap : Nat) : Cur (w.alloc (.cells #[.slice a len cap, .int .i64 0, .int .u64 0] 46)) w.heap.size a len cap 0 := by
  obtain ⟨hl, hr⟩ := h
  refine ⟨by simp, by simp, ⟨0, by simp⟩, by simp, by simp, hl, ?_⟩
  intro i hi
  obtain ⟨g, off, z, ea, hc, z0, z1⟩ := hr i hi
  have hg : g < w.heap.size := World.block_lt_of_cell? _ _ hc
  exact ⟨g, off, z, ea, by omega, by rw [World.cell?_alloc_lt _ _ _ hg]; exact hc, z0, z1⟩

theorem bytesOfRow {w : World} {a : Option Addr} {len cap : Nat} {zs : List Int} (h : (a = none ∧ len = 0 ∧ cap = 0 ∧ zs = []) ∨
    ∃ x, a = some x ∧ len ≤ cap ∧ cap ≤ maxLen ∧ zs.length = cap ∧ (∀ i, i < zs.length → w.cell? (x.add i) = some (.int .u8 (zs.getD i 0))) ∧ ∀ n ∈ zs, (Lit.int .u8 n).wf = true) : Bytes w a len := by
  rcases h with ⟨_, rfl, _, _⟩ | ⟨x, rfl, hl, hm, hz, hcell, hwz⟩
  · exact ⟨Nat.zero_le _, fun i hi => absurd hi (Nat.not_lt_zero i)⟩
  · refine ⟨Nat.le_trans hl hm, fun i hi => ?_⟩
    obtain ⟨g, off, spot⟩ := x
    have hspot : spot = none := by simpa [Addr.add] using World.cell?_spot (hcell 0 (by omega))
    subst hspot
    have hi2 : i < zs.length := by omega
    have hc : w.cell? ⟨g, off + i, none⟩ = some (.int .u8 (zs.getD i 0)) := by
      have hc := hcell i hi2
      by_cases h0 : i = 0
      · subst h0; simpa [Addr.add] using hc
      · simpa [Addr.add, h0] using hc
    have hmem : zs.getD i 0 ∈ zs := by simp [List.getD, hi2]
    have hb := bounds_u8 (hwz _ hmem)
    exact ⟨g, off, zs.getD i 0, rfl, hc, hb.1, hb.2⟩

theorem below_of {w w' : World} {o : Obj} (hg : (w.alloc o).grownBy w' (some w.heap.size)) : Below w.heap.size w w' :=
  ⟨hg.os, hg.tape, hg.output, by have := hg.size; simp at this; omega, fun k hk => (hg.block k (by simp; omega) (by simp; omega)).trans (Below.heap_alloc _ _ _ hk)⟩

theorem Bytes.kept {w w' : World} {a : Option Addr} {len : Nat} (h : Bytes w a len) (hb : Below w.heap.size w w') : Bytes w' a len := by
  refine ⟨h.1, fun i hi => ?_⟩
  obtain ⟨g, off, z, ea, hc, z0, z1⟩ := h.2 i hi
  exact ⟨g, off, z, ea, by rw [hb.cell (World.block_lt_of_cell? _ _ hc)]; exact hc, z0, z1⟩

theorem Cur.kept2 {w w' : World} {b : Nat} {a : Option Addr} {len cap : Nat} {p : Int} {row : Option Nat} (h : Cur w b a len cap p) (hg : w.grownBy w' row) (hb : some b ≠ row) (ha : ∀ g off, 0 < len → a = some ⟨g, off, none⟩ → some g ≠ row) : Cur w' b a len cap p := by
  have hf : ∀ o, w'.frozen? ⟨b, o, none⟩ = w.frozen? ⟨b, o, none⟩ := fun o => World.frozen?_of_block (w := w) (hg.block b h.lt hb)
  obtain ⟨sd, c2⟩ := h.c2
  refine ⟨hg.cell h.c0 hb, hg.cell h.c1 hb, ⟨sd, hg.cell c2 hb⟩, by rw [hf]; exact h.f1, by rw [hf]; exact h.f2, h.hl, ?_⟩
  intro i hi
  obtain ⟨g, off, z, ea, hne, hc, z0, z1⟩ := h.row i hi
  exact ⟨g, off, z, ea, hne, hg.cell hc (ha g off (by omega) ea), z0, z1⟩

end Go.Proofs.YtndphgidmlmkoaaDoor

namespace Go.Proofs.YtndphgidmlmkoaaDoor
open Go.RowKit
set_option linter.unusedVariables false
theorem value (w : World) (b : Nat) (a : Option Addr) (len cap : Nat) (p : Int) (h : Cur w b a len cap p) (p0 : 0 ≤ p) (p1 : p ≤ 800000) :
    Calls Tryd.prog 24 #[.pointer (some ⟨b, 0, none⟩)] w fun e w' => ∃ r : Int, e = .returned (.int .i64 r) ∧ -1 ≤ r ∧ r ≤ 65536 ∧ Went w w' b a len cap p 8 := by
  go_enter Tryd.func24, Tryd.ntmps24
  go_wp2_with fail
  refine (one _ b a len cap p 2 h p0 (by omega) (by omega) (by omega)).mono ?_
  rintro e w1 ⟨x, rfl, hg1, q1, q10, q11, hc1⟩
  cases x
  · go_wp2_with fail
    refine (pick _ b a len cap q1 256 hc1 (by omega) (by omega) (by omega) (by omega)).mono ?_
    rintro e w2 ⟨x, rfl, x0, x1, hg2, q2, q20, q21, hc2⟩
    go_wp2_with fail
    refine (pick _ b a len cap q2 2 hc2 (by omega) (by omega) (by omega) (by omega)).mono ?_
    rintro e w3 ⟨y, rfl, y0, y1, hg3, q3, q30, q31, hc3⟩
    obtain rfl | rfl : y = 0 ∨ y = 1 := by omega
    all_goals
      go_wp2_with fail
      refine (pick _ b a len cap q3 256 hc3 (by omega) (by omega) (by omega) (by omega)).mono ?_
      rintro e w4 ⟨z, rfl, z0, z1, hg4, q4, q40, q41, hc4⟩
      go_wp2_with fail
      go_ret
      exact ⟨_, rfl, by omega, by omega, grownBy_trans (grownBy_trans (grownBy_trans hg1 hg2) hg3) hg4, q4, by omega, by omega, hc4⟩
  · have hlt := hc1.lt
    go_wp2_with fail
    refine (among _ b a len cap q1 _ _ _ (-1) 65536 (hc1.alloc _) (by omega) (by omega) (by decide) (by decide) (by omega) (lits w1 [0, 1, 127, 128, 255, 256, 32767, 32768, 65535, 65536, -1] (-1) 65536 (by decide))).mono ?_
    rintro e w2 ⟨x, rfl, x0, x1, hw⟩
    obtain ⟨hg2, q2, q20, q21, hc2⟩ := hw.alloc
    go_wp2_with fail
    go_ret
    exact ⟨_, rfl, x0, x1, grownBy_trans hg1 hg2, q2, by omega, by omega, hc2⟩
end Go.Proofs.YtndphgidmlmkoaaDoor

namespace Go.Proofs.YtndphgidmlmkoaaDoor
open Go.RowKit
set_option linter.unusedVariables false

/-- a list of whole numbers lies in memory from address a on -/
def IRow (w : World) (a : Option Addr) (xs : List Int) : Prop :=
  ∀ i : Nat, i < xs.length → ∃ g off : Nat, a = some ⟨g, off, none⟩ ∧ w.cell? ⟨g, off + i, none⟩ = some (iv (xs[i]?.getD 0))

theorem IRow.kept {w w' : World} {a : Option Addr} {xs : List Int} (h : IRow w a xs) (hg : w.grownBy w' none) : IRow w' a xs := by
  intro i hi
  obtain ⟨g, off, ea, hc⟩ := h i hi
  exact ⟨g, off, ea, hg.cell hc (by simp)⟩

theorem ext_of {xs ys : List Int} (hl : xs.length = ys.length) (h : ∀ i, i < xs.length → xs[i]?.getD 0 = ys[i]?.getD 0) : xs = ys := by
  apply List.ext_getElem hl
  intro i h1 h2
  have := h i h1
  simpa [h1, h2] using this

theorem snoc_all {p : Nat → Prop} {k : Nat} (h : ∀ i, i < k → p i) (hk : p k) : ∀ i, i < k + 1 → p i := by
  intro i hi
  by_cases e : i = k
  · rw [e]; exact hk
  · exact h i (by omega)

end Go.Proofs.YtndphgidmlmkoaaDoor

namespace Go.Proofs.YtndphgidmlmkoaaDoor
open Go.RowKit
set_option linter.unusedVariables false

/-- a list of whole numbers that may be written, from the head of block g on -/
def Own (w : World) (g : Nat) (xs : List Int) : Prop :=
  ∀ i : Nat, i < xs.length → w.cell? ⟨g, i, none⟩ = some (iv (xs[i]?.getD 0)) ∧ w.frozen? ⟨g, i, none⟩ = false

theorem Own.kept {w w' : World} {g : Nat} {xs : List Int} {row : Option Nat} (h : Own w g xs) (hg : w.grownBy w' row) (hne : some g ≠ row) : Own w' g xs := by
  intro i hi
  obtain ⟨hc, hf⟩ := h i hi
  exact ⟨hg.cell hc hne, by rw [World.frozen?_of_block (w := w) (hg.block g (World.block_lt_of_cell? _ _ hc) hne)]; exact hf⟩

theorem Own.row {w : World} {g : Nat} {xs : List Int} (h : Own w g xs) : IRow w (some ⟨g, 0, none⟩) xs := by
  intro i hi
  exact ⟨g, 0, rfl, by simpa using (h i hi).1⟩

theorem Own.set {w : World} {g k : Nat} {xs : List Int} (h : Own w g xs) (z : Int) : Own (w.setCell ⟨g, k, none⟩ (iv z)) g (xs.set k z) := by
  intro i hi
  rw [List.length_set] at hi
  obtain ⟨hc, hf⟩ := h i hi
  refine ⟨?_, by simpa using hf⟩
  by_cases e : k = i
  · subst e
    rw [World.cell?_setCell_same _ _ _ hc]
    simp [hi]
  · rw [World.cell?_setCell_other _ _ _ _ (fun q => e (congrArg Addr.off q)), hc]
    simp [e]

theorem own_of_row {w : World} {base g n cap : Nat} {xs : List Int} (h : w.ownsRow base 3 1 (.slice (some ⟨g, 0, none⟩) n cap) n (xs.map (Value.int .i64))) : Own w g xs := by
  intro i hi
  have hc := h.cells (g := g) rfl i (iv (xs[i]?.getD 0)) (by simp [hi])
  have hadd : (⟨g, 0, none⟩ : Addr).add i = ⟨g, i, none⟩ := by unfold Addr.add; split <;> simp_all
  rw [hadd] at hc
  refine ⟨hc, ?_⟩
  rcases h.2 with ⟨e, _⟩ | ⟨g', cap', cur, e, _, hgg, _⟩
  · cases e
  · cases e
    simp [World.frozen?, hgg]

theorem Tryd.info3 : (Tryd.prog.info? 3).map (fun i => (i.zero, i.size, i.bytes)) = some (some (iv 0), 1, 8) := by kernel_rfl

end Go.Proofs.YtndphgidmlmkoaaDoor

namespace Go.Proofs.YtndphgidmlmkoaaDoor
open Go.RowKit
set_option linter.unusedVariables false

def Wide (xs : List Int) : Prop := ∀ i : Nat, i < xs.length → -9223372036854775808 ≤ xs[i]?.getD 0 ∧ xs[i]?.getD 0 ≤ 9223372036854775807

end Go.Proofs.YtndphgidmlmkoaaDoor

namespace Go.Proofs.YtndphgidmlmkoaaDoor
open Go.RowKit
set_option linter.unusedVariables false

/-- the number at a place of a row -/
def el (xs : List Int) (i : Nat) : Int := xs[i]?.getD 0
theorem grownBy_alloc {a b : World} {row : Option Nat} (h : a.grownBy b row) (o : Obj) : a.grownBy (b.alloc o) row :=
  ⟨h.os, h.tape, h.output, Nat.le_trans h.size (by simp), fun k hk hne => (Below.heap_alloc _ _ _ (Nat.lt_of_lt_of_le hk h.size)).trans (h.block k hk hne)⟩
theorem results_one {fn : Func} {p : Tmp} {ty : TypeId} (h : fn.results = #[.cell p ty]) (tmps : Array Value) (P : Program) (w : World) :
    (results fn tmps).run P w = ((asAddr (tmps.getD p undef)).run P w).andThen fun a w₁ => (loadVar ty a).run P w₁ := by
  simp only [results, h]
  simp [Sem.run_bind, Result.andThen]
/-- of the blocks that were there those outside a span are as they were -/
structure Kept (lo hi : Nat) (w w' : World) : Prop where
  os : w'.os = w.os
  tape : w'.tape = w.tape
  output : w'.output = w.output
  size : w.heap.size ≤ w'.heap.size
  block : ∀ k, k < w.heap.size → ¬ (lo ≤ k ∧ k < hi) → w'.heap[k]? = w.heap[k]?

theorem Kept.refl (lo hi : Nat) (w : World) : Kept lo hi w w := ⟨rfl, rfl, rfl, Nat.le_refl _, fun _ _ _ => rfl⟩
theorem Kept.trans {lo hi : Nat} {a b c : World} (h : Kept lo hi a b) (k : Kept lo hi b c) : Kept lo hi a c :=
  ⟨k.os.trans h.os, k.tape.trans h.tape, k.output.trans h.output, Nat.le_trans h.size k.size, fun i hi hn => (k.block i (Nat.lt_of_lt_of_le hi h.size) hn).trans (h.block i hi hn)⟩
theorem kept_below {w w' : World} (h : Below w.heap.size w w') : Kept 0 0 w w' := ⟨h.os, h.tape, h.output, h.size, fun k hk _ => h.block k hk⟩
theorem Kept.below {w w' : World} (h : Kept 0 0 w w') : Below w.heap.size w w' := ⟨h.os, h.tape, h.output, h.size, fun k hk => h.block k hk (by omega)⟩
theorem Kept.grown {w w' : World} (h : Kept 0 0 w w') : w.grownBy w' none := ⟨h.os, h.tape, h.output, h.size, fun k hk _ => h.block k hk (by omega)⟩
theorem kept_row {w w' : World} {row : Option Nat} {lo hi : Nat} (h : w.grownBy w' row) (hr : ∀ g, row = some g → lo ≤ g ∧ g < hi) : Kept lo hi w w' :=
  ⟨h.os, h.tape, h.output, h.size, fun k hk hn => h.block k hk (fun e => hn (hr k e.symm))⟩
theorem kept_alloc (w : World) (o : Obj) : Kept 0 0 w (w.alloc o) := kept_below ((Below.refl _ w).alloc (Nat.le_refl _) o)
theorem kept_drew {lo hi : Nat} {w w' : World} (h : Kept lo hi w w') : Kept lo hi w w'.drew := ⟨h.os, h.tape, h.output, h.size, h.block⟩
theorem kept_drewN {lo hi : Nat} {w w' : World} (h : Kept lo hi w w') (n : Nat) : Kept lo hi w (w'.drewN n) := ⟨h.os, h.tape, h.output, h.size, h.block⟩
/-- what was there when the law began is as it was -/
theorem below_kept {w w1 w2 : World} {lo hi : Nat} (h : Below w.heap.size w w1) (k : Kept lo hi w1 w2) (hl : w.heap.size ≤ lo ∨ hi ≤ lo) : Below w.heap.size w w2 :=
  ⟨k.os.trans h.os, k.tape.trans h.tape, k.output.trans h.output, Nat.le_trans h.size k.size, fun i hi => (k.block i (Nat.lt_of_lt_of_le hi h.size) (by omega)).trans (h.block i hi)⟩

theorem Own.keptS {w w' : World} {g : Nat} {xs : List Int} {lo hi : Nat} (h : Own w g xs) (k : Kept lo hi w w') (hn : ¬ (lo ≤ g ∧ g < hi)) : Own w' g xs := by
  intro i hi'
  obtain ⟨hc, hf⟩ := h i hi'
  have e := k.block g (World.block_lt_of_cell? _ _ hc) hn
  exact ⟨by rw [World.cell?_of_block (w := w) e]; exact hc, by rw [World.frozen?_of_block (w := w) e]; exact hf⟩

/-- a list at address a: nil, or from the head of a block of the span on -/
def SlotIn (w : World) (lo hi : Nat) (a : Option Addr) (xs : List Int) : Prop :=
  (a = none ∧ xs = []) ∨ ∃ g : Nat, a = some ⟨g, 0, none⟩ ∧ lo ≤ g ∧ g < hi ∧ Own w g xs
theorem SlotIn.kept {w w' : World} {l h lo hi : Nat} {a : Option Addr} {xs : List Int} (s : SlotIn w l h a xs) (k : Kept lo hi w w') (hd : h ≤ lo ∨ hi ≤ l ∨ hi ≤ lo) : SlotIn w' l h a xs := by
  rcases s with s | ⟨g, ea, g0, g1, ho⟩
  · exact .inl s
  · exact .inr ⟨g, ea, g0, g1, ho.keptS k (by omega)⟩
theorem SlotIn.wide {w : World} {l h l' h' : Nat} {a : Option Addr} {xs : List Int} (s : SlotIn w l h a xs) (hl : l' ≤ l) (hh : h ≤ h') : SlotIn w l' h' a xs := by
  rcases s with s | ⟨g, ea, g0, g1, ho⟩
  · exact .inl s
  · exact .inr ⟨g, ea, by omega, by omega, ho⟩
theorem SlotIn.row {w : World} {l h : Nat} {a : Option Addr} {xs : List Int} (s : SlotIn w l h a xs) : IRow w a xs := by
  rcases s with ⟨_, rfl⟩ | ⟨g, rfl, _, _, ho⟩
  · intro i hi; exact absurd hi (Nat.not_lt_zero i)
  · exact ho.row
/-- a block that holds these cells -/
def Blk (w : World) (b : Nat) (cs : Array Value) (ty : TypeId) : Prop := w.heap[b]? = some (.cells cs ty)
theorem Blk.lt {w : World} {b : Nat} {cs : Array Value} {ty : TypeId} (h : Blk w b cs ty) : b < w.heap.size := by
  unfold Blk at h
  rcases Nat.lt_or_ge b w.heap.size with h' | h'
  · exact h'
  · rw [Array.getElem?_eq_none h'] at h; cases h
theorem Blk.kept {w w' : World} {b : Nat} {cs : Array Value} {ty : TypeId} {lo hi : Nat} (h : Blk w b cs ty) (k : Kept lo hi w w') (hn : ¬ (lo ≤ b ∧ b < hi)) : Blk w' b cs ty := (k.block b h.lt hn).trans h
theorem Blk.kept0 {w w' : World} {b : Nat} {cs : Array Value} {ty : TypeId} (h : Blk w b cs ty) (k : Kept 0 0 w w') : Blk w' b cs ty := h.kept k (by omega)
theorem Blk.cell {w : World} {b : Nat} {cs : Array Value} {ty : TypeId} (h : Blk w b cs ty) {i : Nat} {v : Value} (hi : cs[i]? = some v) : w.cell? ⟨b, i, none⟩ = some v := by
  unfold Blk at h
  simp [World.cell?, h, hi]
theorem Blk.frozen {w : World} {b : Nat} {cs : Array Value} {ty : TypeId} (h : Blk w b cs ty) (i : Nat) : w.frozen? ⟨b, i, none⟩ = false := by
  unfold Blk at h
  simp [World.frozen?, h]
theorem Blk.set {w : World} {b : Nat} {cs : Array Value} {ty : TypeId} (h : Blk w b cs ty) (i : Nat) (v : Value) : Blk (w.setCell ⟨b, i, none⟩ v) b (cs.setIfInBounds i v) ty := by
  unfold Blk at h ⊢
  simp [World.setCell, Array.getElem?_modify, h]
theorem Blk.other {w : World} {b : Nat} {cs : Array Value} {ty : TypeId} (h : Blk w b cs ty) (c i : Nat) (v : Value) (hn : b ≠ c) : Blk (w.setCell ⟨c, i, none⟩ v) b cs ty :=
  (Below.heap_setCell _ _ _ _ (by simpa using hn)).trans h
theorem Blk.new (w : World) (cs : Array Value) (ty : TypeId) : Blk (w.alloc (.cells cs ty)) w.heap.size cs ty := heap_alloc_new w _
theorem Blk.alloc {w : World} {b : Nat} {cs : Array Value} {ty : TypeId} (h : Blk w b cs ty) (o : Obj) : Blk (w.alloc o) b cs ty := (Below.heap_alloc _ _ _ h.lt).trans h
/-- a store into a block of the span -/
theorem kept_set {w w' : World} {lo hi : Nat} (h : Kept lo hi w w') (b i : Nat) (v : Value) (hb : (lo ≤ b ∧ b < hi) ∨ w.heap.size ≤ b) : Kept lo hi w (w'.setCell ⟨b, i, none⟩ v) :=
  ⟨h.os, h.tape, h.output, by simpa using h.size, fun k hk hn => (Below.heap_setCell _ _ _ _ (by simp; omega)).trans (h.block k hk hn)⟩
theorem kept_new {w w' : World} {lo hi : Nat} (h : Kept lo hi w w') (o : Obj) : Kept lo hi w (w'.alloc o) :=
  ⟨h.os, h.tape, h.output, Nat.le_trans h.size (by simp), fun k hk hn => (Below.heap_alloc _ _ _ (Nat.lt_of_lt_of_le hk h.size)).trans (h.block k hk hn)⟩
theorem IRow.keptS {w w' : World} {a : Option Addr} {xs : List Int} (h : IRow w a xs) (k : Kept 0 0 w w') : IRow w' a xs := h.kept k.grown

/-- a row of numbers that the kind int holds, at address a -/
def Came (w : World) (a : Option Addr) (xs : List Int) : Prop := IRow w a xs ∧ Wide xs
theorem news_of {w : World} {g off : Nat} {xs : List Int} (h : IRow w (some ⟨g, off, none⟩) xs) : ∀ j u, (xs.map (Value.int .i64))[j]? = some u → w.cell? ((⟨g, off, none⟩ : Addr).add j) = some u := by
  intro j u hu
  have hj : j < xs.length := by
    rcases Nat.lt_or_ge j xs.length with h' | h'
    · exact h'
    · rw [List.getElem?_eq_none (by simpa using h')] at hu; cases hu
  obtain ⟨g', off', e, hc⟩ := h j hj
  cases e
  have e : u = iv (xs[j]?.getD 0) := by simpa [hj] using hu.symm
  rw [e]
  by_cases h0 : j = 0
  · subst h0; simpa [Addr.add] using hc
  · simpa [Addr.add, h0] using hc
theorem news_one {xs : List Int} : ∀ u ∈ xs.map (Value.int .i64), u.oneCell' = true := by
  intro u hu
  obtain ⟨z, _, rfl⟩ := List.mem_map.1 hu
  rfl
namespace Pl
end Pl
/-- a row of numbers as an array's cells -/
def cellsOf (xs : List Int) : Array Value := (xs.map (Value.int .i64)).toArray
theorem own_of_blk {w : World} {g : Nat} {xs : List Int} {e : TypeId} (h : Blk w g (cellsOf xs) e) : Own w g xs := by
  intro i hi
  refine ⟨h.cell (by simp [cellsOf, hi]), h.frozen i⟩
theorem kept_over {w W W' : World} {lo hi : Nat} (k : Kept 0 0 w W) (h : Kept lo hi W W') (hg : w.heap.size ≤ lo) : Kept 0 0 w W' :=
  ⟨h.os.trans k.os, h.tape.trans k.tape, h.output.trans k.output, Nat.le_trans k.size h.size, fun i hi hn => (h.block i (Nat.lt_of_lt_of_le hi k.size) (by omega)).trans (k.block i hi hn)⟩
theorem Blk.all {w : World} {b : Nat} {cs : Array Value} {ty : TypeId} (h : Blk w b cs ty) (i : Nat) : w.cell? ⟨b, i, none⟩ = cs[i]? := by
  have e : w.heap[b]? = some (.cells cs ty (0, 0)) := h
  unfold World.cell?
  dsimp only
  rw [e]
  simp
end Go.Proofs.YtndphgidmlmkoaaDoor

namespace Go.Proofs.YtndphgidmlmkoaaDoor
open Go.RowKit
set_option linter.unusedVariables false
theorem grown_new1 {w W : World} {row : Option Nat} (h : w.grownBy W row) (g i : Nat) (v : Value) (hg : w.heap.size ≤ g) : w.grownBy (W.setCell ⟨g, i, none⟩ v) row :=
  ⟨h.os, h.tape, h.output, by simpa using h.size, fun j hj hne => (Below.heap_setCell _ _ _ _ (by simp; omega)).trans (h.block j hj hne)⟩
theorem Cur.setNew {w0 w : World} {b : Nat} {a : Option Addr} {len cap : Nat} {p p' : Int} (h0 : Cur w0 b a len cap p') (h : Cur w b a len cap p) (g i : Nat) (v : Value) (hg : w0.heap.size ≤ g) : Cur (w.setCell ⟨g, i, none⟩ v) b a len cap p := by
  have hb := h0.lt
  refine h.kept2 (row := some g) ⟨rfl, rfl, rfl, by simp, fun k hk hn => Below.heap_setCell _ _ _ _ (fun e => hn (congrArg some e))⟩ (by simp; omega) ?_
  intro g0 off hl e
  obtain ⟨g1, o1, z, ea, _, hc, _⟩ := h0.row 0 hl
  rw [e] at ea
  cases ea
  have := World.block_lt_of_cell? _ _ hc
  simp at this ⊢
  omega
theorem Went.setNew {w W : World} {b : Nat} {a : Option Addr} {len cap : Nat} {p k p' : Int} (h : Went w W b a len cap p k) (h0 : Cur w b a len cap p') (g i : Nat) (v : Value) (hg : w.heap.size ≤ g) : Went w (W.setCell ⟨g, i, none⟩ v) b a len cap p k := by
  obtain ⟨h1, q, h2, h3, h4⟩ := h
  exact ⟨grown_new1 h1 g i v hg, q, h2, h3, h0.setNew h4 g i v hg⟩
theorem Went.allocW {w W : World} {b : Nat} {a : Option Addr} {len cap : Nat} {p k : Int} (h : Went w W b a len cap p k) (o : Obj) : Went w (W.alloc o) b a len cap p k := by
  obtain ⟨h1, q, h2, h3, h4⟩ := h
  exact ⟨grownBy_alloc h1 o, q, h2, h3, h4.alloc o⟩
theorem Went.step {w W w' : World} {b : Nat} {a : Option Addr} {len cap : Nat} {p q k l : Int} (h1 : w.grownBy W (some b)) (h2 : p ≤ q) (h3 : q ≤ p + k) (h : Went W w' b a len cap q l) : Went w w' b a len cap p (k + l) := by
  obtain ⟨g, r, r0, r1, c⟩ := h
  exact ⟨grownBy_trans h1 g, r, by omega, by omega, c⟩
theorem Blk.by2 {w w' : World} {b : Nat} {cs : Array Value} {ty : TypeId} {row : Option Nat} (h : Blk w b cs ty) (k : w.grownBy w' row) (hn : row ≠ some b) : Blk w' b cs ty := (k.block b h.lt (fun e => hn e.symm)).trans h
section
variable {w W : World} {b : Nat} {a : Option Addr} {len cap : Nat} {p k : Int}
theorem pickW (h : Went w W b a len cap p k) (p0 : 0 ≤ p) (p1 : p + k ≤ 800000) (n : Int) (n0 : 1 ≤ n) (n1 : n ≤ 1000000) :
    Calls Tryd.prog 25 #[.pointer (some ⟨b, 0, none⟩), .int .i64 n] W fun e w' => ∃ r : Int, e = .returned (.int .i64 r) ∧ 0 ≤ r ∧ r < n ∧ Went w w' b a len cap p (k + 2) ∧ W.grownBy w' (some b) := by
  obtain ⟨h1, q, h2, h3, h4⟩ := h
  refine (pick W b a len cap q n h4 (by omega) (by omega) n0 n1).mono ?_
  rintro e w' ⟨r, he, r0, r1, hw⟩
  exact ⟨r, he, r0, r1, Went.step h1 h2 h3 hw, hw.1⟩
theorem oneW (h : Went w W b a len cap p k) (p0 : 0 ≤ p) (p1 : p + k ≤ 800000) (n : Int) (n0 : 1 ≤ n) (n1 : n ≤ 1000000) :
    Calls Tryd.prog 23 #[.pointer (some ⟨b, 0, none⟩), .int .i64 n] W fun e w' => ∃ r : Bool, e = .returned (.bool r) ∧ Went w w' b a len cap p (k + 2) ∧ W.grownBy w' (some b) := by
  obtain ⟨h1, q, h2, h3, h4⟩ := h
  refine (one W b a len cap q n h4 (by omega) (by omega) n0 n1).mono ?_
  rintro e w' ⟨r, he, hw⟩
  exact ⟨r, he, Went.step h1 h2 h3 hw, hw.1⟩
theorem amongW (h : Went w W b a len cap p k) (p0 : 0 ≤ p) (p1 : p + k ≤ 800000) (xs : List Int) (lo hi : Int) (hx : ∀ x ∈ xs, lo ≤ x ∧ x ≤ hi) (n c : Nat) (hn : n = xs.length) (k0 : 1 ≤ n) (k1 : n ≤ 1000) :
    Calls Tryd.prog 51 #[.pointer (some ⟨b, 0, none⟩), .slice (some ⟨W.heap.size, 0, none⟩) n c] (W.alloc (.cells (xs.map (Value.int .i64)).toArray 3)) fun e w' => ∃ r : Int, e = .returned (.int .i64 r) ∧ lo ≤ r ∧ r ≤ hi ∧ Went w w' b a len cap p (k + 2) ∧ W.grownBy w' (some b) := by
  obtain ⟨h1, q, h2, h3, h4⟩ := h
  have hb := h4.lt
  subst hn
  refine (among _ b a len cap q W.heap.size xs.length c lo hi (h4.alloc _) (by omega) (by omega) k0 k1 (by omega) (lits W xs lo hi hx)).mono ?_
  rintro e w' ⟨r, he, r0, r1, hw⟩
  exact ⟨r, he, r0, r1, Went.step h1 h2 h3 hw.alloc, (hw.alloc).1⟩
theorem valueW (h : Went w W b a len cap p k) (p0 : 0 ≤ p) (p1 : p + k ≤ 800000) :
    Calls Tryd.prog 24 #[.pointer (some ⟨b, 0, none⟩)] W fun e w' => ∃ r : Int, e = .returned (.int .i64 r) ∧ -1 ≤ r ∧ r ≤ 65536 ∧ Went w w' b a len cap p (k + 8) ∧ W.grownBy w' (some b) := by
  obtain ⟨h1, q, h2, h3, h4⟩ := h
  refine (value W b a len cap q h4 (by omega) (by omega)).mono ?_
  rintro e w' ⟨r, he, r0, r1, hw⟩
  exact ⟨r, he, r0, r1, Went.step h1 h2 h3 hw, hw.1⟩
end
end Go.Proofs.YtndphgidmlmkoaaDoor

namespace Go.Proofs.YtndphgidmlmkoaaDoor.Pl
set_option linter.unusedVariables false

def within (n lo hi : Int) : Bool := decide (lo ≤ n) && decide (n ≤ hi)
def wordOk (n : Int) : Bool := within n 0 65535
def extM (m : Int) : Bool := decide (5 ≤ m)
def modeOk (m : Int) : Bool := within m 0 7
def opOk (m r e : Int) : Bool := modeOk m && (within r 0 3 && ((decide (m < 6) || (r == 0)) && (wordOk e && (extM m || (e == 0)))))
def fl1 (b : Bool) (n : Int) : Int := if b then n else 0
end Go.Proofs.YtndphgidmlmkoaaDoor.Pl
namespace Go.Proofs.YtndphgidmlmkoaaDoor
end Go.Proofs.YtndphgidmlmkoaaDoor

namespace Go.Proofs.YtndphgidmlmkoaaDoor
open Go.RowKit
set_option linter.unusedVariables false

theorem l1Size_no (s : Int) (w : World) (h1 : ¬ s = 1) (h2 : ¬ s = 2) : Calls Tryd.prog 42 #[iv s] w fun e w' => e = .returned (.bool false) ∧ w' = w := by
  have k1 : (s == 1) = false := by simpa using h1
  have k2 : (s == 2) = false := by simpa using h2
  go_enter Tryd.func42, Tryd.ntmps42
  go_wp2
  go_ret
  exact ⟨rfl, rfl⟩

theorem l1Size1 (w : World) : Calls Tryd.prog 42 #[iv 1] w fun e w' => e = .returned (.bool true) ∧ w' = w := by
  go_enter Tryd.func42, Tryd.ntmps42
  go_wp2
  go_ret
  exact ⟨rfl, rfl⟩

theorem l1Size2 (w : World) : Calls Tryd.prog 42 #[iv 2] w fun e w' => e = .returned (.bool true) ∧ w' = w := by
  go_enter Tryd.func42, Tryd.ntmps42
  go_wp2
  go_ret
  exact ⟨rfl, rfl⟩
theorem specSize (z : Int) (w : World) : Calls Tryd.prog 42 #[iv z] w fun e w' => e = .returned (.bool (decide (z = 1) || decide (z = 2))) ∧ w' = w := by
  by_cases h1 : z = 1
  · subst h1; exact l1Size1 w
  · by_cases h2 : z = 2
    · subst h2; exact l1Size2 w
    · rw [show (decide (z = 1) || decide (z = 2)) = false from by simp [h1, h2]]; exact l1Size_no z w h1 h2
end Go.Proofs.YtndphgidmlmkoaaDoor

namespace Go.Proofs.YtndphgidmlmkoaaDoor
open Go.RowKit
set_option linter.unusedVariables false
theorem specWord (n : Int) (w : World) : Calls Tryd.prog 26 #[iv n] w fun e w' => e = .returned (.bool (Pl.wordOk n)) ∧ w' = w := by
  go_enter Tryd.func26, Tryd.ntmps26
  go_wp2_with (go_at_call 43; refine (l1In _ _ _ _).mono ?_; rintro e w' ⟨rfl, hw⟩; have hw2 := hw.symm; clear hw; subst hw2)
  go_ret
  exact ⟨rfl, rfl⟩
theorem specExtM (n : Int) (w : World) : Calls Tryd.prog 49 #[iv n] w fun e w' => e = .returned (.bool (Pl.extM n)) ∧ w' = w := by
  go_enter Tryd.func49, Tryd.ntmps49
  go_wp2
  go_ret
  exact ⟨rfl, rfl⟩
set_option maxHeartbeats 4000000 in
theorem specGoodOperand (w : World) (m k e : Int) :
    Calls Tryd.prog 44 #[.agg #[iv m, iv k, iv e]] w fun r w' => r = .returned (.bool (Pl.opOk m k e)) ∧ Kept 0 0 w w' := by
  have HK := hide (kept_alloc w (.cells #[iv m, iv k, iv e] 34))
  have G : Hid (Pl.opOk m k e = (Pl.modeOk m && (Pl.within k 0 3 && ((decide (m < 6) || (k == 0)) && (Pl.wordOk e && (Pl.extM m || (e == 0))))))) := hide rfl
  cases h1 : Pl.modeOk m
  · go_enter Tryd.func44, Tryd.ntmps44
    go_wp2_with (first | (go_at_call 43; refine (l1In _ _ _ _).mono ?_; rintro e w' ⟨rfl, hw⟩; have hw2 := hw.symm; clear hw; subst hw2; rw [show (decide (0 ≤ m) && decide (m ≤ 7)) = Pl.modeOk m from rfl, h1]; have Z1 : True := trivial))
    go_ret
    exact ⟨rB (by rw [G.out, h1]; simp), HK.out⟩
  · cases h2 : Pl.within k 0 3
    · go_enter Tryd.func44, Tryd.ntmps44
      go_wp2_with (first | (go_at_call 43; have z := Z1; refine (l1In _ _ _ _).mono ?_; rintro e w' ⟨rfl, hw⟩; have hw2 := hw.symm; clear hw; subst hw2; rw [show (decide (0 ≤ k) && decide (k ≤ 3)) = Pl.within k 0 3 from rfl, h2]) | (go_at_call 43; refine (l1In _ _ _ _).mono ?_; rintro e w' ⟨rfl, hw⟩; have hw2 := hw.symm; clear hw; subst hw2; rw [show (decide (0 ≤ m) && decide (m ≤ 7)) = Pl.modeOk m from rfl, h1]; have Z1 : True := trivial))
      go_ret
      exact ⟨rB (by rw [G.out, h1, h2]; simp), HK.out⟩
    · cases h3 : decide (6 ≤ m)
      · have q3 : decide (m < 6) = true := by simp at h3 ⊢; omega
        cases h4 : Pl.wordOk e
        · go_enter Tryd.func44, Tryd.ntmps44
          go_wp2_with (first | (go_at_call 43; have z := Z1; refine (l1In _ _ _ _).mono ?_; rintro e w' ⟨rfl, hw⟩; have hw2 := hw.symm; clear hw; subst hw2; rw [show (decide (0 ≤ k) && decide (k ≤ 3)) = Pl.within k 0 3 from rfl, h2]) | (go_at_call 43; refine (l1In _ _ _ _).mono ?_; rintro e w' ⟨rfl, hw⟩; have hw2 := hw.symm; clear hw; subst hw2; rw [show (decide (0 ≤ m) && decide (m ≤ 7)) = Pl.modeOk m from rfl, h1]; have Z1 : True := trivial) | (go_at_call 26; refine (specWord _ _).mono ?_; rintro e w' ⟨rfl, hw⟩; have hw2 := hw.symm; clear hw; subst hw2; rw [h4]))
          go_ret
          exact ⟨rB (by rw [G.out, h1, h2, q3, h4]; simp), HK.out⟩
        · cases h5 : Pl.extM m
          · cases h6 : (e == 0)
            all_goals
              go_enter Tryd.func44, Tryd.ntmps44
              go_wp2_with (first | (go_at_call 43; have z := Z1; refine (l1In _ _ _ _).mono ?_; rintro e w' ⟨rfl, hw⟩; have hw2 := hw.symm; clear hw; subst hw2; rw [show (decide (0 ≤ k) && decide (k ≤ 3)) = Pl.within k 0 3 from rfl, h2]) | (go_at_call 43; refine (l1In _ _ _ _).mono ?_; rintro e w' ⟨rfl, hw⟩; have hw2 := hw.symm; clear hw; subst hw2; rw [show (decide (0 ≤ m) && decide (m ≤ 7)) = Pl.modeOk m from rfl, h1]; have Z1 : True := trivial) | (go_at_call 26; refine (specWord _ _).mono ?_; rintro e w' ⟨rfl, hw⟩; have hw2 := hw.symm; clear hw; subst hw2; rw [h4]) | (go_at_call 49; refine (specExtM _ _).mono ?_; rintro e w' ⟨rfl, hw⟩; have hw2 := hw.symm; clear hw; subst hw2; rw [h5]))
              go_ret
              exact ⟨rB (by rw [G.out, h1, h2, q3, h4, h5, h6]; simp), HK.out⟩
          · go_enter Tryd.func44, Tryd.ntmps44
            go_wp2_with (first | (go_at_call 43; have z := Z1; refine (l1In _ _ _ _).mono ?_; rintro e w' ⟨rfl, hw⟩; have hw2 := hw.symm; clear hw; subst hw2; rw [show (decide (0 ≤ k) && decide (k ≤ 3)) = Pl.within k 0 3 from rfl, h2]) | (go_at_call 43; refine (l1In _ _ _ _).mono ?_; rintro e w' ⟨rfl, hw⟩; have hw2 := hw.symm; clear hw; subst hw2; rw [show (decide (0 ≤ m) && decide (m ≤ 7)) = Pl.modeOk m from rfl, h1]; have Z1 : True := trivial) | (go_at_call 26; refine (specWord _ _).mono ?_; rintro e w' ⟨rfl, hw⟩; have hw2 := hw.symm; clear hw; subst hw2; rw [h4]) | (go_at_call 49; refine (specExtM _ _).mono ?_; rintro e w' ⟨rfl, hw⟩; have hw2 := hw.symm; clear hw; subst hw2; rw [h5]))
            go_ret
            exact ⟨rB (by rw [G.out, h1, h2, q3, h4, h5]; simp), HK.out⟩
      · have q3 : decide (m < 6) = false := by simp at h3 ⊢; omega
        cases h7 : (k != 0)
        · have q7 : (k == 0) = true := by simpa using h7
          cases h4 : Pl.wordOk e
          · go_enter Tryd.func44, Tryd.ntmps44
            go_wp2_with (first | (go_at_call 43; have z := Z1; refine (l1In _ _ _ _).mono ?_; rintro e w' ⟨rfl, hw⟩; have hw2 := hw.symm; clear hw; subst hw2; rw [show (decide (0 ≤ k) && decide (k ≤ 3)) = Pl.within k 0 3 from rfl, h2]) | (go_at_call 43; refine (l1In _ _ _ _).mono ?_; rintro e w' ⟨rfl, hw⟩; have hw2 := hw.symm; clear hw; subst hw2; rw [show (decide (0 ≤ m) && decide (m ≤ 7)) = Pl.modeOk m from rfl, h1]; have Z1 : True := trivial) | (go_at_call 26; refine (specWord _ _).mono ?_; rintro e w' ⟨rfl, hw⟩; have hw2 := hw.symm; clear hw; subst hw2; rw [h4]))
            go_ret
            exact ⟨rB (by rw [G.out, h1, h2, q3, q7, h4]; simp), HK.out⟩
          · cases h5 : Pl.extM m
            · cases h6 : (e == 0)
              all_goals
                go_enter Tryd.func44, Tryd.ntmps44
                go_wp2_with (first | (go_at_call 43; have z := Z1; refine (l1In _ _ _ _).mono ?_; rintro e w' ⟨rfl, hw⟩; have hw2 := hw.symm; clear hw; subst hw2; rw [show (decide (0 ≤ k) && decide (k ≤ 3)) = Pl.within k 0 3 from rfl, h2]) | (go_at_call 43; refine (l1In _ _ _ _).mono ?_; rintro e w' ⟨rfl, hw⟩; have hw2 := hw.symm; clear hw; subst hw2; rw [show (decide (0 ≤ m) && decide (m ≤ 7)) = Pl.modeOk m from rfl, h1]; have Z1 : True := trivial) | (go_at_call 26; refine (specWord _ _).mono ?_; rintro e w' ⟨rfl, hw⟩; have hw2 := hw.symm; clear hw; subst hw2; rw [h4]) | (go_at_call 49; refine (specExtM _ _).mono ?_; rintro e w' ⟨rfl, hw⟩; have hw2 := hw.symm; clear hw; subst hw2; rw [h5]))
                go_ret
                exact ⟨rB (by rw [G.out, h1, h2, q3, q7, h4, h5, h6]; simp), HK.out⟩
            · go_enter Tryd.func44, Tryd.ntmps44
              go_wp2_with (first | (go_at_call 43; have z := Z1; refine (l1In _ _ _ _).mono ?_; rintro e w' ⟨rfl, hw⟩; have hw2 := hw.symm; clear hw; subst hw2; rw [show (decide (0 ≤ k) && decide (k ≤ 3)) = Pl.within k 0 3 from rfl, h2]) | (go_at_call 43; refine (l1In _ _ _ _).mono ?_; rintro e w' ⟨rfl, hw⟩; have hw2 := hw.symm; clear hw; subst hw2; rw [show (decide (0 ≤ m) && decide (m ≤ 7)) = Pl.modeOk m from rfl, h1]; have Z1 : True := trivial) | (go_at_call 26; refine (specWord _ _).mono ?_; rintro e w' ⟨rfl, hw⟩; have hw2 := hw.symm; clear hw; subst hw2; rw [h4]) | (go_at_call 49; refine (specExtM _ _).mono ?_; rintro e w' ⟨rfl, hw⟩; have hw2 := hw.symm; clear hw; subst hw2; rw [h5]))
              go_ret
              exact ⟨rB (by rw [G.out, h1, h2, q3, q7, h4, h5]; simp), HK.out⟩
        · have q7 : (k == 0) = false := by simpa using h7
          go_enter Tryd.func44, Tryd.ntmps44
          go_wp2_with (first | (go_at_call 43; have z := Z1; refine (l1In _ _ _ _).mono ?_; rintro e w' ⟨rfl, hw⟩; have hw2 := hw.symm; clear hw; subst hw2; rw [show (decide (0 ≤ k) && decide (k ≤ 3)) = Pl.within k 0 3 from rfl, h2]) | (go_at_call 43; refine (l1In _ _ _ _).mono ?_; rintro e w' ⟨rfl, hw⟩; have hw2 := hw.symm; clear hw; subst hw2; rw [show (decide (0 ≤ m) && decide (m ≤ 7)) = Pl.modeOk m from rfl, h1]; have Z1 : True := trivial))
          go_ret
          exact ⟨rB (by rw [G.out, h1, h2, q3, q7]; simp), HK.out⟩
end Go.Proofs.YtndphgidmlmkoaaDoor

namespace Go.Proofs.YtndphgidmlmkoaaDoor
open Go.RowKit
set_option linter.unusedVariables false
/-- an operand that was drawn: each number small -/
structure SmallO (m k e : Int) : Prop where
  m0 : 0 ≤ m
  m1 : m ≤ 8
  k0 : 0 ≤ k
  k1 : k ≤ 4
  e0 : 0 ≤ e
  e1 : e ≤ 65535
set_option maxRecDepth 20000 in
set_option maxHeartbeats 8000000 in
theorem operand (w : World) (b : Nat) (a : Option Addr) (len cap : Nat) (p : Int) (h : Cur w b a len cap p) (p0 : 0 ≤ p) (p1 : p ≤ 700000) :
    Calls Tryd.prog 55 #[.pointer (some ⟨b, 0, none⟩)] w fun e' w' => ∃ m k e : Int, e' = .returned (.agg #[.int .i64 m, .int .i64 k, .int .i64 e]) ∧ SmallO m k e ∧ Went w w' b a len cap p 20 := by
  have hlt := h.lt
  have R0 := hide (Blk.new w #[.int .i64 0, .int .i64 0, .int .i64 0] 34)
  have T0 := hide ((Went.refl h).allocW (.cells #[.int .i64 0, .int .i64 0, .int .i64 0] 34))
  go_enter Tryd.func55, Tryd.ntmps55
  go_wp2_with fail
  refine (pickW T0.out p0 (by omega) 8 (by omega) (by omega)).mono ?_
  rintro e9 w1 ⟨x, rfl, x0, x1, t9, g9⟩
  have sw := g9.size
  simp only [World.size_alloc] at sw
  have T1 := hide (t9.allocW (.cells #[.int .i64 x, .int .i64 0, .int .i64 0] 34))
  have R1 := hide ((R0.out.by2 g9 (by simp; omega)).alloc (.cells #[.int .i64 x, .int .i64 0, .int .i64 0] 34))
  have B1 := hide (Blk.new w1 #[.int .i64 x, .int .i64 0, .int .i64 0] 34)
  clear t9 g9 R0 T0
  cases hE : Pl.extM x
  · have x5 : x < 6 := by simp [Pl.extM] at hE; omega
    have d6 : decide (x < 6) = true := by simpa using x5
    go_wp2_with fail
    refine (pickW T1.out p0 (by omega) 4 (by omega) (by omega)).mono ?_
    rintro e9 w2 ⟨y, rfl, yy0, yy1, t9, g9⟩
    have B9 := B1.out.by2 g9 (by simp; omega)
    have R9 := R1.out.by2 g9 (by simp; omega)
    have y0 := B9.cell (i := 0) rfl
    have f0 := B9.frozen 0
    have y1 := B9.cell (i := 1) rfl
    have f1 := B9.frozen 1
    have y2 := B9.cell (i := 2) rfl
    have f2 := B9.frozen 2
    go_wp2_with fail
    refine (specExtM _ _).mono ?_
    rintro e9 w' ⟨rfl, hw⟩
    have hw2 := hw.symm
    clear hw
    subst hw2
    rw [hE]
    have T := hide (t9.setNew h w1.heap.size 1 (.int .i64 y) (by omega))
    have B := hide (B9.set 1 (.int .i64 y))
    have R := hide (R9.other w1.heap.size 1 (.int .i64 y) (by omega))
    obtain ⟨V1, hV1⟩ : ∃ X : World, X = w2.setCell ⟨w1.heap.size, 1, none⟩ (.int .i64 y) := ⟨_, rfl⟩
    rw [← hV1] at T B R ⊢
    have sz1 := g9.size
    clear hV1 y0 y1 y2 f0 f1 f2 B9 R9 t9 g9 T1 R1 B1
    go_wp2_with fail
    refine (oneW T.out p0 (by omega) 60 (by omega) (by omega)).mono ?_
    rintro e9 v1 ⟨on, rfl, t9, g9⟩
    have T1 := hide t9
    have R1 := hide (R.out.by2 g9 (by simp; omega))
    have B1 := hide (B.out.by2 g9 (by simp; omega))
    have s9 := g9.size
    clear t9 g9
    have l1 := B1.out.lt
    have l2 := R1.out.lt
    have y0 := B1.out.cell (i := 0) rfl
    have f0 := B1.out.frozen 0
    have z0 := R1.out.cell (i := 0) rfl
    have u0 := R1.out.frozen 0
    have y1 := B1.out.cell (i := 1) rfl
    have f1 := B1.out.frozen 1
    have z1 := R1.out.cell (i := 1) rfl
    have u1 := R1.out.frozen 1
    have y2 := B1.out.cell (i := 2) rfl
    have f2 := B1.out.frozen 2
    have z2 := R1.out.cell (i := 2) rfl
    have u2 := R1.out.frozen 2
    cases on
    · go_wp2_with fail
      refine bodyPost_ret (v := .agg #[.int .i64 x, .int .i64 y, .int .i64 0]) ?_ rfl ⟨_, _, _, rfl, ⟨by omega, by omega, by omega, by omega, by omega, by omega⟩, ?_⟩
      · rw [results_one rfl]; go_simp
      · exact ((((T1.out.setNew h _ _ _ (Nat.le_refl _)).setNew h _ _ _ (Nat.le_refl _)).setNew h _ _ _ (Nat.le_refl _))).more (by omega)
    · clear y0 f0 z0 u0 y1 f1 z1 u1 y2 f2 z2 u2
      go_wp2_with fail
      refine (pickW T1.out p0 (by omega) 9 (by omega) (by omega)).mono ?_
      rintro e9 v2 ⟨q1, rfl, q10, q11, t9, g9⟩
      have T2 := hide t9
      have R2 := hide (R1.out.by2 g9 (by simp; omega))
      have B2 := hide (B1.out.by2 g9 (by simp; omega))
      clear t9 g9
      go_wp2_with fail
      refine (pickW T2.out p0 (by omega) 5 (by omega) (by omega)).mono ?_
      rintro e9 v3 ⟨q2, rfl, q20, q21, t9, g9⟩
      have T3 := hide t9
      have R3 := hide (R2.out.by2 g9 (by simp; omega))
      have B3 := hide (B2.out.by2 g9 (by simp; omega))
      clear t9 g9
      go_wp2_with fail
      refine (pickW T3.out p0 (by omega) 2 (by omega) (by omega)).mono ?_
      rintro e9 v4 ⟨q3, rfl, q30, q31, t9, g9⟩
      have T4 := hide t9
      have R4 := hide (R3.out.by2 g9 (by simp; omega))
      have B4 := hide (B3.out.by2 g9 (by simp; omega))
      clear t9 g9
      have l3 := B4.out.lt
      have l4 := R4.out.lt
      have y0 := B4.out.cell (i := 0) rfl
      have f0 := B4.out.frozen 0
      have z0 := R4.out.cell (i := 0) rfl
      have u0 := R4.out.frozen 0
      have y1 := B4.out.cell (i := 1) rfl
      have f1 := B4.out.frozen 1
      have z1 := R4.out.cell (i := 1) rfl
      have u1 := R4.out.frozen 1
      have y2 := B4.out.cell (i := 2) rfl
      have f2 := B4.out.frozen 2
      have z2 := R4.out.cell (i := 2) rfl
      have u2 := R4.out.frozen 2
      go_wp2_with fail
      refine bodyPost_ret (v := .agg #[.int .i64 q1, .int .i64 q2, .int .i64 q3]) ?_ rfl ⟨_, _, _, rfl, ⟨by omega, by omega, by omega, by omega, by omega, by omega⟩, ?_⟩
      · rw [results_one rfl]; go_simp
      · exact ((((((T4.out.setNew h _ _ _ (by omega)).setNew h _ _ _ (by omega)).setNew h _ _ _ (by omega)).setNew h _ _ _ (Nat.le_refl _)).setNew h _ _ _ (Nat.le_refl _)).setNew h _ _ _ (Nat.le_refl _)).more (by omega)
  · by_cases x5 : x < 6
    · have d6 : decide (x < 6) = true := by simpa using x5
      go_wp2_with fail
      refine (pickW T1.out p0 (by omega) 4 (by omega) (by omega)).mono ?_
      rintro e9 w2 ⟨y, rfl, yy0, yy1, t9, g9⟩
      have B9 := B1.out.by2 g9 (by simp; omega)
      have R9 := R1.out.by2 g9 (by simp; omega)
      have y0 := B9.cell (i := 0) rfl
      have f0 := B9.frozen 0
      have y1 := B9.cell (i := 1) rfl
      have f1 := B9.frozen 1
      have y2 := B9.cell (i := 2) rfl
      have f2 := B9.frozen 2
      go_wp2_with fail
      refine (specExtM _ _).mono ?_
      rintro e9 w' ⟨rfl, hw⟩
      have hw2 := hw.symm
      clear hw
      subst hw2
      rw [hE]
      have T := hide (t9.setNew h w1.heap.size 1 (.int .i64 y) (by omega))
      have B := hide (B9.set 1 (.int .i64 y))
      have R := hide (R9.other w1.heap.size 1 (.int .i64 y) (by omega))
      obtain ⟨V1, hV1⟩ : ∃ X : World, X = w2.setCell ⟨w1.heap.size, 1, none⟩ (.int .i64 y) := ⟨_, rfl⟩
      rw [← hV1] at T B R ⊢
      have sz1 := g9.size
      clear hV1 y0 y1 y2 f0 f1 f2 B9 R9 t9 g9 T1 R1 B1
      go_wp2_with fail
      refine (amongW T.out p0 (by omega) [0, 1, 2, 20, 100, 200, 384, 448, 65535, 65534] 0 65535 (by intro x hx; simp at hx; omega) 10 10 rfl (by omega) (by omega)).mono ?_
      rintro e9 a1 ⟨ex, rfl, ex0, ex1, t9, g9⟩
      have B9 := B.out.by2 g9 (by simp; omega)
      have R9 := R.out.by2 g9 (by simp; omega)
      have y0 := B9.cell (i := 0) rfl
      have f0 := B9.frozen 0
      have y1 := B9.cell (i := 1) rfl
      have f1 := B9.frozen 1
      have y2 := B9.cell (i := 2) rfl
      have f2 := B9.frozen 2
      go_wp2_with fail
      have T2 := hide (t9.setNew h w1.heap.size 2 (.int .i64 ex) (by omega))
      have B2 := hide (B9.set 2 (.int .i64 ex))
      have R2 := hide (R9.other w1.heap.size 2 (.int .i64 ex) (by omega))
      obtain ⟨V2, hV2⟩ : ∃ X : World, X = a1.setCell ⟨w1.heap.size, 2, none⟩ (.int .i64 ex) := ⟨_, rfl⟩
      rw [← hV2] at T2 B2 R2 ⊢
      have sz := g9.size
      clear hV2 y0 y1 y2 f0 f1 f2 B9 R9 t9 g9 T R B
      have T := T2
      have R := R2
      have B := B2
      clear T2 R2 B2
      go_wp2_with fail
      refine (oneW T.out p0 (by omega) 60 (by omega) (by omega)).mono ?_
      rintro e9 v1 ⟨on, rfl, t9, g9⟩
      have T1 := hide t9
      have R1 := hide (R.out.by2 g9 (by simp; omega))
      have B1 := hide (B.out.by2 g9 (by simp; omega))
      have s9 := g9.size
      clear t9 g9
      have l1 := B1.out.lt
      have l2 := R1.out.lt
      have y0 := B1.out.cell (i := 0) rfl
      have f0 := B1.out.frozen 0
      have z0 := R1.out.cell (i := 0) rfl
      have u0 := R1.out.frozen 0
      have y1 := B1.out.cell (i := 1) rfl
      have f1 := B1.out.frozen 1
      have z1 := R1.out.cell (i := 1) rfl
      have u1 := R1.out.frozen 1
      have y2 := B1.out.cell (i := 2) rfl
      have f2 := B1.out.frozen 2
      have z2 := R1.out.cell (i := 2) rfl
      have u2 := R1.out.frozen 2
      cases on
      · go_wp2_with fail
        refine bodyPost_ret (v := .agg #[.int .i64 x, .int .i64 y, .int .i64 ex]) ?_ rfl ⟨_, _, _, rfl, ⟨by omega, by omega, by omega, by omega, by omega, by omega⟩, ?_⟩
        · rw [results_one rfl]; go_simp
        · exact ((((T1.out.setNew h _ _ _ (Nat.le_refl _)).setNew h _ _ _ (Nat.le_refl _)).setNew h _ _ _ (Nat.le_refl _))).more (by omega)
      · clear y0 f0 z0 u0 y1 f1 z1 u1 y2 f2 z2 u2
        go_wp2_with fail
        refine (pickW T1.out p0 (by omega) 9 (by omega) (by omega)).mono ?_
        rintro e9 v2 ⟨q1, rfl, q10, q11, t9, g9⟩
        have T2 := hide t9
        have R2 := hide (R1.out.by2 g9 (by simp; omega))
        have B2 := hide (B1.out.by2 g9 (by simp; omega))
        clear t9 g9
        go_wp2_with fail
        refine (pickW T2.out p0 (by omega) 5 (by omega) (by omega)).mono ?_
        rintro e9 v3 ⟨q2, rfl, q20, q21, t9, g9⟩
        have T3 := hide t9
        have R3 := hide (R2.out.by2 g9 (by simp; omega))
        have B3 := hide (B2.out.by2 g9 (by simp; omega))
        clear t9 g9
        go_wp2_with fail
        refine (pickW T3.out p0 (by omega) 2 (by omega) (by omega)).mono ?_
        rintro e9 v4 ⟨q3, rfl, q30, q31, t9, g9⟩
        have T4 := hide t9
        have R4 := hide (R3.out.by2 g9 (by simp; omega))
        have B4 := hide (B3.out.by2 g9 (by simp; omega))
        clear t9 g9
        have l3 := B4.out.lt
        have l4 := R4.out.lt
        have y0 := B4.out.cell (i := 0) rfl
        have f0 := B4.out.frozen 0
        have z0 := R4.out.cell (i := 0) rfl
        have u0 := R4.out.frozen 0
        have y1 := B4.out.cell (i := 1) rfl
        have f1 := B4.out.frozen 1
        have z1 := R4.out.cell (i := 1) rfl
        have u1 := R4.out.frozen 1
        have y2 := B4.out.cell (i := 2) rfl
        have f2 := B4.out.frozen 2
        have z2 := R4.out.cell (i := 2) rfl
        have u2 := R4.out.frozen 2
        go_wp2_with fail
        refine bodyPost_ret (v := .agg #[.int .i64 q1, .int .i64 q2, .int .i64 q3]) ?_ rfl ⟨_, _, _, rfl, ⟨by omega, by omega, by omega, by omega, by omega, by omega⟩, ?_⟩
        · rw [results_one rfl]; go_simp
        · exact ((((((T4.out.setNew h _ _ _ (by omega)).setNew h _ _ _ (by omega)).setNew h _ _ _ (by omega)).setNew h _ _ _ (Nat.le_refl _)).setNew h _ _ _ (Nat.le_refl _)).setNew h _ _ _ (Nat.le_refl _)).more (by omega)
    · have d6 : decide (x < 6) = false := by simpa using x5
      go_wp2_with fail
      refine (specExtM _ _).mono ?_
      rintro e9 w' ⟨rfl, hw⟩
      have hw2 := hw.symm
      clear hw
      subst hw2
      rw [hE]
      obtain ⟨V1, hV1⟩ : ∃ X : World, X = w1.alloc (.cells #[.int .i64 x, .int .i64 0, .int .i64 0] 34) := ⟨_, rfl⟩
      rw [← hV1] at T1 R1 B1 ⊢
      have sz1 : w1.heap.size < V1.heap.size := by rw [hV1]; simp
      clear hV1
      have T := T1
      have R := R1
      have B := B1
      clear T1 R1 B1
      go_wp2_with fail
      refine (amongW T.out p0 (by omega) [0, 1, 2, 20, 100, 200, 384, 448, 65535, 65534] 0 65535 (by intro x hx; simp at hx; omega) 10 10 rfl (by omega) (by omega)).mono ?_
      rintro e9 a1 ⟨ex, rfl, ex0, ex1, t9, g9⟩
      have B9 := B.out.by2 g9 (by simp; omega)
      have R9 := R.out.by2 g9 (by simp; omega)
      have y0 := B9.cell (i := 0) rfl
      have f0 := B9.frozen 0
      have y1 := B9.cell (i := 1) rfl
      have f1 := B9.frozen 1
      have y2 := B9.cell (i := 2) rfl
      have f2 := B9.frozen 2
      go_wp2_with fail
      have T2 := hide (t9.setNew h w1.heap.size 2 (.int .i64 ex) (by omega))
      have B2 := hide (B9.set 2 (.int .i64 ex))
      have R2 := hide (R9.other w1.heap.size 2 (.int .i64 ex) (by omega))
      obtain ⟨V2, hV2⟩ : ∃ X : World, X = a1.setCell ⟨w1.heap.size, 2, none⟩ (.int .i64 ex) := ⟨_, rfl⟩
      rw [← hV2] at T2 B2 R2 ⊢
      have sz := g9.size
      clear hV2 y0 y1 y2 f0 f1 f2 B9 R9 t9 g9 T R B
      have T := T2
      have R := R2
      have B := B2
      clear T2 R2 B2
      go_wp2_with fail
      refine (oneW T.out p0 (by omega) 60 (by omega) (by omega)).mono ?_
      rintro e9 v1 ⟨on, rfl, t9, g9⟩
      have T1 := hide t9
      have R1 := hide (R.out.by2 g9 (by simp; omega))
      have B1 := hide (B.out.by2 g9 (by simp; omega))
      have s9 := g9.size
      clear t9 g9
      have l1 := B1.out.lt
      have l2 := R1.out.lt
      have y0 := B1.out.cell (i := 0) rfl
      have f0 := B1.out.frozen 0
      have z0 := R1.out.cell (i := 0) rfl
      have u0 := R1.out.frozen 0
      have y1 := B1.out.cell (i := 1) rfl
      have f1 := B1.out.frozen 1
      have z1 := R1.out.cell (i := 1) rfl
      have u1 := R1.out.frozen 1
      have y2 := B1.out.cell (i := 2) rfl
      have f2 := B1.out.frozen 2
      have z2 := R1.out.cell (i := 2) rfl
      have u2 := R1.out.frozen 2
      cases on
      · go_wp2_with fail
        refine bodyPost_ret (v := .agg #[.int .i64 x, .int .i64 0, .int .i64 ex]) ?_ rfl ⟨_, _, _, rfl, ⟨by omega, by omega, by omega, by omega, by omega, by omega⟩, ?_⟩
        · rw [results_one rfl]; go_simp
        · exact ((((T1.out.setNew h _ _ _ (Nat.le_refl _)).setNew h _ _ _ (Nat.le_refl _)).setNew h _ _ _ (Nat.le_refl _))).more (by omega)
      · clear y0 f0 z0 u0 y1 f1 z1 u1 y2 f2 z2 u2
        go_wp2_with fail
        refine (pickW T1.out p0 (by omega) 9 (by omega) (by omega)).mono ?_
        rintro e9 v2 ⟨q1, rfl, q10, q11, t9, g9⟩
        have T2 := hide t9
        have R2 := hide (R1.out.by2 g9 (by simp; omega))
        have B2 := hide (B1.out.by2 g9 (by simp; omega))
        clear t9 g9
        go_wp2_with fail
        refine (pickW T2.out p0 (by omega) 5 (by omega) (by omega)).mono ?_
        rintro e9 v3 ⟨q2, rfl, q20, q21, t9, g9⟩
        have T3 := hide t9
        have R3 := hide (R2.out.by2 g9 (by simp; omega))
        have B3 := hide (B2.out.by2 g9 (by simp; omega))
        clear t9 g9
        go_wp2_with fail
        refine (pickW T3.out p0 (by omega) 2 (by omega) (by omega)).mono ?_
        rintro e9 v4 ⟨q3, rfl, q30, q31, t9, g9⟩
        have T4 := hide t9
        have R4 := hide (R3.out.by2 g9 (by simp; omega))
        have B4 := hide (B3.out.by2 g9 (by simp; omega))
        clear t9 g9
        have l3 := B4.out.lt
        have l4 := R4.out.lt
        have y0 := B4.out.cell (i := 0) rfl
        have f0 := B4.out.frozen 0
        have z0 := R4.out.cell (i := 0) rfl
        have u0 := R4.out.frozen 0
        have y1 := B4.out.cell (i := 1) rfl
        have f1 := B4.out.frozen 1
        have z1 := R4.out.cell (i := 1) rfl
        have u1 := R4.out.frozen 1
        have y2 := B4.out.cell (i := 2) rfl
        have f2 := B4.out.frozen 2
        have z2 := R4.out.cell (i := 2) rfl
        have u2 := R4.out.frozen 2
        go_wp2_with fail
        refine bodyPost_ret (v := .agg #[.int .i64 q1, .int .i64 q2, .int .i64 q3]) ?_ rfl ⟨_, _, _, rfl, ⟨by omega, by omega, by omega, by omega, by omega, by omega⟩, ?_⟩
        · rw [results_one rfl]; go_simp
        · exact ((((((T4.out.setNew h _ _ _ (by omega)).setNew h _ _ _ (by omega)).setNew h _ _ _ (by omega)).setNew h _ _ _ (Nat.le_refl _)).setNew h _ _ _ (Nat.le_refl _)).setNew h _ _ _ (Nat.le_refl _)).more (by omega)
end Go.Proofs.YtndphgidmlmkoaaDoor

namespace Go.Proofs.YtndphgidmlmkoaaDoor.Pl
set_option linter.unusedVariables false
structure In where
  op : Int
  z : Int
  r : Int
  m : Int
  k : Int
  e : Int
  s : Int
def inNo : In := ⟨0, 0, 0, 0, 0, 0, 0⟩
def memM (m : Int) : Bool := within m 2 6
def plainM (m : Int) : Bool := (m == 2) || ((m == 5) || (m == 6))
def zeroO (m k e : Int) : Bool := (m == 0) && ((k == 0) && (e == 0))
def nowO (m e : Int) : Bool := (m == 7) && decide (e ≤ 1023)
def byteNow (x : In) : Bool := ((x.m == 7) && (x.z == 1)) && decide (255 < x.e)
def inBase (x : In) : Bool := (decide (x.z = 1) || decide (x.z = 2)) && (within x.r 0 3 && (opOk x.m x.k x.e && (within x.s 0 7 && !byteNow x)))
def inKind (x : In) : Bool :=
  bif (x.op == 1) || ((x.op == 3) || ((x.op == 4) || ((x.op == 5) || ((x.op == 6) || ((x.op == 7) || (x.op == 8)))))) then (x.s == 0) && ((x.z == 2) || !(x.m == 1))
  else bif x.op == 2 then (x.s == 0) && ((x.m == 0) || memM x.m)
  else bif x.op == 9 then (x.z == 2) && (x.s == 0)
  else bif x.op == 10 then ((x.z == 2) && (x.s == 0)) && plainM x.m
  else bif x.op == 11 then ((x.r == 0) && decide (x.s ≤ 3)) && ((x.m == 0) || memM x.m)
  else bif x.op == 12 then (x.m == 0)
  else bif x.op == 13 then ((x.z == 2) && decide (x.r ≤ 1)) && (x.m == 7)
  else bif x.op == 14 then (((x.z == 2) && (x.r == 0)) && decide (x.s ≤ 1)) && plainM x.m
  else bif (x.op == 16) || (x.op == 17) then ((x.z == 2) && (x.s == 0)) && !(x.m == 1)
  else bif x.op == 18 then ((!(x.z == 2)) && decide (x.s ≤ 1)) && (x.m == 0)
  else bif x.op == 19 then (x.z == 2) && ((((x.s == 0) && (x.r == 0)) && nowO x.m x.e) || ((x.s == 1) && zeroO x.m x.k x.e))
  else bif x.op == 15 then (bif x.s == 3 then ((x.z == 2) && (x.r == 0)) && nowO x.m x.e else (((x.z == 2) && decide (x.s ≤ 6)) && zeroO x.m x.k x.e) && (decide (3 < x.s) || (x.r == 0)))
  else false
def inOk (x : In) : Bool := inBase x && inKind x
/-- the first word of an instruction -/
def word1 (x : In) : Int := x.op * 2048 + (x.z - 1) * 1024 + x.r * 256 + x.m * 32 + x.k * 8 + x.s
def encode (x : In) : List Int := if extM x.m = true then [word1 x, x.e] else [word1 x]
def longW (w : Int) : Int := if extM (w / 32 % 8) = true then 2 else 1
def decode (w v : Int) : In := ⟨w / 2048, w / 1024 % 2 + 1, w / 256 % 4, w / 32 % 8, w / 8 % 4, if longW w = 2 then v else 0, w % 8⟩
def decOk (w v : Int) : Bool := wordOk w && (wordOk v && inOk (decode w v))
def dec (w v : Int) : In := if decOk w v = true then decode w v else inNo
def decN (w v : Int) : Int := if decOk w v = true then longW w else 0
def priv (x : In) : Bool := ((x.op == 15) && ((x.s == 1) || (x.s == 3))) || ((x.op == 19) && (x.s == 0))
/-- instruction k of a row of numbers, seven an instruction -/
def inAt (ys : List Int) (k : Nat) : In := ⟨el ys (k * 7), el ys (k * 7 + 1), el ys (k * 7 + 2), el ys (k * 7 + 3), el ys (k * 7 + 4), el ys (k * 7 + 5), el ys (k * 7 + 6)⟩
def allIn (ys : List Int) : Nat → Bool
  | 0 => true
  | k + 1 => allIn ys k && inOk (inAt ys k)
def encTo (ys : List Int) : Nat → List Int
  | 0 => []
  | k + 1 => encTo ys k ++ encode (inAt ys k)
def eaOk (ys : List Int) (n : Nat) : Bool := allIn ys n && decide ((n : Int) ≤ 40)
def eaV (ys : List Int) (n : Nat) : List Int := if eaOk ys n = true then encTo ys n else []
theorem encode_len (x : In) : (encode x).length ≤ 2 := by unfold encode; split <;> simp
theorem encTo_len (ys : List Int) (k : Nat) : (encTo ys k).length ≤ 2 * k := by
  induction k with
  | zero => simp [encTo]
  | succ k ih => simp only [encTo, List.length_append]; have := encode_len (inAt ys k); omega
theorem allIn_no {ys : List Int} {n k : Nat} (hk : k < n) (h : inOk (inAt ys k) = false) : allIn ys n = false := by
  induction n with
  | zero => omega
  | succ n ih =>
    unfold allIn
    by_cases e : k = n
    · subst e; rw [h]; simp
    · rw [ih (by omega)]; rfl
theorem modeR {x : In} (h : inOk x = true) : 1 ≤ x.op ∧ x.op ≤ 19 ∧ (x.z = 1 ∨ x.z = 2) ∧ 0 ≤ x.r ∧ x.r ≤ 3 ∧ 0 ≤ x.m ∧ x.m ≤ 7 ∧ 0 ≤ x.k ∧ x.k ≤ 3 ∧ 0 ≤ x.e ∧ x.e ≤ 65535 ∧ 0 ≤ x.s ∧ x.s ≤ 7 ∧ (extM x.m = false → x.e = 0) := by
  obtain ⟨op, z, r, m, k, e, s⟩ := x
  unfold inOk at h
  rw [Bool.and_eq_true] at h
  obtain ⟨h1, h2⟩ := h
  have hop : 1 ≤ op ∧ op ≤ 19 := by
    have : op = 1 ∨ op = 2 ∨ op = 3 ∨ op = 4 ∨ op = 5 ∨ op = 6 ∨ op = 7 ∨ op = 8 ∨ op = 9 ∨ op = 10 ∨ op = 11 ∨ op = 12 ∨ op = 13 ∨ op = 14 ∨ op = 15 ∨ op = 16 ∨ op = 17 ∨ op = 18 ∨ op = 19 := by
      by_cases q1 : op = 1; · simp [q1]
      by_cases q2 : op = 2; · simp [q2]
      by_cases q3 : op = 3; · simp [q3]
      by_cases q4 : op = 4; · simp [q4]
      by_cases q5 : op = 5; · simp [q5]
      by_cases q6 : op = 6; · simp [q6]
      by_cases q7 : op = 7; · simp [q7]
      by_cases q8 : op = 8; · simp [q8]
      by_cases q9 : op = 9; · simp [q9]
      by_cases q10 : op = 10; · simp [q10]
      by_cases q11 : op = 11; · simp [q11]
      by_cases q12 : op = 12; · simp [q12]
      by_cases q13 : op = 13; · simp [q13]
      by_cases q14 : op = 14; · simp [q14]
      by_cases q15 : op = 15; · simp [q15]
      by_cases q16 : op = 16; · simp [q16]
      by_cases q17 : op = 17; · simp [q17]
      by_cases q18 : op = 18; · simp [q18]
      by_cases q19 : op = 19; · simp [q19]
      simp [inKind, q1, q2, q3, q4, q5, q6, q7, q8, q9, q10, q11, q12, q13, q14, q15, q16, q17, q18, q19] at h2
    omega
  simp [inBase, opOk, modeOk, within, wordOk] at h1
  obtain ⟨hz, hr, ⟨hm, hk, _, he, hx⟩, hs, _⟩ := h1
  refine ⟨hop.1, hop.2, hz, hr.1, hr.2, hm.1, hm.2, hk.1, hk.2, he.1, he.2, hs.1, hs.2, fun q => ?_⟩
  rcases hx with hx | hx
  · rw [q] at hx; cases hx
  · exact hx
end Go.Proofs.YtndphgidmlmkoaaDoor.Pl
namespace Go.Proofs.YtndphgidmlmkoaaDoor
abbrev inX (x : Pl.In) : Array Value := #[iv x.op, iv x.z, iv x.r, iv x.m, iv x.k, iv x.e, iv x.s]
end Go.Proofs.YtndphgidmlmkoaaDoor

namespace Go.Proofs.YtndphgidmlmkoaaDoor
open Go.RowKit
set_option linter.unusedVariables false
theorem specMem (m : Int) (w : World) : Calls Tryd.prog 45 #[iv m] w fun e w' => e = .returned (.bool (Pl.memM m)) ∧ w' = w := by
  go_enter Tryd.func45, Tryd.ntmps45
  go_wp2_with (go_at_call 43; refine (l1In _ _ _ _).mono ?_; rintro e w' ⟨rfl, hw⟩; have hw2 := hw.symm; clear hw; subst hw2)
  go_ret
  exact ⟨rfl, rfl⟩
theorem specPlain (m : Int) (w : World) : Calls Tryd.prog 46 #[iv m] w fun e w' => e = .returned (.bool (Pl.plainM m)) ∧ w' = w := by
  cases h1 : (m == 2) <;> cases h2 : (m == 5) <;> cases h3 : (m == 6)
  all_goals
    go_enter Tryd.func46, Tryd.ntmps46
    go_wp2
    go_ret
    exact ⟨rB (by simp only [Pl.plainM, h1, h2, h3]; rfl), rfl⟩
theorem specZero (m k e : Int) (w : World) : Calls Tryd.prog 48 #[.agg #[iv m, iv k, iv e]] w fun r w' => r = .returned (.bool (Pl.zeroO m k e)) ∧ Kept 0 0 w w' := by
  have K0 := hide (kept_alloc w (.cells #[iv m, iv k, iv e] 34))
  cases h1 : (m == 0) <;> cases h2 : (k == 0) <;> cases h3 : (e == 0)
  all_goals
    go_enter Tryd.func48, Tryd.ntmps48
    go_wp2
    go_ret
    exact ⟨rB (by simp only [Pl.zeroO, h1, h2, h3]; rfl), K0.out⟩
theorem specNow (m k e : Int) (w : World) : Calls Tryd.prog 47 #[.agg #[iv m, iv k, iv e]] w fun r w' => r = .returned (.bool (Pl.nowO m e)) ∧ Kept 0 0 w w' := by
  have K0 := hide (kept_alloc w (.cells #[iv m, iv k, iv e] 34))
  cases h1 : (m == 7) <;> cases h2 : decide (e ≤ 1023)
  all_goals
    go_enter Tryd.func47, Tryd.ntmps47
    go_wp2
    go_ret
    exact ⟨rB (by simp only [Pl.nowO, h1, h2]; rfl), K0.out⟩
theorem opsAll (op : Int) : op = 1 ∨ op = 2 ∨ op = 3 ∨ op = 4 ∨ op = 5 ∨ op = 6 ∨ op = 7 ∨ op = 8 ∨ op = 9 ∨ op = 10 ∨ op = 11 ∨ op = 12 ∨ op = 13 ∨ op = 14 ∨ op = 15 ∨ op = 16 ∨ op = 17 ∨ op = 18 ∨ op = 19 ∨ (¬ op = 1 ∧ ¬ op = 2 ∧ ¬ op = 3 ∧ ¬ op = 4 ∧ ¬ op = 5 ∧ ¬ op = 6 ∧ ¬ op = 7 ∧ ¬ op = 8 ∧ ¬ op = 9 ∧ ¬ op = 10 ∧ ¬ op = 11 ∧ ¬ op = 12 ∧ ¬ op = 13 ∧ ¬ op = 14 ∧ ¬ op = 15 ∧ ¬ op = 16 ∧ ¬ op = 17 ∧ ¬ op = 18 ∧ ¬ op = 19) := by omega
end Go.Proofs.YtndphgidmlmkoaaDoor

namespace Go.Proofs.YtndphgidmlmkoaaDoor
open Go.RowKit
set_option linter.unusedVariables false
set_option linter.unusedSimpArgs false
set_option maxRecDepth 100000 in
set_option maxHeartbeats 16000000 in
theorem goodInsA1 (w : World) (op r m k e s : Int) (h2 : Pl.within r 0 3 = true) (h3 : Pl.opOk m k e = true) (h4 : Pl.within s 0 7 = true) (h6 : (m == 7) = false) :
    Calls Tryd.prog 20 #[.agg (inA op 1 r m k e s)] w fun r' w' => r' = .returned (.bool (Pl.inOk ⟨op, 1, r, m, k, e, s⟩)) ∧ Kept 0 0 w w' := by
  have K0 := hide (kept_alloc w (.cells (inA op 1 r m k e s) 36))
  have B0 := hide (Blk.new w (inA op 1 r m k e s) 36)
  have G : Hid (Pl.inOk ⟨op, 1, r, m, k, e, s⟩ = Pl.inKind ⟨op, 1, r, m, k, e, s⟩) := hide (by simp only [Pl.inOk, Pl.inBase, Pl.byteNow, h2, h3, h4, h6]; rfl)
  have hN : Pl.nowO m e = false := by simp only [Pl.nowO, h6]; rfl
  go_enter Tryd.func20, Tryd.ntmps20
  go_upto_region 5 with (first | (go_at_call 43; have z9 := B2; refine (l1In _ _ _ _).mono ?_; rintro e9 w' ⟨rfl, hw⟩; have hw2 := hw.symm; clear hw; subst hw2; rw [show (decide (0 ≤ s) && decide (s ≤ 7)) = Pl.within s 0 7 from rfl, h4]) | (go_at_call 42; refine (l1Size1 _).mono ?_; rintro e9 w' ⟨rfl, hw⟩; have hw2 := hw.symm; clear hw; subst hw2) | (go_at_call 43; refine (l1In _ _ _ _).mono ?_; rintro e9 w' ⟨rfl, hw⟩; have hw2 := hw.symm; clear hw; subst hw2; rw [show (decide (0 ≤ r) && decide (r ≤ 3)) = Pl.within r 0 3 from rfl, h2]) | (go_at_call 44; refine (specGoodOperand _ m k e).mono ?_; rintro e9 w2 ⟨rfl, k2⟩; rw [h3]; have B2 := hide (B0.out.kept0 k2); have K2 := hide (K0.out.trans k2); have c0 := B2.out.cell (i := 0) rfl; have c1 := B2.out.cell (i := 1) rfl; have c2 := B2.out.cell (i := 2) rfl; have c3 := B2.out.cell (i := 3) rfl; have c4 := B2.out.cell (i := 4) rfl; have c5 := B2.out.cell (i := 5) rfl; have c6 := B2.out.cell (i := 6) rfl; clear k2))
  rcases opsAll op with rfl | rfl | rfl | rfl | rfl | rfl | rfl | rfl | rfl | rfl | rfl | rfl | rfl | rfl | rfl | rfl | rfl | rfl | rfl | hno
  · have KND : Hid (Pl.inKind ⟨1, 1, r, m, k, e, s⟩ = ((s == 0) && (((1 : Int) == 2) || !(m == 1)))) := hide rfl
    cases a1 : (s == 0)
    all_goals
      go_wp2_with fail
      go_ret
      exact ⟨rB (by rw [G.out, KND.out] <;> first | rfl | (simp only [a1, hN, h6]; done) | (simp only [a1, hN, h6]; rfl) | simp [a1, hN, h6]), by first | exact K4.out | exact K3.out | exact K2.out⟩
  · have KND : Hid (Pl.inKind ⟨2, 1, r, m, k, e, s⟩ = ((s == 0) && ((m == 0) || Pl.memM m))) := hide rfl
    cases a1 : (s == 0) <;> cases b1 : (m == 0)
    all_goals
      go_wp2_with (first | (go_at_call 45; refine (specMem _ _).mono ?_; rintro e9 w' ⟨rfl, hw⟩; have hw2 := hw.symm; clear hw; subst hw2))
      go_ret
      exact ⟨rB (by rw [G.out, KND.out] <;> first | rfl | (simp only [a1, b1, hN, h6]; done) | (simp only [a1, b1, hN, h6]; rfl) | simp [a1, b1, hN, h6]), by first | exact K4.out | exact K3.out | exact K2.out⟩
  · have KND : Hid (Pl.inKind ⟨3, 1, r, m, k, e, s⟩ = ((s == 0) && (((1 : Int) == 2) || !(m == 1)))) := hide rfl
    cases a1 : (s == 0)
    all_goals
      go_wp2_with fail
      go_ret
      exact ⟨rB (by rw [G.out, KND.out] <;> first | rfl | (simp only [a1, hN, h6]; done) | (simp only [a1, hN, h6]; rfl) | simp [a1, hN, h6]), by first | exact K4.out | exact K3.out | exact K2.out⟩
  · have KND : Hid (Pl.inKind ⟨4, 1, r, m, k, e, s⟩ = ((s == 0) && (((1 : Int) == 2) || !(m == 1)))) := hide rfl
    cases a1 : (s == 0)
    all_goals
      go_wp2_with fail
      go_ret
      exact ⟨rB (by rw [G.out, KND.out] <;> first | rfl | (simp only [a1, hN, h6]; done) | (simp only [a1, hN, h6]; rfl) | simp [a1, hN, h6]), by first | exact K4.out | exact K3.out | exact K2.out⟩
  · have KND : Hid (Pl.inKind ⟨5, 1, r, m, k, e, s⟩ = ((s == 0) && (((1 : Int) == 2) || !(m == 1)))) := hide rfl
    cases a1 : (s == 0)
    all_goals
      go_wp2_with fail
      go_ret
      exact ⟨rB (by rw [G.out, KND.out] <;> first | rfl | (simp only [a1, hN, h6]; done) | (simp only [a1, hN, h6]; rfl) | simp [a1, hN, h6]), by first | exact K4.out | exact K3.out | exact K2.out⟩
  · have KND : Hid (Pl.inKind ⟨6, 1, r, m, k, e, s⟩ = ((s == 0) && (((1 : Int) == 2) || !(m == 1)))) := hide rfl
    cases a1 : (s == 0)
    all_goals
      go_wp2_with fail
      go_ret
      exact ⟨rB (by rw [G.out, KND.out] <;> first | rfl | (simp only [a1, hN, h6]; done) | (simp only [a1, hN, h6]; rfl) | simp [a1, hN, h6]), by first | exact K4.out | exact K3.out | exact K2.out⟩
  · have KND : Hid (Pl.inKind ⟨7, 1, r, m, k, e, s⟩ = ((s == 0) && (((1 : Int) == 2) || !(m == 1)))) := hide rfl
    cases a1 : (s == 0)
    all_goals
      go_wp2_with fail
      go_ret
      exact ⟨rB (by rw [G.out, KND.out] <;> first | rfl | (simp only [a1, hN, h6]; done) | (simp only [a1, hN, h6]; rfl) | simp [a1, hN, h6]), by first | exact K4.out | exact K3.out | exact K2.out⟩
  · have KND : Hid (Pl.inKind ⟨8, 1, r, m, k, e, s⟩ = ((s == 0) && (((1 : Int) == 2) || !(m == 1)))) := hide rfl
    cases a1 : (s == 0)
    all_goals
      go_wp2_with fail
      go_ret
      exact ⟨rB (by rw [G.out, KND.out] <;> first | rfl | (simp only [a1, hN, h6]; done) | (simp only [a1, hN, h6]; rfl) | simp [a1, hN, h6]), by first | exact K4.out | exact K3.out | exact K2.out⟩
  · have KND : Hid (Pl.inKind ⟨9, 1, r, m, k, e, s⟩ = (((1 : Int) == 2) && (s == 0))) := hide rfl
    go_wp2_with fail
    go_ret
    exact ⟨rB (by rw [G.out, KND.out] <;> first | rfl | (simp only [hN, h6]; done) | (simp only [hN, h6]; rfl) | simp [hN, h6]), by first | exact K4.out | exact K3.out | exact K2.out⟩
  · have KND : Hid (Pl.inKind ⟨10, 1, r, m, k, e, s⟩ = ((((1 : Int) == 2) && (s == 0)) && Pl.plainM m)) := hide rfl
    go_wp2_with (first | (go_at_call 46; refine (specPlain _ _).mono ?_; rintro e9 w' ⟨rfl, hw⟩; have hw2 := hw.symm; clear hw; subst hw2))
    go_ret
    exact ⟨rB (by rw [G.out, KND.out] <;> first | rfl | (simp only [hN, h6]; done) | (simp only [hN, h6]; rfl) | simp [hN, h6]), by first | exact K4.out | exact K3.out | exact K2.out⟩
  · have KND : Hid (Pl.inKind ⟨11, 1, r, m, k, e, s⟩ = (((r == 0) && decide (s ≤ 3)) && ((m == 0) || Pl.memM m))) := hide rfl
    cases a1 : (r == 0) <;> cases a2 : decide (s ≤ 3) <;> cases b1 : (m == 0)
    all_goals
      go_wp2_with (first | (go_at_call 45; refine (specMem _ _).mono ?_; rintro e9 w' ⟨rfl, hw⟩; have hw2 := hw.symm; clear hw; subst hw2))
      go_ret
      exact ⟨rB (by rw [G.out, KND.out] <;> first | rfl | (simp only [a1, a2, b1, hN, h6]; done) | (simp only [a1, a2, b1, hN, h6]; rfl) | simp [a1, a2, b1, hN, h6]), by first | exact K4.out | exact K3.out | exact K2.out⟩
  · have KND : Hid (Pl.inKind ⟨12, 1, r, m, k, e, s⟩ = ((m == 0))) := hide rfl
    go_wp2_with fail
    go_ret
    exact ⟨rB (by rw [G.out, KND.out] <;> first | rfl | (simp only [hN, h6]; done) | (simp only [hN, h6]; rfl) | simp [hN, h6]), by first | exact K4.out | exact K3.out | exact K2.out⟩
  · have KND : Hid (Pl.inKind ⟨13, 1, r, m, k, e, s⟩ = ((((1 : Int) == 2) && decide (r ≤ 1)) && (m == 7))) := hide rfl
    go_wp2_with fail
    go_ret
    exact ⟨rB (by rw [G.out, KND.out] <;> first | rfl | (simp only [hN, h6]; done) | (simp only [hN, h6]; rfl) | simp [hN, h6]), by first | exact K4.out | exact K3.out | exact K2.out⟩
  · have KND : Hid (Pl.inKind ⟨14, 1, r, m, k, e, s⟩ = (((((1 : Int) == 2) && (r == 0)) && decide (s ≤ 1)) && Pl.plainM m)) := hide rfl
    go_wp2_with (first | (go_at_call 46; refine (specPlain _ _).mono ?_; rintro e9 w' ⟨rfl, hw⟩; have hw2 := hw.symm; clear hw; subst hw2))
    go_ret
    exact ⟨rB (by rw [G.out, KND.out] <;> first | rfl | (simp only [hN, h6]; done) | (simp only [hN, h6]; rfl) | simp [hN, h6]), by first | exact K4.out | exact K3.out | exact K2.out⟩
  · have KND : Hid (Pl.inKind ⟨15, 1, r, m, k, e, s⟩ = (bif s == 3 then (((1 : Int) == 2) && (r == 0)) && Pl.nowO m e else ((((1 : Int) == 2) && decide (s ≤ 6)) && Pl.zeroO m k e) && (decide (3 < s) || (r == 0)))) := hide rfl
    cases a0 : (s == 3)
    all_goals
      go_wp2_with (first | (go_at_call 47; refine (specNow m k e _).mono ?_; rintro e9 w3 ⟨rfl, k3⟩; rw [hN]; have B3 := hide (B2.out.kept0 k3); have K3 := hide (K2.out.trans k3); have d0 := B3.out.cell (i := 0) rfl; have d1 := B3.out.cell (i := 1) rfl; have d2 := B3.out.cell (i := 2) rfl; have d3 := B3.out.cell (i := 3) rfl; have d4 := B3.out.cell (i := 4) rfl; have d5 := B3.out.cell (i := 5) rfl; have d6 := B3.out.cell (i := 6) rfl; clear k3) | (go_at_call 48; have z9 := B3; refine (specZero m k e _).mono ?_; rintro e9 w4 ⟨rfl, k4⟩; rw [a3]; have B4 := hide (B3.out.kept0 k4); have K4 := hide (K3.out.trans k4); have f0 := B4.out.cell (i := 0) rfl; have f1 := B4.out.cell (i := 1) rfl; have f2 := B4.out.cell (i := 2) rfl; have f3 := B4.out.cell (i := 3) rfl; have f4 := B4.out.cell (i := 4) rfl; have f5 := B4.out.cell (i := 5) rfl; have f6 := B4.out.cell (i := 6) rfl; clear k4) | (go_at_call 48; refine (specZero m k e _).mono ?_; rintro e9 w4 ⟨rfl, k4⟩; rw [a3]; have B4 := hide (B2.out.kept0 k4); have K4 := hide (K2.out.trans k4); have f0 := B4.out.cell (i := 0) rfl; have f1 := B4.out.cell (i := 1) rfl; have f2 := B4.out.cell (i := 2) rfl; have f3 := B4.out.cell (i := 3) rfl; have f4 := B4.out.cell (i := 4) rfl; have f5 := B4.out.cell (i := 5) rfl; have f6 := B4.out.cell (i := 6) rfl; clear k4))
      go_ret
      exact ⟨rB (by rw [G.out, KND.out] <;> first | rfl | (simp only [a0, hN, h6]; done) | (simp only [a0, hN, h6]; rfl) | simp [a0, hN, h6]), by first | exact K4.out | exact K3.out | exact K2.out⟩
  · have KND : Hid (Pl.inKind ⟨16, 1, r, m, k, e, s⟩ = ((((1 : Int) == 2) && (s == 0)) && !(m == 1))) := hide rfl
    go_wp2_with fail
    go_ret
    exact ⟨rB (by rw [G.out, KND.out] <;> first | rfl | (simp only [hN, h6]; done) | (simp only [hN, h6]; rfl) | simp [hN, h6]), by first | exact K4.out | exact K3.out | exact K2.out⟩
  · have KND : Hid (Pl.inKind ⟨17, 1, r, m, k, e, s⟩ = ((((1 : Int) == 2) && (s == 0)) && !(m == 1))) := hide rfl
    go_wp2_with fail
    go_ret
    exact ⟨rB (by rw [G.out, KND.out] <;> first | rfl | (simp only [hN, h6]; done) | (simp only [hN, h6]; rfl) | simp [hN, h6]), by first | exact K4.out | exact K3.out | exact K2.out⟩
  · have KND : Hid (Pl.inKind ⟨18, 1, r, m, k, e, s⟩ = (((!((1 : Int) == 2)) && decide (s ≤ 1)) && (m == 0))) := hide rfl
    cases a1 : decide (s ≤ 1)
    all_goals
      go_wp2_with fail
      go_ret
      exact ⟨rB (by rw [G.out, KND.out] <;> first | rfl | (simp only [a1, hN, h6]; done) | (simp only [a1, hN, h6]; rfl) | simp [a1, hN, h6]), by first | exact K4.out | exact K3.out | exact K2.out⟩
  · have KND : Hid (Pl.inKind ⟨19, 1, r, m, k, e, s⟩ = (((1 : Int) == 2) && ((((s == 0) && (r == 0)) && Pl.nowO m e) || ((s == 1) && Pl.zeroO m k e)))) := hide rfl
    go_wp2_with (first | (go_at_call 47; refine (specNow m k e _).mono ?_; rintro e9 w3 ⟨rfl, k3⟩; rw [hN]; have B3 := hide (B2.out.kept0 k3); have K3 := hide (K2.out.trans k3); have d0 := B3.out.cell (i := 0) rfl; have d1 := B3.out.cell (i := 1) rfl; have d2 := B3.out.cell (i := 2) rfl; have d3 := B3.out.cell (i := 3) rfl; have d4 := B3.out.cell (i := 4) rfl; have d5 := B3.out.cell (i := 5) rfl; have d6 := B3.out.cell (i := 6) rfl; clear k3) | (go_at_call 48; have z9 := B3; refine (specZero m k e _).mono ?_; rintro e9 w4 ⟨rfl, k4⟩; have B4 := hide (B3.out.kept0 k4); have K4 := hide (K3.out.trans k4); have f0 := B4.out.cell (i := 0) rfl; have f1 := B4.out.cell (i := 1) rfl; have f2 := B4.out.cell (i := 2) rfl; have f3 := B4.out.cell (i := 3) rfl; have f4 := B4.out.cell (i := 4) rfl; have f5 := B4.out.cell (i := 5) rfl; have f6 := B4.out.cell (i := 6) rfl; clear k4) | (go_at_call 48; refine (specZero m k e _).mono ?_; rintro e9 w4 ⟨rfl, k4⟩; have B4 := hide (B2.out.kept0 k4); have K4 := hide (K2.out.trans k4); have f0 := B4.out.cell (i := 0) rfl; have f1 := B4.out.cell (i := 1) rfl; have f2 := B4.out.cell (i := 2) rfl; have f3 := B4.out.cell (i := 3) rfl; have f4 := B4.out.cell (i := 4) rfl; have f5 := B4.out.cell (i := 5) rfl; have f6 := B4.out.cell (i := 6) rfl; clear k4))
    go_ret
    exact ⟨rB (by rw [G.out, KND.out] <;> first | rfl | (simp only [hN, h6]; done) | (simp only [hN, h6]; rfl) | simp [hN, h6]), by first | exact K4.out | exact K3.out | exact K2.out⟩
  · obtain ⟨q1, q2, q3, q4, q5, q6, q7, q8, q9, q10, q11, q12, q13, q14, q15, q16, q17, q18, q19⟩ := hno
    have KND : Hid (Pl.inKind ⟨op, 1, r, m, k, e, s⟩ = false) := hide (by simp [Pl.inKind, q1, q2, q3, q4, q5, q6, q7, q8, q9, q10, q11, q12, q13, q14, q15, q16, q17, q18, q19])
    go_wp2_with fail
    go_ret
    exact ⟨rB (by rw [G.out, KND.out]), K2.out⟩
end Go.Proofs.YtndphgidmlmkoaaDoor

