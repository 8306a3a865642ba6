/- The plain arithmetic beneath the walks of chapter 1: what masks, values with a sign and flags are, as functions on whole numbers. No Go text is spoken of here. Small things that every walk of ours leans on: equal answers, a fact kept from the walk, and what the model's test of a range answers. Worlds that grow, one block of them written: three small laws. What the laws' own functions over lists of whole numbers do: compare, copy, mark, look for the marks. What the laws' own functions do that copy a list of whole numbers, mark it, and look for the marks. Lists that were answered, kept over calls that change other blocks: what the laws on lists lean on. What is said of worlds, blocks and lists by every law on structs with lists: blocks kept outside a span, lists in blocks of a span, a block's cells, copies; no text of a chapter is spoken of here. Lists of whatever cells: rows, lists in blocks of their own. What the laws' own functions over lists of Ins do (structs of 7 whole numbers, laid one behind the other): compare, copy, mark. A list of n is spoken of as the row of its 7 * n numbers. Registers in numbers, and what is done to them: plain arithmetic; no Go text is spoken of here. Instructions in numbers: plain arithmetic; no Go text is spoken of here. Conditions in numbers: plain arithmetic; no Go text is spoken of here. Flags that nobody reads, in numbers: plain arithmetic; no Go text is spoken of here. Units in numbers: plain arithmetic; no Go text is spoken of here. Lists of micros (nine cells each: seven of an instruction, a place, a bool), and what the laws' own functions over them and over units do. What the laws' own functions over lists of micros and over units do: measure, compare, copy. Stores in numbers: plain arithmetic; no Go text is spoken of here. Stores: lists of kept units in cells, and what the laws' own functions do with them: measure, compare, copy. Copying kept units: what the laws' toCached answers. Shelves: the units of a store in a map, by the place where they begin. What the model's l16OwnUnit answers. -/
import Derived.WalkKit
import Derived.Test.YtflnodadeajmcaaGreatProg
import Derived.WalkSpells
import Derived.WalkLawsBesides
import Derived.OpenShut
import Derived.Deep.QuietTactic
import Derived.BigQuiet
import Derived.RegionTactic
import Derived.ChangeAlike
import Derived.BigRegion
import Derived.Deep.RegionWith
import Derived.Laws.Rows
import Derived.Laws.ResultCell
import Derived.Laws.CopyOwn
import Derived.Maps.AppendAt
import Derived.Laws.AppendOwnNone
import Derived.Maps.RangeWalk
namespace Go.Proofs.YtflnodadeajmcaaGreat.Pl

theorem and1 (a : Int) : bits .and .i64 a 1 = a % 2 := by
  show IntKind.i64.wrap ((BitVec.ofInt 64 a &&& BitVec.ofInt 64 1).toNat : Int) = _
  rw [BitVec.toNat_and, BitVec.toNat_ofInt, show (BitVec.ofInt 64 1).toNat = 2 ^ 1 - 1 from by decide, Nat.and_two_pow_sub_one_eq_mod, IntKind.wrap_i64]
  omega

/-- how many values a size has -/
def top (s : Int) : Int := if s = 1 then 256 else 65536
/-- a value of a size -/
def okv (s v : Int) : Bool := (decide (s = 1) || decide (s = 2)) && (decide (0 ≤ v) && decide (v < top s))
/-- a value as a number with a sign -/
def sg (s v : Int) : Int := if top s / 2 ≤ v then v - top s else v
/-- a flag where something is so -/
def fl (b : Bool) (f : Int) : Int := if b then f else 0
def sgnV (s v : Int) : Int := if okv s v = true then sg s v else 0
def flags (f : Int) : Bool := decide (0 ≤ f) && decide (f ≤ 31)
theorem top_ok {s v : Int} (h : okv s v = true) : (s = 1 ∧ top s = 256 ∨ s = 2 ∧ top s = 65536) ∧ 0 ≤ v ∧ v < top s := by
  simp [okv] at h
  obtain ⟨h1, h2, h3⟩ := h
  refine ⟨?_, h2, h3⟩
  rcases h1 with rfl | rfl
  · exact .inl ⟨rfl, rfl⟩
  · exact .inr ⟨rfl, rfl⟩

theorem wraps_i64 (n : Int) (h₀ : 0 ≤ n) (h₁ : n < 2 ^ 62) : IntKind.i64.wrap n = n := by rw [IntKind.wrap_i64]; omega
end Go.Proofs.YtflnodadeajmcaaGreat.Pl

namespace Go.Proofs.YtflnodadeajmcaaGreat
open Go.RowKit
set_option linter.unusedVariables false

/- long words made short -/
abbrev iv (n : Int) : Value := .int .i64 n
abbrev inA (op z r m k e s : Int) : Array Value := #[.int .i64 op, .int .i64 z, .int .i64 r, .int .i64 m, .int .i64 k, .int .i64 e, .int .i64 s]
theorem st {P : Program} {f : FuncId} {a : Array Value} {w : World} {r : Ending} {Q : Ending → World → Prop} (h : Calls P f a w fun e w' => e = r ∧ w' = w) (q : Q r w) : Calls P f a w Q := h.mono (by rintro e w' ⟨rfl, rfl⟩; exact q)
theorem hide {p : Prop} (h : p) : Hid p := h
theorem rI {a b : Int} (h : a = b) : Ending.returned (.int .i64 a) = .returned (.int .i64 b) := by rw [h]
theorem rB {a b : Bool} (h : a = b) : Ending.returned (.bool a) = .returned (.bool b) := by rw [h]
theorem rIB {a b : Int} {c d : Bool} (h : a = b) (k : c = d) : Ending.returned (.tuple #[.int .i64 a, .bool c]) = .returned (.tuple #[.int .i64 b, .bool d]) := by rw [h, k]
theorem l1In (n lo hi : Int) (w : World) :
    Calls Tryz.prog 41 #[.int .i64 n, .int .i64 lo, .int .i64 hi] w fun e w' => e = .returned (.bool (decide (lo ≤ n) && decide (n ≤ hi))) ∧ w' = w := by
  by_cases h0 : lo ≤ n
  all_goals
    by_cases h1 : n ≤ hi
    all_goals
      go_enter Tryz.func41, Tryz.ntmps41
      go_wp2
      go_ret
      exact ⟨rB (by simp; omega), rfl⟩

end Go.Proofs.YtflnodadeajmcaaGreat

namespace Go.Proofs.YtflnodadeajmcaaGreat
open Go.RowKit
set_option linter.unusedVariables false

theorem grownBy_set (w : World) (b o : Nat) (v : Value) : w.grownBy (w.setCell ⟨b, o, none⟩ v) (some b) :=
  ⟨rfl, rfl, rfl, by simp, fun k hk hne => Below.heap_setCell _ _ _ _ (fun e => hne (by rw [e]))⟩

theorem grownBy_trans {a b c : World} {row : Option Nat} (h : a.grownBy b row) (k : b.grownBy c row) : a.grownBy c row :=
  ⟨k.os.trans h.os, k.tape.trans h.tape, k.output.trans h.output, Nat.le_trans h.size k.size, fun i hi hne => (k.block i (Nat.lt_of_lt_of_le hi h.size) hne).trans (h.block i hi hne)⟩

theorem grownBy_drew {a b : World} {row : Option Nat} (h : a.grownBy b row) : a.grownBy b.drew row := ⟨h.os, h.tape, h.output, h.size, h.block⟩

end Go.Proofs.YtflnodadeajmcaaGreat

namespace Go.Proofs.YtflnodadeajmcaaGreat
open Go.RowKit
set_option linter.unusedVariables false

/-- a list of whole numbers lies in memory from address a on -/
def IRow (w : World) (a : Option Addr) (xs : List Int) : Prop :=
  ∀ i : Nat, i < xs.length → ∃ g off : Nat, a = some ⟨g, off, none⟩ ∧ w.cell? ⟨g, off + i, none⟩ = some (iv (xs[i]?.getD 0))

theorem IRow.kept {w w' : World} {a : Option Addr} {xs : List Int} (h : IRow w a xs) (hg : w.grownBy w' none) : IRow w' a xs := by
  intro i hi
  obtain ⟨g, off, ea, hc⟩ := h i hi
  exact ⟨g, off, ea, hg.cell hc (by simp)⟩

theorem ext_of {xs ys : List Int} (hl : xs.length = ys.length) (h : ∀ i, i < xs.length → xs[i]?.getD 0 = ys[i]?.getD 0) : xs = ys := by
  apply List.ext_getElem hl
  intro i h1 h2
  have := h i h1
  simpa [h1, h2] using this

theorem snoc_all {p : Nat → Prop} {k : Nat} (h : ∀ i, i < k → p i) (hk : p k) : ∀ i, i < k + 1 → p i := by
  intro i hi
  by_cases e : i = k
  · rw [e]; exact hk
  · exact h i (by omega)

theorem eqIntS (w : World) (a b : Option Addr) (ca cb : Nat) (xs ys : List Int) (ha : IRow w a xs) (hb : IRow w b ys) (lx : xs.length ≤ 2000000) (ly : ys.length ≤ 2000000) :
    Calls Tryz.prog 38 #[.slice a xs.length ca, .slice b ys.length cb] w fun e w' => e = .returned (.bool (decide (xs = ys))) ∧ w.grownBy w' none := by
  by_cases hl : xs.length = ys.length
  · have kl : (((xs.length : Nat) : Int) != ((ys.length : Nat) : Int)) = false := by simp [hl]
    have HL : Hid (xs.length = ys.length) := hl
    clear hl
    go_enter Tryz.func38, Tryz.ntmps38
    go_wp2
    go_loopw [5] (fun j wr => ∃ k : Nat, k ≤ xs.length ∧ j = iv k ∧ (∀ i, i < k → xs[i]?.getD 0 = ys[i]?.getD 0) ∧ w.grownBy wr none) (fun j _ => xs.length - (intOf j).toNat)
    case atStart => exact ⟨0, Nat.zero_le _, rfl, fun i hi => absurd hi (Nat.not_lt_zero i), World.grownBy.refl _ _⟩
    case round =>
      obtain ⟨k, hk, rfl, heq, hg⟩ := hrel
      by_cases hlt : k < xs.length
      · obtain ⟨g1, o1, rfl, hc1⟩ := ha.kept hg k hlt
        obtain ⟨g2, o2, rfl, hc2⟩ := hb.kept hg k (by have := HL.out; omega)
        have hlt2 : k < ys.length := by have := HL.out; omega
        have HE : Hid (∀ i, i < k → xs[i]?.getD 0 = ys[i]?.getD 0) := heq
        clear heq ha hb
        by_cases he : xs[k] = ys[k]
        · have ke : (xs[k] != ys[k]) = false := by simpa using he
          have HK : Hid (xs[k] = ys[k]) := he
          clear he
          go_wp2
          go_region
          go_wp2
          go_roundw
          case rel => exact ⟨k + 1, by omega, by go_num, snoc_all HE.out (by simpa [hlt, hlt2] using HK.out), grownBy_drew hg⟩
          case measure => simp [intOf]; omega
        · have ke : (xs[k] != ys[k]) = true := by simpa using he
          have HK : Hid (¬ xs[k] = ys[k]) := he
          clear he
          go_wp2
          go_region
          go_wp2
          go_ret
          exact ⟨rB (by symm; rw [decide_eq_false_iff_not]; intro e; apply HK.out; simp [e]), grownBy_drew hg⟩
      · have HE : Hid (∀ i, i < k → xs[i]?.getD 0 = ys[i]?.getD 0) := heq
        clear heq
        go_wp2
        go_ret
        exact ⟨rB (by symm; rw [decide_eq_true_iff]; exact ext_of HL.out (fun i hi => HE.out i (by omega))), hg⟩
  · have kl : (((xs.length : Nat) : Int) != ((ys.length : Nat) : Int)) = true := by rw [bne_iff_ne]; omega
    have HL : Hid (¬ xs.length = ys.length) := hl
    clear hl
    go_enter Tryz.func38, Tryz.ntmps38
    go_wp2
    go_ret
    exact ⟨rB (by symm; rw [decide_eq_false_iff_not]; intro e; apply HL.out; rw [e]), World.grownBy.refl _ _⟩


end Go.Proofs.YtflnodadeajmcaaGreat

namespace Go.Proofs.YtflnodadeajmcaaGreat
open Go.RowKit
set_option linter.unusedVariables false

/-- a list of whole numbers that may be written, from the head of block g on -/
def Own (w : World) (g : Nat) (xs : List Int) : Prop :=
  ∀ i : Nat, i < xs.length → w.cell? ⟨g, i, none⟩ = some (iv (xs[i]?.getD 0)) ∧ w.frozen? ⟨g, i, none⟩ = false

theorem Own.kept {w w' : World} {g : Nat} {xs : List Int} {row : Option Nat} (h : Own w g xs) (hg : w.grownBy w' row) (hne : some g ≠ row) : Own w' g xs := by
  intro i hi
  obtain ⟨hc, hf⟩ := h i hi
  exact ⟨hg.cell hc hne, by rw [World.frozen?_of_block (w := w) (hg.block g (World.block_lt_of_cell? _ _ hc) hne)]; exact hf⟩

theorem Own.row {w : World} {g : Nat} {xs : List Int} (h : Own w g xs) : IRow w (some ⟨g, 0, none⟩) xs := by
  intro i hi
  exact ⟨g, 0, rfl, by simpa using (h i hi).1⟩

theorem Own.set {w : World} {g k : Nat} {xs : List Int} (h : Own w g xs) (z : Int) : Own (w.setCell ⟨g, k, none⟩ (iv z)) g (xs.set k z) := by
  intro i hi
  rw [List.length_set] at hi
  obtain ⟨hc, hf⟩ := h i hi
  refine ⟨?_, by simpa using hf⟩
  by_cases e : k = i
  · subst e
    rw [World.cell?_setCell_same _ _ _ hc]
    simp [hi]
  · rw [World.cell?_setCell_other _ _ _ _ (fun q => e (congrArg Addr.off q)), hc]
    simp [e]

theorem own_of_row {w : World} {base g n cap : Nat} {xs : List Int} (h : w.ownsRow base 3 1 (.slice (some ⟨g, 0, none⟩) n cap) n (xs.map (Value.int .i64))) : Own w g xs := by
  intro i hi
  have hc := h.cells (g := g) rfl i (iv (xs[i]?.getD 0)) (by simp [hi])
  have hadd : (⟨g, 0, none⟩ : Addr).add i = ⟨g, i, none⟩ := by unfold Addr.add; split <;> simp_all
  rw [hadd] at hc
  refine ⟨hc, ?_⟩
  rcases h.2 with ⟨e, _⟩ | ⟨g', cap', cur, e, _, hgg, _⟩
  · cases e
  · cases e
    simp [World.frozen?, hgg]

theorem copied {w wr : World} {xs zs : List Int} {k : Nat} (hlt : k < xs.length) (hl : zs.length = xs.length) (hown : Own wr w.heap.size zs) (heq : ∀ i, i < k → zs[i]?.getD 0 = xs[i]?.getD 0) (hsz : w.heap.size < wr.heap.size) (hg : w.grownBy wr none) :
    ∃ (k' : Nat) (zs' : List Int), k' ≤ xs.length ∧ Value.int .i64 ((k : Int) + 1) = iv k' ∧ zs'.length = xs.length ∧ Own (wr.setCell ⟨w.heap.size, k, none⟩ (iv xs[k])) w.heap.size zs' ∧ (∀ i, i < k' → zs'[i]?.getD 0 = xs[i]?.getD 0) ∧ w.heap.size < (wr.setCell ⟨w.heap.size, k, none⟩ (iv xs[k])).heap.size ∧ w.grownBy (wr.setCell ⟨w.heap.size, k, none⟩ (iv xs[k])) none := by
  refine ⟨k + 1, zs.set k xs[k], by omega, by go_num, by simpa using hl, hown.set _, ?_, by simpa using hsz, ?_⟩
  · intro i hi
    by_cases e : k = i
    · subst e; simp [hl, hlt]
    · rw [List.getElem?_set_ne e]; exact heq i (by omega)
  · exact ⟨hg.os, hg.tape, hg.output, by simpa using hg.size, fun j hj hne => (Below.heap_setCell _ _ _ _ (by simp; omega)).trans (hg.block j hj hne)⟩

theorem Tryz.info3 : (Tryz.prog.info? 3).map (fun i => (i.zero, i.size, i.bytes)) = some (some (iv 0), 1, 8) := by kernel_rfl

theorem toIntS (w : World) (a : Option Addr) (ca : Nat) (xs : List Int) (ha : IRow w a xs) (lx : xs.length ≤ 2000000) :
    Calls Tryz.prog 30 #[.slice a xs.length ca] w fun e w' => e = .returned (.slice (some ⟨w.heap.size, 0, none⟩) xs.length xs.length) ∧ Own w' w.heap.size xs ∧ w.heap.size < w'.heap.size ∧ w.grownBy w' none := by
  obtain ⟨i, hi, hz0, hz1, hz2⟩ := info_parts Tryz.info3
  go_enter Tryz.func30, Tryz.ntmps30
  go_wp2_with (first | (at_make; refine wpList_make_full _ rfl _ _ 22 rfl w.heap.size 3 i (iv 0) 1 Tryz.underlying22 hi hz0 hz1 _ _ _ _ xs.length rfl rfl rfl rfl ?c1 ?c2 ?c3 ?_))
  case c1 => rw [hz2]; omega
  case c2 => unfold maxLen; omega
  case c3 => exact Nat.le_refl _
  intro w1 hown hg
  have ho : Own w1 w.heap.size (List.replicate xs.length 0) := own_of_row (base := w.heap.size) (n := xs.length) (cap := xs.length) (by
    have e : (madeCells #[Value.int .i64 0] xs.length).toList = (List.replicate xs.length (0 : Int)).map (Value.int .i64) := by
      rw [toList_madeCells_one]; simp
    rw [← e]; exact hown)
  have hs : w.heap.size < w1.heap.size := (hown.lt _ rfl).2
  clear hown
  go_wp2
  go_loopw [4] (fun j wr => ∃ (k : Nat) (zs : List Int), k ≤ xs.length ∧ j = iv k ∧ zs.length = xs.length ∧ Own wr w.heap.size zs ∧ (∀ i, i < k → zs[i]?.getD 0 = xs[i]?.getD 0) ∧ w.heap.size < wr.heap.size ∧ w.grownBy wr none) (fun j _ => xs.length - (intOf j).toNat)
  case atStart => exact ⟨0, _, Nat.zero_le _, rfl, by simp, ho, fun i hi => absurd hi (Nat.not_lt_zero i), hs, hg⟩
  case round =>
    obtain ⟨k, zs, hk, rfl, hl, hown, heq, hsz, hgr⟩ := hrel
    by_cases hlt : k < xs.length
    · obtain ⟨g1, o1, rfl, hc1⟩ := ha.kept hgr k hlt
      obtain ⟨hc2, hf2⟩ := hown k (by omega)
      have HE : Hid (∀ i, i < k → zs[i]?.getD 0 = xs[i]?.getD 0) := heq
      have HL : Hid (zs.length = xs.length) := hl
      clear heq ha hl
      go_wp2
      go_roundw
      case rel => exact copied hlt HL.out hown HE.out hsz hgr
      case measure => simp [intOf]; omega
    · have HE : Hid (∀ i, i < k → zs[i]?.getD 0 = xs[i]?.getD 0) := heq
      have HL : Hid (zs.length = xs.length) := hl
      clear heq hl
      go_wp2
      go_ret
      have e : zs = xs := ext_of HL.out (fun i hi => HE.out i (by have := HL.out; omega))
      exact ⟨rfl, by rw [← e]; exact hown, hsz, hgr⟩

end Go.Proofs.YtflnodadeajmcaaGreat

namespace Go.Proofs.YtflnodadeajmcaaGreat
open Go.RowKit
set_option linter.unusedVariables false

def Wide (xs : List Int) : Prop := ∀ i : Nat, i < xs.length → -9223372036854775808 ≤ xs[i]?.getD 0 ∧ xs[i]?.getD 0 ≤ 9223372036854775807

end Go.Proofs.YtflnodadeajmcaaGreat

namespace Go.Proofs.YtflnodadeajmcaaGreat
open Go.RowKit
set_option linter.unusedVariables false

/-- the number at a place of a row -/
def el (xs : List Int) (i : Nat) : Int := xs[i]?.getD 0
theorem grownBy_alloc {a b : World} {row : Option Nat} (h : a.grownBy b row) (o : Obj) : a.grownBy (b.alloc o) row :=
  ⟨h.os, h.tape, h.output, Nat.le_trans h.size (by simp), fun k hk hne => (Below.heap_alloc _ _ _ (Nat.lt_of_lt_of_le hk h.size)).trans (h.block k hk hne)⟩
theorem results_one {fn : Func} {p : Tmp} {ty : TypeId} (h : fn.results = #[.cell p ty]) (tmps : Array Value) (P : Program) (w : World) :
    (results fn tmps).run P w = ((asAddr (tmps.getD p undef)).run P w).andThen fun a w₁ => (loadVar ty a).run P w₁ := by
  simp only [results, h]
  simp [Sem.run_bind, Result.andThen]
/-- of the blocks that were there those outside a span are as they were -/
structure Kept (lo hi : Nat) (w w' : World) : Prop where
  os : w'.os = w.os
  tape : w'.tape = w.tape
  output : w'.output = w.output
  size : w.heap.size ≤ w'.heap.size
  block : ∀ k, k < w.heap.size → ¬ (lo ≤ k ∧ k < hi) → w'.heap[k]? = w.heap[k]?

theorem Kept.refl (lo hi : Nat) (w : World) : Kept lo hi w w := ⟨rfl, rfl, rfl, Nat.le_refl _, fun _ _ _ => rfl⟩
theorem Kept.trans {lo hi : Nat} {a b c : World} (h : Kept lo hi a b) (k : Kept lo hi b c) : Kept lo hi a c :=
  ⟨k.os.trans h.os, k.tape.trans h.tape, k.output.trans h.output, Nat.le_trans h.size k.size, fun i hi hn => (k.block i (Nat.lt_of_lt_of_le hi h.size) hn).trans (h.block i hi hn)⟩
theorem Kept.wide {lo hi lo' hi' : Nat} {a b : World} (h : Kept lo hi a b) (hl : ∀ k, lo ≤ k → k < hi → lo' ≤ k ∧ k < hi') : Kept lo' hi' a b :=
  ⟨h.os, h.tape, h.output, h.size, fun i hi hn => h.block i hi (fun q => hn (hl i q.1 q.2))⟩
theorem Kept.any {lo hi : Nat} {a b : World} (h : Kept 0 0 a b) : Kept lo hi a b := h.wide (by omega)
theorem kept_grown {w w' : World} (h : w.grownBy w' none) : Kept 0 0 w w' := ⟨h.os, h.tape, h.output, h.size, fun k hk _ => h.block k hk (by simp)⟩
theorem kept_below {w w' : World} (h : Below w.heap.size w w') : Kept 0 0 w w' := ⟨h.os, h.tape, h.output, h.size, fun k hk _ => h.block k hk⟩
theorem Kept.below {w w' : World} (h : Kept 0 0 w w') : Below w.heap.size w w' := ⟨h.os, h.tape, h.output, h.size, fun k hk => h.block k hk (by omega)⟩
theorem Kept.grown {w w' : World} (h : Kept 0 0 w w') : w.grownBy w' none := ⟨h.os, h.tape, h.output, h.size, fun k hk _ => h.block k hk (by omega)⟩
theorem kept_row {w w' : World} {row : Option Nat} {lo hi : Nat} (h : w.grownBy w' row) (hr : ∀ g, row = some g → lo ≤ g ∧ g < hi) : Kept lo hi w w' :=
  ⟨h.os, h.tape, h.output, h.size, fun k hk hn => h.block k hk (fun e => hn (hr k e.symm))⟩
theorem kept_alloc (w : World) (o : Obj) : Kept 0 0 w (w.alloc o) := kept_below ((Below.refl _ w).alloc (Nat.le_refl _) o)
theorem kept_drew {lo hi : Nat} {w w' : World} (h : Kept lo hi w w') : Kept lo hi w w'.drew := ⟨h.os, h.tape, h.output, h.size, h.block⟩
theorem kept_drewN {lo hi : Nat} {w w' : World} (h : Kept lo hi w w') (n : Nat) : Kept lo hi w (w'.drewN n) := ⟨h.os, h.tape, h.output, h.size, h.block⟩
theorem Own.keptS {w w' : World} {g : Nat} {xs : List Int} {lo hi : Nat} (h : Own w g xs) (k : Kept lo hi w w') (hn : ¬ (lo ≤ g ∧ g < hi)) : Own w' g xs := by
  intro i hi'
  obtain ⟨hc, hf⟩ := h i hi'
  have e := k.block g (World.block_lt_of_cell? _ _ hc) hn
  exact ⟨by rw [World.cell?_of_block (w := w) e]; exact hc, by rw [World.frozen?_of_block (w := w) e]; exact hf⟩

/-- a list at address a: nil, or from the head of a block of the span on -/
def SlotIn (w : World) (lo hi : Nat) (a : Option Addr) (xs : List Int) : Prop :=
  (a = none ∧ xs = []) ∨ ∃ g : Nat, a = some ⟨g, 0, none⟩ ∧ lo ≤ g ∧ g < hi ∧ Own w g xs
theorem SlotIn.kept {w w' : World} {l h lo hi : Nat} {a : Option Addr} {xs : List Int} (s : SlotIn w l h a xs) (k : Kept lo hi w w') (hd : h ≤ lo ∨ hi ≤ l ∨ hi ≤ lo) : SlotIn w' l h a xs := by
  rcases s with s | ⟨g, ea, g0, g1, ho⟩
  · exact .inl s
  · exact .inr ⟨g, ea, g0, g1, ho.keptS k (by omega)⟩
theorem SlotIn.row {w : World} {l h : Nat} {a : Option Addr} {xs : List Int} (s : SlotIn w l h a xs) : IRow w a xs := by
  rcases s with ⟨_, rfl⟩ | ⟨g, rfl, _, _, ho⟩
  · intro i hi; exact absurd hi (Nat.not_lt_zero i)
  · exact ho.row
/-- a block that holds these cells -/
def Blk (w : World) (b : Nat) (cs : Array Value) (ty : TypeId) : Prop := w.heap[b]? = some (.cells cs ty)
theorem Blk.lt {w : World} {b : Nat} {cs : Array Value} {ty : TypeId} (h : Blk w b cs ty) : b < w.heap.size := by
  unfold Blk at h
  rcases Nat.lt_or_ge b w.heap.size with h' | h'
  · exact h'
  · rw [Array.getElem?_eq_none h'] at h; cases h
theorem Blk.kept {w w' : World} {b : Nat} {cs : Array Value} {ty : TypeId} {lo hi : Nat} (h : Blk w b cs ty) (k : Kept lo hi w w') (hn : ¬ (lo ≤ b ∧ b < hi)) : Blk w' b cs ty := (k.block b h.lt hn).trans h
theorem Blk.kept0 {w w' : World} {b : Nat} {cs : Array Value} {ty : TypeId} (h : Blk w b cs ty) (k : Kept 0 0 w w') : Blk w' b cs ty := h.kept k (by omega)
theorem Blk.cell {w : World} {b : Nat} {cs : Array Value} {ty : TypeId} (h : Blk w b cs ty) {i : Nat} {v : Value} (hi : cs[i]? = some v) : w.cell? ⟨b, i, none⟩ = some v := by
  unfold Blk at h
  simp [World.cell?, h, hi]
theorem Blk.frozen {w : World} {b : Nat} {cs : Array Value} {ty : TypeId} (h : Blk w b cs ty) (i : Nat) : w.frozen? ⟨b, i, none⟩ = false := by
  unfold Blk at h
  simp [World.frozen?, h]
theorem Blk.set {w : World} {b : Nat} {cs : Array Value} {ty : TypeId} (h : Blk w b cs ty) (i : Nat) (v : Value) : Blk (w.setCell ⟨b, i, none⟩ v) b (cs.setIfInBounds i v) ty := by
  unfold Blk at h ⊢
  simp [World.setCell, Array.getElem?_modify, h]
theorem Blk.other {w : World} {b : Nat} {cs : Array Value} {ty : TypeId} (h : Blk w b cs ty) (c i : Nat) (v : Value) (hn : b ≠ c) : Blk (w.setCell ⟨c, i, none⟩ v) b cs ty :=
  (Below.heap_setCell _ _ _ _ (by simpa using hn)).trans h
theorem Blk.new (w : World) (cs : Array Value) (ty : TypeId) : Blk (w.alloc (.cells cs ty)) w.heap.size cs ty := heap_alloc_new w _
theorem Blk.alloc {w : World} {b : Nat} {cs : Array Value} {ty : TypeId} (h : Blk w b cs ty) (o : Obj) : Blk (w.alloc o) b cs ty := (Below.heap_alloc _ _ _ h.lt).trans h
/-- a store into a block of the span -/
theorem kept_set {w w' : World} {lo hi : Nat} (h : Kept lo hi w w') (b i : Nat) (v : Value) (hb : (lo ≤ b ∧ b < hi) ∨ w.heap.size ≤ b) : Kept lo hi w (w'.setCell ⟨b, i, none⟩ v) :=
  ⟨h.os, h.tape, h.output, by simpa using h.size, fun k hk hn => (Below.heap_setCell _ _ _ _ (by simp; omega)).trans (h.block k hk hn)⟩
theorem kept_new {w w' : World} {lo hi : Nat} (h : Kept lo hi w w') (o : Obj) : Kept lo hi w (w'.alloc o) :=
  ⟨h.os, h.tape, h.output, Nat.le_trans h.size (by simp), fun k hk hn => (Below.heap_alloc _ _ _ (Nat.lt_of_lt_of_le hk h.size)).trans (h.block k hk hn)⟩
theorem Own.setOther {w : World} {g : Nat} {xs : List Int} (h : Own w g xs) (b i : Nat) (v : Value) (hn : g ≠ b) : Own (w.setCell ⟨b, i, none⟩ v) g xs := by
  intro j hj
  obtain ⟨hc, hf⟩ := h j hj
  exact ⟨by rw [World.cell?_setCell_other _ _ _ _ (fun e => hn (congrArg Addr.block e).symm)]; exact hc, by simpa using hf⟩
theorem IRow.keptS {w w' : World} {a : Option Addr} {xs : List Int} (h : IRow w a xs) (k : Kept 0 0 w w') : IRow w' a xs := h.kept k.grown

/-- a row of numbers that the kind int holds, at address a -/
def Came (w : World) (a : Option Addr) (xs : List Int) : Prop := IRow w a xs ∧ Wide xs
theorem Came.keptS {w w' : World} {a : Option Addr} {xs : List Int} (h : Came w a xs) (k : Kept 0 0 w w') : Came w' a xs := ⟨h.1.keptS k, h.2⟩
theorem Own.came {w : World} {g : Nat} {xs : List Int} (h : Own w g xs) (hw : Wide xs) : Came w (some ⟨g, 0, none⟩) xs := ⟨h.row, hw⟩

theorem undrewK {lo hi : Nat} {w w' : World} (h : Kept lo hi w.drew w') : Kept lo hi w w' := ⟨h.os, h.tape, h.output, h.size, h.block⟩
theorem news_of {w : World} {g off : Nat} {xs : List Int} (h : IRow w (some ⟨g, off, none⟩) xs) : ∀ j u, (xs.map (Value.int .i64))[j]? = some u → w.cell? ((⟨g, off, none⟩ : Addr).add j) = some u := by
  intro j u hu
  have hj : j < xs.length := by
    rcases Nat.lt_or_ge j xs.length with h' | h'
    · exact h'
    · rw [List.getElem?_eq_none (by simpa using h')] at hu; cases hu
  obtain ⟨g', off', e, hc⟩ := h j hj
  cases e
  have e : u = iv (xs[j]?.getD 0) := by simpa [hj] using hu.symm
  rw [e]
  by_cases h0 : j = 0
  · subst h0; simpa [Addr.add] using hc
  · simpa [Addr.add, h0] using hc
theorem news_one {xs : List Int} : ∀ u ∈ xs.map (Value.int .i64), u.oneCell' = true := by
  intro u hu
  obtain ⟨z, _, rfl⟩ := List.mem_map.1 hu
  rfl
/-- a row of the call's own that is not empty: its value written out -/
theorem own_form {w : World} {base : Nat} {e : TypeId} {size : Nat} {v : Value} {n : Nat} {xs : List Value} (h : w.ownsRow base e size v n xs) (hn : 0 < n) : ∃ g cap : Nat, v = .slice (some ⟨g, 0, none⟩) n cap ∧ base ≤ g ∧ g < w.heap.size := by
  rcases h.2 with ⟨_, e⟩ | ⟨g, cap, cur, rfl, hb, _⟩
  · omega
  · exact ⟨g, cap, rfl, hb, (h.lt g rfl).2⟩
namespace Pl
end Pl
/-- a row of numbers as an array's cells -/
def cellsOf (xs : List Int) : Array Value := (xs.map (Value.int .i64)).toArray
theorem cellsOf_size (xs : List Int) : (cellsOf xs).size = xs.length := by simp [cellsOf]
theorem cellsOf_one (xs : List Int) : (cellsOf xs).all (·.oneCell') = true := by
  rw [Array.all_eq_true_iff_forall_mem]
  intro v hv
  simp [cellsOf] at hv
  obtain ⟨z, _, rfl⟩ := hv
  rfl
theorem kept_setRow {w w' : World} (h : Kept 0 0 w w') (g : Nat) (cs : Array Value) (hg : w.heap.size ≤ g) : Kept 0 0 w (w'.setRow g cs) :=
  ⟨h.os, h.tape, h.output, by simpa using h.size, fun k hk hn => (setRow_other w' g k cs (by omega)).trans (h.block k hk hn)⟩
theorem Blk.setRow {w : World} {b : Nat} {cs ds : Array Value} {ty : TypeId} (h : Blk w b cs ty) : Blk (w.setRow b ds) b ds ty := setRow_heap w b cs ds ty _ h
theorem Blk.setRowOther {w : World} {b g : Nat} {cs ds : Array Value} {ty : TypeId} (h : Blk w b cs ty) (hn : b ≠ g) : Blk (w.setRow g ds) b cs ty := (setRow_other w g b ds hn).trans h
theorem splice_all {cur cs : List Value} (h : cur.length = cs.length) : splice cur 0 cs = cs := by
  unfold splice
  rw [List.take_zero, List.nil_append, List.drop_eq_nil_of_le (by omega), List.append_nil]
theorem kept_lower {w W w' : World} {B : Nat} (k : Kept 0 0 w W) (h : Below B W w') (hB : w.heap.size ≤ B) : Kept 0 0 w w' :=
  ⟨h.os.trans k.os, h.tape.trans k.tape, h.output.trans k.output, Nat.le_trans k.size h.size, fun i hi hn => (h.block i (by omega)).trans (k.block i hi hn)⟩
theorem own_of_blk {w : World} {g : Nat} {xs : List Int} {e : TypeId} (h : Blk w g (cellsOf xs) e) : Own w g xs := by
  intro i hi
  refine ⟨h.cell (by simp [cellsOf, hi]), h.frozen i⟩
theorem kept_over {w W W' : World} {lo hi : Nat} (k : Kept 0 0 w W) (h : Kept lo hi W W') (hg : w.heap.size ≤ lo) : Kept 0 0 w W' :=
  ⟨h.os.trans k.os, h.tape.trans k.tape, h.output.trans k.output, Nat.le_trans k.size h.size, fun i hi hn => (h.block i (Nat.lt_of_lt_of_le hi k.size) (by omega)).trans (k.block i hi hn)⟩
/-- what is left of a measure, or -1 -/
def szB (n m : Nat) (left : Int) : Int := if left - (n : Int) < 0 then -1 else if left - (n : Int) - (m : Int) < 0 then -1 else left - (n : Int) - (m : Int)
theorem szB_neg {n m : Nat} {left : Int} (h : ¬ szB n m left < 0) : (n : Int) + (m : Int) ≤ left := by
  unfold szB at h
  split at h
  · exact absurd (by decide) h
  · split at h
    · exact absurd (by decide) h
    · omega
theorem szB_le {n m : Nat} {left : Int} (l0 : 0 ≤ left) (h : ¬ szB n m left < 0) : 0 ≤ szB n m left ∧ szB n m left ≤ left := by
  unfold szB at h ⊢
  split at h
  · exact absurd (by decide) h
  · split at h
    · exact absurd (by decide) h
    · rename_i h1 h2
      rw [if_neg h1, if_neg h2]; omega
theorem Blk.all {w : World} {b : Nat} {cs : Array Value} {ty : TypeId} (h : Blk w b cs ty) (i : Nat) : w.cell? ⟨b, i, none⟩ = cs[i]? := by
  have e : w.heap[b]? = some (.cells cs ty (0, 0)) := h
  unfold World.cell?
  dsimp only
  rw [e]
  simp
theorem Blk.fz {w : World} {b : Nat} {cs : Array Value} {ty : TypeId} (h : Blk w b cs ty) (i : Nat) : w.frozen? ⟨b, i, none⟩ = false := h.frozen i
end Go.Proofs.YtflnodadeajmcaaGreat

namespace Go.Proofs.YtflnodadeajmcaaGreat
open Go.RowKit
set_option linter.unusedVariables false
/-- the value at a place of a row of cells -/
def vl (vs : List Value) (i : Nat) : Value := vs[i]?.getD (.bool false)
def VRow (w : World) (a : Option Addr) (vs : List Value) : Prop :=
  ∀ i : Nat, i < vs.length → ∃ g off : Nat, a = some ⟨g, off, none⟩ ∧ w.cell? ⟨g, off + i, none⟩ = some (vl vs i)
def VOwn (w : World) (g : Nat) (vs : List Value) : Prop :=
  ∀ i : Nat, i < vs.length → w.cell? ⟨g, i, none⟩ = some (vl vs i) ∧ w.frozen? ⟨g, i, none⟩ = false
theorem VRow.keptS {w w' : World} {a : Option Addr} {vs : List Value} (h : VRow w a vs) (k : Kept 0 0 w w') : VRow w' a vs := by
  intro i hi
  obtain ⟨g, off, ea, hc⟩ := h i hi
  refine ⟨g, off, ea, ?_⟩
  rw [World.cell?_of_block (w := w) (k.block g (World.block_lt_of_cell? _ _ hc) (by omega))]
  exact hc
theorem VOwn.keptS {w w' : World} {g : Nat} {vs : List Value} {lo hi : Nat} (h : VOwn w g vs) (k : Kept lo hi w w') (hn : ¬ (lo ≤ g ∧ g < hi)) : VOwn w' g vs := by
  intro i hi'
  obtain ⟨hc, hf⟩ := h i hi'
  have e := k.block g (World.block_lt_of_cell? _ _ hc) hn
  exact ⟨by rw [World.cell?_of_block (w := w) e]; exact hc, by rw [World.frozen?_of_block (w := w) e]; exact hf⟩
theorem VOwn.row {w : World} {g : Nat} {vs : List Value} (h : VOwn w g vs) : VRow w (some ⟨g, 0, none⟩) vs := by
  intro i hi
  exact ⟨g, 0, rfl, by rw [Nat.zero_add]; exact (h i hi).1⟩
theorem VOwn.set {w : World} {g k : Nat} {vs : List Value} (h : VOwn w g vs) (z : Value) : VOwn (w.setCell ⟨g, k, none⟩ z) g (vs.set k z) := by
  intro i hi
  rw [List.length_set] at hi
  obtain ⟨hc, hf⟩ := h i hi
  refine ⟨?_, by simpa using hf⟩
  unfold vl
  by_cases e : k = i
  · subst e
    rw [World.cell?_setCell_same _ _ _ hc]
    simp [hi]
  · rw [World.cell?_setCell_other _ _ _ _ (fun q => e (congrArg Addr.off q)), hc]
    simp [e, vl]
theorem VOwn.setOther {w : World} {g : Nat} {vs : List Value} (h : VOwn w g vs) (b i : Nat) (v : Value) (hn : g ≠ b) : VOwn (w.setCell ⟨b, i, none⟩ v) g vs := by
  intro j hj
  obtain ⟨hc, hf⟩ := h j hj
  refine ⟨?_, by simpa using hf⟩
  rw [World.cell?_setCell_other _ _ _ _ (fun q => hn (congrArg Addr.block q).symm), hc]
theorem extV {vs us : List Value} (hl : vs.length = us.length) (h : ∀ i, i < vs.length → vl vs i = vl us i) : vs = us := by
  apply List.ext_getElem hl
  intro i h1 h2
  have := h i h1
  simpa [vl, h1, h2] using this
theorem vl_old {vs : List Value} {k i : Nat} {v : Value} (h : k ≠ i) : vl (vs.set k v) i = vl vs i := by unfold vl; rw [List.getElem?_set_ne h]
theorem vl_new {vs : List Value} {k : Nat} {v : Value} (h : k < vs.length) : vl (vs.set k v) k = v := by unfold vl; rw [List.getElem?_set_self h]; rfl
/-- a list that was made: its block's cells -/
theorem vown_made {w : World} {base g n sz cap : Nat} {ty : TypeId} {vs : List Value} (h : w.ownsRow base ty sz (.slice (some ⟨g, 0, none⟩) n cap) n vs) (hl : vs.length = n * sz) : VOwn w g vs := by
  intro i hi
  rcases h with ⟨hl2, ⟨e, _⟩ | ⟨g', cap', cur, e, _, hgg, hn, _, hsz, ht⟩⟩
  · cases e
  · cases e
    have hc : cur[i]? = some (vl vs i) := by
      have : (cur.toList.take (n * sz))[i]? = vs[i]? := by rw [ht]
      rw [List.getElem?_take, if_pos (by omega)] at this
      simpa [hi, vl] using this
    refine ⟨?_, ?_⟩
    · simp [World.cell?, hgg, hc]
    · simp [World.frozen?, hgg]
theorem grown_setV {w wr : World} {g : Nat} {row : Option Nat} (h : w.grownBy wr row) (hr : row = some g ∨ w.heap.size ≤ g) (k : Nat) (v : Value) : w.grownBy (wr.setCell ⟨g, k, none⟩ v) row :=
  ⟨h.os, h.tape, h.output, by simpa using h.size, fun j hj hne => (Below.heap_setCell _ _ _ _ (by
    rcases hr with rfl | hr
    · intro q; apply hne; rw [q]
    · simp; omega)).trans (h.block j hj hne)⟩
end Go.Proofs.YtflnodadeajmcaaGreat

namespace Go.Proofs.YtflnodadeajmcaaGreat
open Go.RowKit
set_option linter.unusedVariables false

theorem IRow.at7 {w : World} {a : Option Addr} {xs : List Int} (h : IRow w a xs) {n k : Nat} (hl : xs.length = 7 * n) (hk : k < n) :
    ∃ g off : Nat, a = some ⟨g, off, none⟩ ∧ w.cell? ⟨g, off + k * 7, none⟩ = some (.int .i64 (el xs (k * 7))) ∧ w.cell? ⟨g, off + k * 7 + 1, none⟩ = some (.int .i64 (el xs (k * 7 + 1))) ∧ w.cell? ⟨g, off + k * 7 + 2, none⟩ = some (.int .i64 (el xs (k * 7 + 2))) ∧ w.cell? ⟨g, off + k * 7 + 3, none⟩ = some (.int .i64 (el xs (k * 7 + 3))) ∧ w.cell? ⟨g, off + k * 7 + 4, none⟩ = some (.int .i64 (el xs (k * 7 + 4))) ∧ w.cell? ⟨g, off + k * 7 + 5, none⟩ = some (.int .i64 (el xs (k * 7 + 5))) ∧ w.cell? ⟨g, off + k * 7 + 6, none⟩ = some (.int .i64 (el xs (k * 7 + 6))) := by
  obtain ⟨g, off, ea, c0⟩ := h (k * 7) (by omega)
  have pick : ∀ j, j < 7 → w.cell? ⟨g, off + k * 7 + j, none⟩ = some (.int .i64 (el xs (k * 7 + j))) := by
    intro j hj
    obtain ⟨g', off', ea', c⟩ := h (k * 7 + j) (by omega)
    rw [ea] at ea'
    cases ea'
    rw [Nat.add_assoc]; exact c
  exact ⟨g, off, ea, c0, pick 1 (by decide), pick 2 (by decide), pick 3 (by decide), pick 4 (by decide), pick 5 (by decide), pick 6 (by decide)⟩

theorem Own.at7 {w : World} {g : Nat} {xs : List Int} (h : Own w g xs) {n k : Nat} (hl : xs.length = 7 * n) (hk : k < n) :
    (w.cell? ⟨g, k * 7, none⟩ = some (.int .i64 (el xs (k * 7))) ∧ w.cell? ⟨g, k * 7 + 1, none⟩ = some (.int .i64 (el xs (k * 7 + 1))) ∧ w.cell? ⟨g, k * 7 + 2, none⟩ = some (.int .i64 (el xs (k * 7 + 2))) ∧ w.cell? ⟨g, k * 7 + 3, none⟩ = some (.int .i64 (el xs (k * 7 + 3))) ∧ w.cell? ⟨g, k * 7 + 4, none⟩ = some (.int .i64 (el xs (k * 7 + 4))) ∧ w.cell? ⟨g, k * 7 + 5, none⟩ = some (.int .i64 (el xs (k * 7 + 5))) ∧ w.cell? ⟨g, k * 7 + 6, none⟩ = some (.int .i64 (el xs (k * 7 + 6)))) ∧ w.frozen? ⟨g, k * 7, none⟩ = false ∧ w.frozen? ⟨g, k * 7 + 1, none⟩ = false ∧ w.frozen? ⟨g, k * 7 + 2, none⟩ = false ∧ w.frozen? ⟨g, k * 7 + 3, none⟩ = false ∧ w.frozen? ⟨g, k * 7 + 4, none⟩ = false ∧ w.frozen? ⟨g, k * 7 + 5, none⟩ = false ∧ w.frozen? ⟨g, k * 7 + 6, none⟩ = false :=
  ⟨⟨(h (k * 7) (by omega)).1, (h (k * 7 + 1) (by omega)).1, (h (k * 7 + 2) (by omega)).1, (h (k * 7 + 3) (by omega)).1, (h (k * 7 + 4) (by omega)).1, (h (k * 7 + 5) (by omega)).1, (h (k * 7 + 6) (by omega)).1⟩, (h (k * 7) (by omega)).2, (h (k * 7 + 1) (by omega)).2, (h (k * 7 + 2) (by omega)).2, (h (k * 7 + 3) (by omega)).2, (h (k * 7 + 4) (by omega)).2, (h (k * 7 + 5) (by omega)).2, (h (k * 7 + 6) (by omega)).2⟩

theorem snoc7 {p : Nat → Prop} {k : Nat} (h : ∀ i, i < k * 7 → p i) (h0 : p (k * 7)) (h1 : p (k * 7 + 1)) (h2 : p (k * 7 + 2)) (h3 : p (k * 7 + 3)) (h4 : p (k * 7 + 4)) (h5 : p (k * 7 + 5)) (h6 : p (k * 7 + 6)) : ∀ i, i < (k + 1) * 7 → p i := by
  intro i hi
  by_cases e : i < k * 7
  · exact h i e
  · obtain rfl | rfl | rfl | rfl | rfl | rfl | rfl : i = k * 7 ∨ i = k * 7 + 1 ∨ i = k * 7 + 2 ∨ i = k * 7 + 3 ∨ i = k * 7 + 4 ∨ i = k * 7 + 5 ∨ i = k * 7 + 6 := by omega
    all_goals assumption

/-- 7 places of a row, written -/
def set7 (xs : List Int) (k : Nat) (a b c d e f x : Int) : List Int := (((((((xs.set (k * 7) a).set (k * 7 + 1) b).set (k * 7 + 2) c).set (k * 7 + 3) d).set (k * 7 + 4) e).set (k * 7 + 5) f).set (k * 7 + 6) x)
theorem set7_len (xs : List Int) (k : Nat) (a b c d e f x : Int) : (set7 xs k a b c d e f x).length = xs.length := by simp [set7]
theorem set7_old {xs : List Int} {k : Nat} {a b c d e f x : Int} {i : Nat} (h : i < k * 7) : el (set7 xs k a b c d e f x) i = el xs i := by
  unfold el set7
  rw [List.getElem?_set_ne (by omega), List.getElem?_set_ne (by omega), List.getElem?_set_ne (by omega), List.getElem?_set_ne (by omega), List.getElem?_set_ne (by omega), List.getElem?_set_ne (by omega), List.getElem?_set_ne (by omega)]

theorem set7_new {xs : List Int} {k : Nat} {a b c d e f x : Int} (h : k * 7 + 6 < xs.length) : el (set7 xs k a b c d e f x) (k * 7) = a ∧ el (set7 xs k a b c d e f x) (k * 7 + 1) = b ∧ el (set7 xs k a b c d e f x) (k * 7 + 2) = c ∧ el (set7 xs k a b c d e f x) (k * 7 + 3) = d ∧ el (set7 xs k a b c d e f x) (k * 7 + 4) = e ∧ el (set7 xs k a b c d e f x) (k * 7 + 5) = f ∧ el (set7 xs k a b c d e f x) (k * 7 + 6) = x := by
  unfold el set7
  refine ⟨?_, ?_, ?_, ?_, ?_, ?_, ?_⟩
  · rw [List.getElem?_set_ne (by omega), List.getElem?_set_ne (by omega), List.getElem?_set_ne (by omega), List.getElem?_set_ne (by omega), List.getElem?_set_ne (by omega), List.getElem?_set_ne (by omega), List.getElem?_set_self (by omega)]; rfl
  · rw [List.getElem?_set_ne (by omega), List.getElem?_set_ne (by omega), List.getElem?_set_ne (by omega), List.getElem?_set_ne (by omega), List.getElem?_set_ne (by omega), List.getElem?_set_self (by simp; omega)]; rfl
  · rw [List.getElem?_set_ne (by omega), List.getElem?_set_ne (by omega), List.getElem?_set_ne (by omega), List.getElem?_set_ne (by omega), List.getElem?_set_self (by simp; omega)]; rfl
  · rw [List.getElem?_set_ne (by omega), List.getElem?_set_ne (by omega), List.getElem?_set_ne (by omega), List.getElem?_set_self (by simp; omega)]; rfl
  · rw [List.getElem?_set_ne (by omega), List.getElem?_set_ne (by omega), List.getElem?_set_self (by simp; omega)]; rfl
  · rw [List.getElem?_set_ne (by omega), List.getElem?_set_self (by simp; omega)]; rfl
  · rw [List.getElem?_set_self (by simp; omega)]; rfl

theorem Own.set7 {w : World} {g : Nat} {xs : List Int} (h : Own w g xs) (k : Nat) (a b c d e f x : Int) :
    Own (((((((w.setCell ⟨g, k * 7, none⟩ (.int .i64 a)).setCell ⟨g, k * 7 + 1, none⟩ (.int .i64 b)).setCell ⟨g, k * 7 + 2, none⟩ (.int .i64 c)).setCell ⟨g, k * 7 + 3, none⟩ (.int .i64 d)).setCell ⟨g, k * 7 + 4, none⟩ (.int .i64 e)).setCell ⟨g, k * 7 + 5, none⟩ (.int .i64 f)).setCell ⟨g, k * 7 + 6, none⟩ (.int .i64 x)) g (set7 xs k a b c d e f x) := (((((((h.set a).set b).set c).set d).set e).set f).set x)

theorem eqOpnd (d e f : Int) (w : World) :
    Calls Tryz.prog 139 #[.agg #[.int .i64 d, .int .i64 e, .int .i64 f], .agg #[.int .i64 d, .int .i64 e, .int .i64 f]] w fun r w' => r = .returned (.bool true) ∧ ∃ o1 o2, w' = (w.alloc o1).alloc o2 := by
  go_enter Tryz.func139, Tryz.ntmps139
  go_wp2
  go_ret
  exact ⟨rfl, _, _, rfl⟩
theorem eqIns (a b c d e f x : Int) (w : World) :
    Calls Tryz.prog 110 #[.agg #[.int .i64 a, .int .i64 b, .int .i64 c, .int .i64 d, .int .i64 e, .int .i64 f, .int .i64 x], .agg #[.int .i64 a, .int .i64 b, .int .i64 c, .int .i64 d, .int .i64 e, .int .i64 f, .int .i64 x]] w fun r w' => r = .returned (.bool true) ∧ ∃ o1 o2 o3 o4, w' = (((w.alloc o1).alloc o2).alloc o3).alloc o4 := by
  go_enter Tryz.func110, Tryz.ntmps110
  go_wp2_with (first | (go_at_call 139; refine (eqOpnd d e f _).mono ?_; rintro r9 w' ⟨rfl, o3, o4, rfl⟩))
  go_ret
  exact ⟨rfl, _, _, _, _, rfl⟩

theorem toOpnd (d e f : Int) (w : World) :
    Calls Tryz.prog 191 #[.agg #[.int .i64 d, .int .i64 e, .int .i64 f]] w fun r w' => r = .returned (.agg #[.int .i64 d, .int .i64 e, .int .i64 f]) ∧ Kept 0 0 w w' := by
  go_enter Tryz.func191, Tryz.ntmps191
  go_wp2
  refine bodyPost_ret (v := .agg #[.int .i64 d, .int .i64 e, .int .i64 f]) ?_ rfl ⟨rfl, kept_new (kept_new (kept_alloc w _) _) _⟩
  rw [results_one rfl]; go_simp
theorem toIns (a b c d e f x : Int) (w : World) :
    Calls Tryz.prog 173 #[.agg #[.int .i64 a, .int .i64 b, .int .i64 c, .int .i64 d, .int .i64 e, .int .i64 f, .int .i64 x]] w fun r w' => r = .returned (.agg #[.int .i64 a, .int .i64 b, .int .i64 c, .int .i64 d, .int .i64 e, .int .i64 f, .int .i64 x]) ∧ Kept 0 0 w w' := by
  have K0 := hide (kept_new (kept_new (kept_alloc w (.cells #[.int .i64 a, .int .i64 b, .int .i64 c, .int .i64 d, .int .i64 e, .int .i64 f, .int .i64 x] 183)) (.cells #[.int .i64 0, .int .i64 0, .int .i64 0, .int .i64 0, .int .i64 0, .int .i64 0, .int .i64 0] 124)) (.cells #[.int .i64 a, .int .i64 b, .int .i64 c, .int .i64 0, .int .i64 0, .int .i64 0, .int .i64 0] 124))
  have P0 := hide (((Blk.new w #[.int .i64 a, .int .i64 b, .int .i64 c, .int .i64 d, .int .i64 e, .int .i64 f, .int .i64 x] 183).alloc (.cells #[.int .i64 0, .int .i64 0, .int .i64 0, .int .i64 0, .int .i64 0, .int .i64 0, .int .i64 0] 124)).alloc (.cells #[.int .i64 a, .int .i64 b, .int .i64 c, .int .i64 0, .int .i64 0, .int .i64 0, .int .i64 0] 124))
  have R0 := (Blk.new (w.alloc (.cells #[.int .i64 a, .int .i64 b, .int .i64 c, .int .i64 d, .int .i64 e, .int .i64 f, .int .i64 x] 183)) #[.int .i64 0, .int .i64 0, .int .i64 0, .int .i64 0, .int .i64 0, .int .i64 0, .int .i64 0] 124).alloc (.cells #[.int .i64 a, .int .i64 b, .int .i64 c, .int .i64 0, .int .i64 0, .int .i64 0, .int .i64 0] 124)
  have X0 := Blk.new ((w.alloc (.cells #[.int .i64 a, .int .i64 b, .int .i64 c, .int .i64 d, .int .i64 e, .int .i64 f, .int .i64 x] 183)).alloc (.cells #[.int .i64 0, .int .i64 0, .int .i64 0, .int .i64 0, .int .i64 0, .int .i64 0, .int .i64 0] 124)) #[.int .i64 a, .int .i64 b, .int .i64 c, .int .i64 0, .int .i64 0, .int .i64 0, .int .i64 0] 124
  simp only [World.size_alloc] at R0 X0
  replace R0 := hide R0
  replace X0 := hide X0
  go_enter Tryz.func173, Tryz.ntmps173
  go_wp2_with (first | (go_at_call 191; refine (toOpnd d e f _).mono ?_; rintro r9 w2 ⟨rfl, k2⟩; have P2 := hide (P0.out.kept0 k2); have R2 := hide (R0.out.kept0 k2); have X2 := hide (X0.out.kept0 k2); have K2 := hide (K0.out.trans k2); have p0 := P2.out.cell (i := 0) rfl; have p1 := P2.out.cell (i := 1) rfl; have p2 := P2.out.cell (i := 2) rfl; have p3 := P2.out.cell (i := 3) rfl; have p4 := P2.out.cell (i := 4) rfl; have p5 := P2.out.cell (i := 5) rfl; have p6 := P2.out.cell (i := 6) rfl; have r0 := R2.out.cell (i := 0) rfl; have fr0 := R2.out.frozen 0; have r1 := R2.out.cell (i := 1) rfl; have fr1 := R2.out.frozen 1; have r2 := R2.out.cell (i := 2) rfl; have fr2 := R2.out.frozen 2; have r3 := R2.out.cell (i := 3) rfl; have fr3 := R2.out.frozen 3; have r4 := R2.out.cell (i := 4) rfl; have fr4 := R2.out.frozen 4; have r5 := R2.out.cell (i := 5) rfl; have fr5 := R2.out.frozen 5; have r6 := R2.out.cell (i := 6) rfl; have fr6 := R2.out.frozen 6; have y0 := X2.out.cell (i := 0) rfl; have fy0 := X2.out.frozen 0; have y1 := X2.out.cell (i := 1) rfl; have fy1 := X2.out.frozen 1; have y2 := X2.out.cell (i := 2) rfl; have fy2 := X2.out.frozen 2; have y3 := X2.out.cell (i := 3) rfl; have fy3 := X2.out.frozen 3; have y4 := X2.out.cell (i := 4) rfl; have fy4 := X2.out.frozen 4; have y5 := X2.out.cell (i := 5) rfl; have fy5 := X2.out.frozen 5; have y6 := X2.out.cell (i := 6) rfl; have fy6 := X2.out.frozen 6; have s2 := X2.out.lt; clear k2))
  refine bodyPost_ret (v := .agg #[.int .i64 a, .int .i64 b, .int .i64 c, .int .i64 d, .int .i64 e, .int .i64 f, .int .i64 x]) ?_ rfl ⟨rfl, ?_⟩
  · rw [results_one rfl]; go_simp
  · exact (kept_set (kept_set (kept_set (kept_set (kept_set (kept_set (kept_set (kept_set (kept_set (kept_set (kept_set K2.out _ _ _ (.inr (by omega))) _ _ _ (.inr (by omega))) _ _ _ (.inr (by omega))) _ _ _ (.inr (by omega))) _ _ _ (.inr (by omega))) _ _ _ (.inr (by omega))) _ _ _ (.inr (by omega))) _ _ _ (.inr (by omega))) _ _ _ (.inr (by omega))) _ _ _ (.inr (by omega))) _ _ _ (.inr (by omega)))
theorem Tryz.infoIns : (Tryz.prog.info? 124).map (fun i => (i.zero, i.size, i.bytes)) = some (some (.agg #[.int .i64 0, .int .i64 0, .int .i64 0, .int .i64 0, .int .i64 0, .int .i64 0, .int .i64 0]), 7, 56) := by kernel_rfl
theorem made7 (n : Nat) : (madeCells (Value.agg #[.int .i64 0, .int .i64 0, .int .i64 0, .int .i64 0, .int .i64 0, .int .i64 0, .int .i64 0]).cells (n * 7)).toList = (List.replicate (7 * n) (0 : Int)).map (Value.int .i64) := by
  have hz : ∀ j, j < 7 → (Value.agg #[.int .i64 0, .int .i64 0, .int .i64 0, .int .i64 0, .int .i64 0, .int .i64 0, .int .i64 0]).cells[j]! = .int .i64 0 := by
    intro j hj
    obtain rfl | rfl | rfl | rfl | rfl | rfl | rfl : j = 0 ∨ j = 1 ∨ j = 2 ∨ j = 3 ∨ j = 4 ∨ j = 5 ∨ j = 6 := by omega
    all_goals rfl
  have hs : (Value.agg #[.int .i64 0, .int .i64 0, .int .i64 0, .int .i64 0, .int .i64 0, .int .i64 0, .int .i64 0]).cells.size = 7 := rfl
  apply List.ext_getElem
  · simp [size_madeCells]; omega
  · intro i h1 h2
    simp only [madeCells, hs, Array.toList_map, List.getElem_map, List.getElem_replicate]
    exact hz _ (Nat.mod_lt _ (by decide))
theorem own_of_row7 {w : World} {base g n cap : Nat} {xs : List Int} (h : w.ownsRow base 124 7 (.slice (some ⟨g, 0, none⟩) n cap) n (xs.map (Value.int .i64))) : Own w g xs := by
  intro i hi
  rcases h with ⟨hl, ⟨e, _⟩ | ⟨g', cap', cur, e, _, hgg, hn, _, hsz, ht⟩⟩
  · cases e
  · cases e
    simp at hl
    have hc : cur[i]? = some (.int .i64 (xs[i]?.getD 0)) := by
      have : (cur.toList.take (n * 7))[i]? = (xs.map (Value.int .i64))[i]? := by rw [ht]
      rw [List.getElem?_take, if_pos (by omega)] at this
      simpa [hi] using this
    refine ⟨?_, ?_⟩
    · simp [World.cell?, hgg, hc]
    · simp [World.frozen?, hgg]

end Go.Proofs.YtflnodadeajmcaaGreat

namespace Go.Proofs.YtflnodadeajmcaaGreat.Pl
set_option linter.unusedVariables false

def within (n lo hi : Int) : Bool := decide (lo ≤ n) && decide (n ≤ hi)
def wordOk (n : Int) : Bool := within n 0 65535
def extM (m : Int) : Bool := decide (5 ≤ m)
def modeOk (m : Int) : Bool := within m 0 7
def opOk (m r e : Int) : Bool := modeOk m && (within r 0 3 && ((decide (m < 6) || (r == 0)) && (wordOk e && (extM m || (e == 0)))))
end Go.Proofs.YtflnodadeajmcaaGreat.Pl
namespace Go.Proofs.YtflnodadeajmcaaGreat
end Go.Proofs.YtflnodadeajmcaaGreat

namespace Go.Proofs.YtflnodadeajmcaaGreat.Pl
set_option linter.unusedVariables false
structure In where
  op : Int
  z : Int
  r : Int
  m : Int
  k : Int
  e : Int
  s : Int
def inNo : In := ⟨0, 0, 0, 0, 0, 0, 0⟩
def memM (m : Int) : Bool := within m 2 6
def plainM (m : Int) : Bool := (m == 2) || ((m == 5) || (m == 6))
def zeroO (m k e : Int) : Bool := (m == 0) && ((k == 0) && (e == 0))
def nowO (m e : Int) : Bool := (m == 7) && decide (e ≤ 1023)
def byteNow (x : In) : Bool := ((x.m == 7) && (x.z == 1)) && decide (255 < x.e)
def inBase (x : In) : Bool := (decide (x.z = 1) || decide (x.z = 2)) && (within x.r 0 3 && (opOk x.m x.k x.e && (within x.s 0 7 && !byteNow x)))
def inKind (x : In) : Bool :=
  bif (x.op == 1) || ((x.op == 3) || ((x.op == 4) || ((x.op == 5) || ((x.op == 6) || ((x.op == 7) || (x.op == 8)))))) then (x.s == 0) && ((x.z == 2) || !(x.m == 1))
  else bif x.op == 2 then (x.s == 0) && ((x.m == 0) || memM x.m)
  else bif x.op == 9 then (x.z == 2) && (x.s == 0)
  else bif x.op == 10 then ((x.z == 2) && (x.s == 0)) && plainM x.m
  else bif x.op == 11 then ((x.r == 0) && decide (x.s ≤ 3)) && ((x.m == 0) || memM x.m)
  else bif x.op == 12 then (x.m == 0)
  else bif x.op == 13 then ((x.z == 2) && decide (x.r ≤ 1)) && (x.m == 7)
  else bif x.op == 14 then (((x.z == 2) && (x.r == 0)) && decide (x.s ≤ 1)) && plainM x.m
  else bif (x.op == 16) || (x.op == 17) then ((x.z == 2) && (x.s == 0)) && !(x.m == 1)
  else bif x.op == 18 then ((!(x.z == 2)) && decide (x.s ≤ 1)) && (x.m == 0)
  else bif x.op == 19 then (x.z == 2) && ((((x.s == 0) && (x.r == 0)) && nowO x.m x.e) || ((x.s == 1) && zeroO x.m x.k x.e))
  else bif x.op == 15 then (bif x.s == 3 then ((x.z == 2) && (x.r == 0)) && nowO x.m x.e else (((x.z == 2) && decide (x.s ≤ 6)) && zeroO x.m x.k x.e) && (decide (3 < x.s) || (x.r == 0)))
  else false
def inOk (x : In) : Bool := inBase x && inKind x
/-- the first word of an instruction -/
def word1 (x : In) : Int := x.op * 2048 + (x.z - 1) * 1024 + x.r * 256 + x.m * 32 + x.k * 8 + x.s
def encode (x : In) : List Int := if extM x.m = true then [word1 x, x.e] else [word1 x]
def longW (w : Int) : Int := if extM (w / 32 % 8) = true then 2 else 1
def decode (w v : Int) : In := ⟨w / 2048, w / 1024 % 2 + 1, w / 256 % 4, w / 32 % 8, w / 8 % 4, if longW w = 2 then v else 0, w % 8⟩
/-- instruction k of a row of numbers, seven an instruction -/
def inAt (ys : List Int) (k : Nat) : In := ⟨el ys (k * 7), el ys (k * 7 + 1), el ys (k * 7 + 2), el ys (k * 7 + 3), el ys (k * 7 + 4), el ys (k * 7 + 5), el ys (k * 7 + 6)⟩
def encTo (ys : List Int) : Nat → List Int
  | 0 => []
  | k + 1 => encTo ys k ++ encode (inAt ys k)
theorem encode_len (x : In) : (encode x).length ≤ 2 := by unfold encode; split <;> simp
theorem encTo_len (ys : List Int) (k : Nat) : (encTo ys k).length ≤ 2 * k := by
  induction k with
  | zero => simp [encTo]
  | succ k ih => simp only [encTo, List.length_append]; have := encode_len (inAt ys k); omega
theorem modeR {x : In} (h : inOk x = true) : 1 ≤ x.op ∧ x.op ≤ 19 ∧ (x.z = 1 ∨ x.z = 2) ∧ 0 ≤ x.r ∧ x.r ≤ 3 ∧ 0 ≤ x.m ∧ x.m ≤ 7 ∧ 0 ≤ x.k ∧ x.k ≤ 3 ∧ 0 ≤ x.e ∧ x.e ≤ 65535 ∧ 0 ≤ x.s ∧ x.s ≤ 7 ∧ (extM x.m = false → x.e = 0) := by
  obtain ⟨op, z, r, m, k, e, s⟩ := x
  unfold inOk at h
  rw [Bool.and_eq_true] at h
  obtain ⟨h1, h2⟩ := h
  have hop : 1 ≤ op ∧ op ≤ 19 := by
    have : op = 1 ∨ op = 2 ∨ op = 3 ∨ op = 4 ∨ op = 5 ∨ op = 6 ∨ op = 7 ∨ op = 8 ∨ op = 9 ∨ op = 10 ∨ op = 11 ∨ op = 12 ∨ op = 13 ∨ op = 14 ∨ op = 15 ∨ op = 16 ∨ op = 17 ∨ op = 18 ∨ op = 19 := by
      by_cases q1 : op = 1; · simp [q1]
      by_cases q2 : op = 2; · simp [q2]
      by_cases q3 : op = 3; · simp [q3]
      by_cases q4 : op = 4; · simp [q4]
      by_cases q5 : op = 5; · simp [q5]
      by_cases q6 : op = 6; · simp [q6]
      by_cases q7 : op = 7; · simp [q7]
      by_cases q8 : op = 8; · simp [q8]
      by_cases q9 : op = 9; · simp [q9]
      by_cases q10 : op = 10; · simp [q10]
      by_cases q11 : op = 11; · simp [q11]
      by_cases q12 : op = 12; · simp [q12]
      by_cases q13 : op = 13; · simp [q13]
      by_cases q14 : op = 14; · simp [q14]
      by_cases q15 : op = 15; · simp [q15]
      by_cases q16 : op = 16; · simp [q16]
      by_cases q17 : op = 17; · simp [q17]
      by_cases q18 : op = 18; · simp [q18]
      by_cases q19 : op = 19; · simp [q19]
      simp [inKind, q1, q2, q3, q4, q5, q6, q7, q8, q9, q10, q11, q12, q13, q14, q15, q16, q17, q18, q19] at h2
    omega
  simp [inBase, opOk, modeOk, within, wordOk] at h1
  obtain ⟨hz, hr, ⟨hm, hk, _, he, hx⟩, hs, _⟩ := h1
  refine ⟨hop.1, hop.2, hz, hr.1, hr.2, hm.1, hm.2, hk.1, hk.2, he.1, he.2, hs.1, hs.2, fun q => ?_⟩
  rcases hx with hx | hx
  · rw [q] at hx; cases hx
  · exact hx
end Go.Proofs.YtflnodadeajmcaaGreat.Pl
namespace Go.Proofs.YtflnodadeajmcaaGreat
end Go.Proofs.YtflnodadeajmcaaGreat

namespace Go.Proofs.YtflnodadeajmcaaGreat.Pl
set_option linter.unusedVariables false
def need (k : Int) : Int :=
  bif k - k % 2 == 2 then 5 else bif k - k % 2 == 4 then 1 else bif k - k % 2 == 6 then 4 else bif k - k % 2 == 8 then 2
  else bif k - k % 2 == 10 then 8 else bif k - k % 2 == 12 then 10 else bif k - k % 2 == 14 then 14 else 0
theorem nat_of {k : Int} {n : Nat} (h0 : 0 ≤ k) (h1 : k < n) : ∃ j : Nat, j < n ∧ k = (j : Int) := ⟨k.toNat, by omega, by omega⟩
/- the bits of flags, one at a time -/
theorem bit_even : ∀ k : Nat, k < 16 → bits .andNot .i64 (k : Int) 1 = (k : Int) - (k : Int) % 2 := by decide +kernel
theorem need_in : ∀ k : Nat, k < 16 → 0 ≤ need (k : Int) ∧ need (k : Int) ≤ 15 := by decide +kernel
end Go.Proofs.YtflnodadeajmcaaGreat.Pl

namespace Go.Proofs.YtflnodadeajmcaaGreat.Pl
open Go.RowKit
set_option linter.unusedVariables false
def straight (x : In) : Bool := bif (x.op == 13) || (x.op == 14) then false else bif x.op == 15 then (x.s == 2) || ((x.s == 5) || (x.s == 6)) else bif x.op == 19 then !(x.s == 0) else true
def sets (x : In) : Int :=
  bif (x.op == 3) || (x.op == 4) then 31 else bif (x.op == 9) || ((x.op == 10) || ((x.op == 13) || (x.op == 14))) then 0
  else bif x.op == 11 then (bif x.s == 1 then 31 else 15) else bif x.op == 12 then (bif (x.s == 4) || (x.s == 5) then 15 else 31)
  else bif x.op == 15 then (bif (x.s == 1) || (x.s == 3) then 31 else bif (x.s == 5) || (x.s == 6) then 15 else 0)
  else bif x.op == 18 then 27 else bif x.op == 19 then (bif x.s == 0 then 31 else 0) else 15
def reads (x : In) : Int :=
  bif x.op == 12 then (bif (x.s == 6) || (x.s == 7) then 16 else 0) else bif x.op == 13 then need (x.s + 8 * x.r)
  else bif x.op == 18 then 20 else bif x.op == 19 then (bif x.s == 1 then 31 else 0) else 0
def mayW (x : In) : Bool := bif x.op == 2 then memM x.m else bif x.op == 11 then memM x.m && !(x.s == 3) else bif x.op == 14 then x.s == 1 else false
def mayF (x : In) : Bool :=
  bif x.op == 10 then false else bif x.op == 14 then x.s == 1 else bif (x.op == 17) || (x.op == 18) then true
  else bif x.op == 15 then (x.s == 0) || ((x.s == 1) || ((x.s == 3) || (x.s == 4))) else bif x.op == 19 then x.s == 0 else memM x.m
/-- what these look at, of a good instruction -/
structure InD (x : In) : Prop where
  o0 : 1 ≤ x.op
  o1 : x.op ≤ 19
  s0 : 0 ≤ x.s
  s1 : x.s ≤ 7
  r0 : 0 ≤ x.r
  r1 : x.r ≤ 3
  s6 : x.op = 15 → x.s ≤ 6
  s3 : x.op = 11 → x.s ≤ 3
  s2 : x.op = 14 ∨ x.op = 19 → x.s ≤ 1
  r2 : x.op = 13 → x.r ≤ 1
theorem inD_of {x : In} (h : inOk x = true) : InD x := by
  unfold inOk at h
  rw [Bool.and_eq_true] at h
  obtain ⟨hb, hk⟩ := h
  simp only [inBase, opOk, modeOk, wordOk, within, byteNow, Bool.and_eq_true, Bool.or_eq_true, decide_eq_true_eq, Bool.not_eq_true', Bool.and_eq_false_iff, beq_iff_eq, decide_eq_false_iff_not, beq_eq_false_iff_ne] at hb
  obtain ⟨hz, ⟨r0, r1⟩, _, ⟨s0, s1⟩, _⟩ := hb
  obtain ⟨op, z, r, m, k, e, s⟩ := x
  simp only at hz r0 r1 s0 s1
  by_cases ho : op = 1 ∨ op = 2 ∨ op = 3 ∨ op = 4 ∨ op = 5 ∨ op = 6 ∨ op = 7 ∨ op = 8 ∨ op = 9 ∨ op = 10 ∨ op = 11 ∨ op = 12 ∨ op = 13 ∨ op = 14 ∨ op = 15 ∨ op = 16 ∨ op = 17 ∨ op = 18 ∨ op = 19
  · refine ⟨by simp only; omega, by simp only; omega, s0, s1, r0, r1, ?_, ?_, ?_, ?_⟩
    · intro h15
      simp only at h15
      subst h15
      cases q : (s == 3)
      · simp [inKind, q] at hk
        simp only; omega
      · have : s = 3 := by simpa using q
        simp only; omega
    · intro h11
      simp only at h11
      subst h11
      simp [inKind] at hk
      simp only; omega
    · intro h14
      simp only at h14
      rcases h14 with h14 | h14
      · subst h14
        simp [inKind] at hk
        simp only; omega
      · subst h14
        simp [inKind] at hk
        simp only; omega
    · intro h13
      simp only at h13
      subst h13
      simp [inKind] at hk
      simp only; omega
  · exfalso
    have h1 : ∀ n : Int, 1 ≤ n ∧ n ≤ 19 → (op == n) = false := by
      intro n hn
      rw [beq_eq_false_iff_ne]
      rintro rfl
      exact ho (by omega)
    simp only [inKind] at hk
    rw [h1 1 ⟨by omega, by omega⟩, h1 2 ⟨by omega, by omega⟩, h1 3 ⟨by omega, by omega⟩, h1 4 ⟨by omega, by omega⟩, h1 5 ⟨by omega, by omega⟩, h1 6 ⟨by omega, by omega⟩, h1 7 ⟨by omega, by omega⟩, h1 8 ⟨by omega, by omega⟩, h1 9 ⟨by omega, by omega⟩, h1 10 ⟨by omega, by omega⟩, h1 11 ⟨by omega, by omega⟩, h1 12 ⟨by omega, by omega⟩, h1 13 ⟨by omega, by omega⟩, h1 14 ⟨by omega, by omega⟩, h1 15 ⟨by omega, by omega⟩, h1 16 ⟨by omega, by omega⟩, h1 17 ⟨by omega, by omega⟩, h1 18 ⟨by omega, by omega⟩, h1 19 ⟨by omega, by omega⟩] at hk
    simp at hk
/-- a row's flags, from the last instruction backwards: what is needed ahead of it, and whether its own are dead -/
def needB (x : In) (n : Int) : Int := bits .or .i64 (bits .or .i64 (bits .andNot .i64 n (sets x)) (reads x)) (fl (mayF x) 31)
def deadB (x : In) (n : Int) : Bool := (!(sets x == 0) && (bits .and .i64 (sets x) n == 0)) && !mayW x
def needs (ys : List Int) (len : Nat) : Nat → Int
  | 0 => 31
  | i + 1 => needB (inAt ys (len - (i + 1))) (needs ys len i)
/-- the last i of the row are told -/
def deads (ys : List Int) (len : Nat) (i : Nat) : List Bool := (List.range len).map fun k => decide (len ≤ k + i) && deadB (inAt ys k) (needs ys len (len - (k + 1)))
def rowS (ys : List Int) : Nat → Bool
  | 0 => true
  | i + 1 => rowS ys i && (inOk (inAt ys i) && straight (inAt ys i))
def rowOk (ys : List Int) (n : Nat) : Bool := decide ((n : Int) ≤ 16) && rowS ys n
theorem deads_len (ys : List Int) (len i : Nat) : (deads ys len i).length = len := by simp [deads]
theorem deads_zero (ys : List Int) (len : Nat) : deads ys len 0 = List.replicate len false := by
  apply List.ext_getElem
  · simp [deads]
  · intro k h1 h2
    have : k < len := by simpa [deads] using h1
    simp [deads]; intro h; omega
theorem deads_set (ys : List Int) (len i : Nat) (h : i < len) : (deads ys len i).set (len - (i + 1)) (deadB (inAt ys (len - (i + 1))) (needs ys len i)) = deads ys len (i + 1) := by
  apply List.ext_getElem
  · simp [deads]
  · intro k h1 h2
    have hk : k < len := by simpa [deads] using h2
    rw [List.getElem_set]
    by_cases e : len - (i + 1) = k
    · subst e
      simp only [deads, List.getElem_map, List.getElem_range, if_pos]
      rw [show len - (len - (i + 1) + 1) = i from by omega, show decide (len ≤ len - (i + 1) + (i + 1)) = true from by simp; omega]
      rfl
    · rw [if_neg e]
      simp only [deads, List.getElem_map, List.getElem_range]
      rw [show decide (len ≤ k + i) = decide (len ≤ k + (i + 1)) from by congr 1; rw [eq_iff_iff]; omega]
theorem flag_in (b : Bool) : fl b 31 = 0 ∨ fl b 31 = 31 := by cases b <;> simp [fl]
theorem sets_in (x : In) : sets x = 0 ∨ sets x = 15 ∨ sets x = 27 ∨ sets x = 31 := by
  unfold sets
  simp only [Bool.cond_eq_ite]
  repeat' split
  all_goals simp
end Go.Proofs.YtflnodadeajmcaaGreat.Pl

namespace Go.Proofs.YtflnodadeajmcaaGreat
open Go.RowKit
set_option linter.unusedVariables false
/-- the bool at a place of a row -/
def bl (xs : List Bool) (i : Nat) : Bool := xs[i]?.getD false
namespace Pl
/-- how many words an instruction has -/
def lenB (x : In) : Int := if extM x.m = true then 2 else 1
theorem lenB_encode (x : In) : ((encode x).length : Int) = lenB x := by unfold encode lenB; split <;> rfl
theorem lenB_in (x : In) : 1 ≤ lenB x ∧ lenB x ≤ 2 := by unfold lenB; split <;> omega
/-- where instruction k of a row lies that begins at f -/
def placeB (ys : List Int) (f : Int) : Nat → Int
  | 0 => f
  | k + 1 => placeB ys f k + 2 * lenB (inAt ys k)
theorem placeB_in (ys : List Int) (f : Int) (k : Nat) : f + 2 * (k : Int) ≤ placeB ys f k ∧ placeB ys f k ≤ f + 4 * (k : Int) := by
  induction k with
  | zero => simp [placeB]
  | succ k ih =>
    have := lenB_in (inAt ys k)
    unfold placeB
    omega
/-- how many of the first n are straight -/
def strN (ys : List Int) : Nat → Nat
  | 0 => 0
  | k + 1 => if straight (inAt ys k) = true then strN ys k + 1 else strN ys k
theorem strN_s (ys : List Int) (k : Nat) : strN ys (k + 1) = if straight (inAt ys k) = true then strN ys k + 1 else strN ys k := rfl
theorem strN_le (ys : List Int) (n : Nat) : strN ys n ≤ n := by
  induction n with
  | zero => exact Nat.le_refl _
  | succ n ih => unfold strN; split <;> omega
theorem strN_all {ys : List Int} {n : Nat} (h : ∀ k, k < n → straight (inAt ys k) = true) : strN ys n = n := by
  induction n with
  | zero => rfl
  | succ n ih => unfold strN; rw [if_pos (h n (by omega)), ih (fun k hk => h k (by omega))]
theorem strN_one {ys : List Int} {n k : Nat} (hk : k < n) (h : straight (inAt ys k) = false) : strN ys n < n := by
  induction n with
  | zero => omega
  | succ n ih =>
    unfold strN
    by_cases e : k = n
    · subst e; rw [if_neg (by rw [h]; simp)]; have := strN_le ys k; omega
    · have := ih (by omega); split <;> omega
theorem strN_back {ys : List Int} {n : Nat} (h : strN ys n = n) : ∀ k, k < n → straight (inAt ys k) = true := by
  intro k hk
  cases e : straight (inAt ys k)
  · have := strN_one hk e; omega
  · rfl
/-- a unit's row but a last one that leads elsewhere: how many -/
def headN (ys : List Int) (n : Nat) : Nat := if straight (inAt ys (n - 1)) = true then n else n - 1
/-- the skips of a row of which only the last one may lead elsewhere -/
def skV (ys : List Int) (n : Nat) : List Bool := deads ys (headN ys n) (headN ys n) ++ List.replicate (n - headN ys n) false
/-- what is told of the first n leans on the first n alone -/
theorem needs_of {ys zs : List Int} {n : Nat} (h : ∀ k, k < n → inAt ys k = inAt zs k) : ∀ i, i ≤ n → needs ys n i = needs zs n i := by
  intro i
  induction i with
  | zero => intro _; rfl
  | succ i ih => intro hi; unfold needs; rw [ih (by omega), h _ (by omega)]
theorem deads_of {ys zs : List Int} {n : Nat} (h : ∀ k, k < n → inAt ys k = inAt zs k) : deads ys n n = deads zs n n := by
  unfold deads
  apply List.map_congr_left
  intro k hk
  have hk2 : k < n := by simpa using hk
  rw [h k hk2, needs_of h _ (by omega)]
theorem rowS_eq {ys zs : List Int} {n : Nat} (h : ∀ k, k < n → inAt ys k = inAt zs k) : rowS ys n = rowS zs n := by
  induction n with
  | zero => rfl
  | succ n ih => unfold rowS; rw [ih (fun k hk => h k (by omega)), h n (by omega)]
theorem el_take {ys : List Int} {m i : Nat} (h : i < m) : el (ys.take m) i = el ys i := by unfold el; rw [List.getElem?_take, if_pos h]
theorem inAt_take {ys : List Int} {n k : Nat} (h : k < n) : inAt (ys.take (7 * n)) k = inAt ys k := by
  unfold inAt
  rw [el_take (by omega), el_take (by omega), el_take (by omega), el_take (by omega), el_take (by omega), el_take (by omega), el_take (by omega)]
theorem headN_le (ys : List Int) (n : Nat) : headN ys n ≤ n := by unfold headN; split <;> omega
theorem skV_len (ys : List Int) (n : Nat) : (skV ys n).length = n := by
  have := headN_le ys n
  simp only [skV, List.length_append, deads_len, List.length_replicate]; omega
/-- a good unit, of n micros: instructions ys, places ts, skips sk, from f to t -/
structure GU (f t : Int) (n : Nat) (ys ts : List Int) (sk : List Bool) : Prop where
  n1 : 1 ≤ n
  n8 : n ≤ 8
  f0 : 0 ≤ f
  f1 : f ≤ 512
  fe : f % 2 = 0
  ok : ∀ k, k < n → inOk (inAt ys k) = true
  pl : ∀ k, k < n → el ts k = placeB ys f k
  tw : t = placeB ys f n
  t1 : t ≤ 512
  st : ∀ k, k + 1 < n → straight (inAt ys k) = true
  sk : ∀ k, k < n → bl sk k = bl (skV ys n) k
open Classical in
noncomputable def goodU (f t : Int) (n : Nat) (ys ts : List Int) (sk : List Bool) : Bool := decide (GU f t n ys ts sk)
open Classical in
theorem goodU_yes {f t : Int} {n : Nat} {ys ts : List Int} {sk : List Bool} (h : GU f t n ys ts sk) : goodU f t n ys ts sk = true := decide_eq_true h
open Classical in
theorem goodU_no {f t : Int} {n : Nat} {ys ts : List Int} {sk : List Bool} (h : ¬ GU f t n ys ts sk) : goodU f t n ys ts sk = false := decide_eq_false h
open Classical in
theorem goodU_out {f t : Int} {n : Nat} {ys ts : List Int} {sk : List Bool} (h : goodU f t n ys ts sk = true) : GU f t n ys ts sk := of_decide_eq_true h
theorem rowS_of {ys : List Int} {n : Nat} (h : ∀ k, k < n → inOk (inAt ys k) = true ∧ straight (inAt ys k) = true) : rowS ys n = true := by
  induction n with
  | zero => rfl
  | succ n ih => unfold rowS; rw [ih (fun k hk => h k (by omega)), (h n (by omega)).1, (h n (by omega)).2]; rfl
theorem rowS_out {ys : List Int} {n : Nat} (h : rowS ys n = true) : ∀ k, k < n → inOk (inAt ys k) = true ∧ straight (inAt ys k) = true := by
  induction n with
  | zero => intro k hk; omega
  | succ n ih =>
    unfold rowS at h
    simp only [Bool.and_eq_true] at h
    intro k hk
    by_cases e : k = n
    · subst e; exact h.2
    · exact ih h.1 k (by omega)
theorem head_of {ys : List Int} {n : Nat} (h1 : 1 ≤ n) (ok : ∀ k, k < n → inOk (inAt ys k) = true) (st : ∀ k, k + 1 < n → straight (inAt ys k) = true) : rowS ys (headN ys n) = true := by
  refine rowS_of fun k hk => ?_
  unfold headN at hk
  split at hk
  · rename_i q
    refine ⟨ok k hk, ?_⟩
    by_cases e : k = n - 1
    · rw [e]; exact q
    · exact st k (by omega)
  · exact ⟨ok k (by omega), st k (by omega)⟩
theorem GU.head {f t : Int} {n : Nat} {ys ts : List Int} {sk : List Bool} (h : GU f t n ys ts sk) : rowS ys (headN ys n) = true := head_of h.n1 h.ok h.st
end Pl
end Go.Proofs.YtflnodadeajmcaaGreat

namespace Go.Proofs.YtflnodadeajmcaaGreat
open Go.RowKit
set_option linter.unusedVariables false


/-- a list of n micros, in cells: instructions ys, places ts, skips sk -/
def miL (ys ts : List Int) (sk : List Bool) (n : Nat) : List Value :=
  (List.range (9 * n)).map fun i => if i % 9 < 7 then iv (el ys (i / 9 * 7 + i % 9)) else if i % 9 = 7 then iv (el ts (i / 9)) else .bool (bl sk (i / 9))
theorem miL_len (ys ts : List Int) (sk : List Bool) (n : Nat) : (miL ys ts sk n).length = 9 * n := by simp [miL]
theorem miL_at (ys ts : List Int) (sk : List Bool) {n k : Nat} (hk : k < n) : (∀ j, j < 7 → vl (miL ys ts sk n) (k * 9 + j) = iv (el ys (k * 7 + j))) ∧ vl (miL ys ts sk n) (k * 9 + 7) = iv (el ts k) ∧ vl (miL ys ts sk n) (k * 9 + 8) = .bool (bl sk k) := by
  have one : ∀ j, j < 9 → vl (miL ys ts sk n) (k * 9 + j) = (if j < 7 then iv (el ys (k * 7 + j)) else if j = 7 then iv (el ts k) else .bool (bl sk k)) := by
    intro j hj
    have h : k * 9 + j < 9 * n := by omega
    have e1 : (k * 9 + j) / 9 = k := by omega
    have e2 : (k * 9 + j) % 9 = j := by omega
    unfold vl miL
    rw [List.getElem?_map, List.getElem?_range h]
    simp only [Option.map_some, Option.getD_some, e1, e2]
  exact ⟨fun j hj => by rw [one j (by omega), if_pos hj], by rw [one 7 (by decide)]; rfl, by rw [one 8 (by decide)]; rfl⟩
def MRow (w : World) (a : Option Addr) (n : Nat) (ys ts : List Int) (sk : List Bool) : Prop := VRow w a (miL ys ts sk n)
def MOwn (w : World) (g n : Nat) (ys ts : List Int) (sk : List Bool) : Prop := VOwn w g (miL ys ts sk n)
theorem MRow.at9 {w : World} {a : Option Addr} {n k : Nat} {ys ts : List Int} {sk : List Bool} (h : MRow w a n ys ts sk) (hk : k < n) :
    ∃ g off : Nat, a = some ⟨g, off, none⟩ ∧ w.cell? ⟨g, off + k * 9, none⟩ = some (iv (el ys (k * 7))) ∧ w.cell? ⟨g, off + k * 9 + 1, none⟩ = some (iv (el ys (k * 7 + 1))) ∧ w.cell? ⟨g, off + k * 9 + 2, none⟩ = some (iv (el ys (k * 7 + 2))) ∧ w.cell? ⟨g, off + k * 9 + 3, none⟩ = some (iv (el ys (k * 7 + 3))) ∧ w.cell? ⟨g, off + k * 9 + 4, none⟩ = some (iv (el ys (k * 7 + 4))) ∧ w.cell? ⟨g, off + k * 9 + 5, none⟩ = some (iv (el ys (k * 7 + 5))) ∧ w.cell? ⟨g, off + k * 9 + 6, none⟩ = some (iv (el ys (k * 7 + 6))) ∧ w.cell? ⟨g, off + k * 9 + 7, none⟩ = some (iv (el ts k)) ∧ w.cell? ⟨g, off + k * 9 + 8, none⟩ = some (.bool (bl sk k)) := by
  obtain ⟨m7, m8, m9⟩ := miL_at ys ts sk hk
  obtain ⟨g, off, ea, c0⟩ := h (k * 9) (by rw [miL_len]; omega)
  have pick : ∀ j, j < 9 → w.cell? ⟨g, off + k * 9 + j, none⟩ = some (vl (miL ys ts sk n) (k * 9 + j)) := by
    intro j hj
    obtain ⟨g', off', ea', c⟩ := h (k * 9 + j) (by rw [miL_len]; omega)
    rw [ea] at ea'
    cases ea'
    rw [Nat.add_assoc]; exact c
  exact ⟨g, off, ea, (pick 0 (by decide)).trans (congrArg some (m7 0 (by decide))), (pick 1 (by decide)).trans (congrArg some (m7 1 (by decide))), (pick 2 (by decide)).trans (congrArg some (m7 2 (by decide))), (pick 3 (by decide)).trans (congrArg some (m7 3 (by decide))), (pick 4 (by decide)).trans (congrArg some (m7 4 (by decide))), (pick 5 (by decide)).trans (congrArg some (m7 5 (by decide))), (pick 6 (by decide)).trans (congrArg some (m7 6 (by decide))), (pick 7 (by decide)).trans (congrArg some m8), (pick 8 (by decide)).trans (congrArg some m9)⟩
theorem VOwn.at9 {w : World} {g : Nat} {vs : List Value} (h : VOwn w g vs) {n k : Nat} (hl : vs.length = 9 * n) (hk : k < n) :
    (w.cell? ⟨g, k * 9, none⟩ = some (vl vs (k * 9)) ∧ w.cell? ⟨g, k * 9 + 1, none⟩ = some (vl vs (k * 9 + 1)) ∧ w.cell? ⟨g, k * 9 + 2, none⟩ = some (vl vs (k * 9 + 2)) ∧ w.cell? ⟨g, k * 9 + 3, none⟩ = some (vl vs (k * 9 + 3)) ∧ w.cell? ⟨g, k * 9 + 4, none⟩ = some (vl vs (k * 9 + 4)) ∧ w.cell? ⟨g, k * 9 + 5, none⟩ = some (vl vs (k * 9 + 5)) ∧ w.cell? ⟨g, k * 9 + 6, none⟩ = some (vl vs (k * 9 + 6)) ∧ w.cell? ⟨g, k * 9 + 7, none⟩ = some (vl vs (k * 9 + 7)) ∧ w.cell? ⟨g, k * 9 + 8, none⟩ = some (vl vs (k * 9 + 8))) ∧ w.frozen? ⟨g, k * 9, none⟩ = false ∧ w.frozen? ⟨g, k * 9 + 1, none⟩ = false ∧ w.frozen? ⟨g, k * 9 + 2, none⟩ = false ∧ w.frozen? ⟨g, k * 9 + 3, none⟩ = false ∧ w.frozen? ⟨g, k * 9 + 4, none⟩ = false ∧ w.frozen? ⟨g, k * 9 + 5, none⟩ = false ∧ w.frozen? ⟨g, k * 9 + 6, none⟩ = false ∧ w.frozen? ⟨g, k * 9 + 7, none⟩ = false ∧ w.frozen? ⟨g, k * 9 + 8, none⟩ = false :=
  ⟨⟨(h (k * 9) (by omega)).1, (h (k * 9 + 1) (by omega)).1, (h (k * 9 + 2) (by omega)).1, (h (k * 9 + 3) (by omega)).1, (h (k * 9 + 4) (by omega)).1, (h (k * 9 + 5) (by omega)).1, (h (k * 9 + 6) (by omega)).1, (h (k * 9 + 7) (by omega)).1, (h (k * 9 + 8) (by omega)).1⟩, (h (k * 9) (by omega)).2, (h (k * 9 + 1) (by omega)).2, (h (k * 9 + 2) (by omega)).2, (h (k * 9 + 3) (by omega)).2, (h (k * 9 + 4) (by omega)).2, (h (k * 9 + 5) (by omega)).2, (h (k * 9 + 6) (by omega)).2, (h (k * 9 + 7) (by omega)).2, (h (k * 9 + 8) (by omega)).2⟩
theorem snoc9 {p : Nat → Prop} {k : Nat} (h : ∀ i, i < k * 9 → p i) (h0 : p (k * 9)) (h1 : p (k * 9 + 1)) (h2 : p (k * 9 + 2)) (h3 : p (k * 9 + 3)) (h4 : p (k * 9 + 4)) (h5 : p (k * 9 + 5)) (h6 : p (k * 9 + 6)) (h7 : p (k * 9 + 7)) (h8 : p (k * 9 + 8)) : ∀ i, i < (k + 1) * 9 → p i := by
  intro i hi
  by_cases e : i < k * 9
  · exact h i e
  · obtain rfl | rfl | rfl | rfl | rfl | rfl | rfl | rfl | rfl : i = k * 9 ∨ i = k * 9 + 1 ∨ i = k * 9 + 2 ∨ i = k * 9 + 3 ∨ i = k * 9 + 4 ∨ i = k * 9 + 5 ∨ i = k * 9 + 6 ∨ i = k * 9 + 7 ∨ i = k * 9 + 8 := by omega
    all_goals assumption
def set9 (vs : List Value) (k : Nat) (a b c d e f x t q : Value) : List Value := (((((((((vs.set (k * 9) a).set (k * 9 + 1) b).set (k * 9 + 2) c).set (k * 9 + 3) d).set (k * 9 + 4) e).set (k * 9 + 5) f).set (k * 9 + 6) x).set (k * 9 + 7) t).set (k * 9 + 8) q)
theorem set9_len (vs : List Value) (k : Nat) (a b c d e f x t q : Value) : (set9 vs k a b c d e f x t q).length = vs.length := by simp [set9]
theorem set9_old {vs : List Value} {k : Nat} {a b c d e f x t q : Value} {i : Nat} (h : i < k * 9) : vl (set9 vs k a b c d e f x t q) i = vl vs i := by
  unfold set9
  rw [vl_old (by omega), vl_old (by omega), vl_old (by omega), vl_old (by omega), vl_old (by omega), vl_old (by omega), vl_old (by omega), vl_old (by omega), vl_old (by omega)]
theorem set9_new {vs : List Value} {k : Nat} {a b c d e f x t q : Value} (h : k * 9 + 8 < vs.length) : vl (set9 vs k a b c d e f x t q) (k * 9) = a ∧ vl (set9 vs k a b c d e f x t q) (k * 9 + 1) = b ∧ vl (set9 vs k a b c d e f x t q) (k * 9 + 2) = c ∧ vl (set9 vs k a b c d e f x t q) (k * 9 + 3) = d ∧ vl (set9 vs k a b c d e f x t q) (k * 9 + 4) = e ∧ vl (set9 vs k a b c d e f x t q) (k * 9 + 5) = f ∧ vl (set9 vs k a b c d e f x t q) (k * 9 + 6) = x ∧ vl (set9 vs k a b c d e f x t q) (k * 9 + 7) = t ∧ vl (set9 vs k a b c d e f x t q) (k * 9 + 8) = q := by
  unfold set9
  refine ⟨by rw [vl_old (by omega), vl_old (by omega), vl_old (by omega), vl_old (by omega), vl_old (by omega), vl_old (by omega), vl_old (by omega), vl_old (by omega), vl_new (by first | omega | (simp only [List.length_set]; omega))], by rw [vl_old (by omega), vl_old (by omega), vl_old (by omega), vl_old (by omega), vl_old (by omega), vl_old (by omega), vl_old (by omega), vl_new (by first | omega | (simp only [List.length_set]; omega))], by rw [vl_old (by omega), vl_old (by omega), vl_old (by omega), vl_old (by omega), vl_old (by omega), vl_old (by omega), vl_new (by first | omega | (simp only [List.length_set]; omega))], by rw [vl_old (by omega), vl_old (by omega), vl_old (by omega), vl_old (by omega), vl_old (by omega), vl_new (by first | omega | (simp only [List.length_set]; omega))], by rw [vl_old (by omega), vl_old (by omega), vl_old (by omega), vl_old (by omega), vl_new (by first | omega | (simp only [List.length_set]; omega))], by rw [vl_old (by omega), vl_old (by omega), vl_old (by omega), vl_new (by first | omega | (simp only [List.length_set]; omega))], by rw [vl_old (by omega), vl_old (by omega), vl_new (by first | omega | (simp only [List.length_set]; omega))], by rw [vl_old (by omega), vl_new (by first | omega | (simp only [List.length_set]; omega))], by rw [vl_new (by first | omega | (simp only [List.length_set]; omega))]⟩
theorem VOwn.set9 {w : World} {g : Nat} {vs : List Value} (h : VOwn w g vs) (k : Nat) (a b c d e f x t q : Value) :
    VOwn (((((((((w.setCell ⟨g, k * 9, none⟩ a).setCell ⟨g, k * 9 + 1, none⟩ b).setCell ⟨g, k * 9 + 2, none⟩ c).setCell ⟨g, k * 9 + 3, none⟩ d).setCell ⟨g, k * 9 + 4, none⟩ e).setCell ⟨g, k * 9 + 5, none⟩ f).setCell ⟨g, k * 9 + 6, none⟩ x).setCell ⟨g, k * 9 + 7, none⟩ t).setCell ⟨g, k * 9 + 8, none⟩ q) g (set9 vs k a b c d e f x t q) := (((((((((h.set a).set b).set c).set d).set e).set f).set x).set t).set q)
theorem grown_set9 {w wr : World} {g : Nat} {row : Option Nat} (h : w.grownBy wr row) (hr : row = some g ∨ w.heap.size ≤ g) (k0 k1 k2 k3 k4 k5 k6 k7 k8 : Nat) (v0 v1 v2 v3 v4 v5 v6 v7 v8 : Value) :
    w.grownBy (((((((((wr.setCell ⟨g, k0, none⟩ v0).setCell ⟨g, k1, none⟩ v1).setCell ⟨g, k2, none⟩ v2).setCell ⟨g, k3, none⟩ v3).setCell ⟨g, k4, none⟩ v4).setCell ⟨g, k5, none⟩ v5).setCell ⟨g, k6, none⟩ v6).setCell ⟨g, k7, none⟩ v7).setCell ⟨g, k8, none⟩ v8) row :=
  (grown_setV (grown_setV (grown_setV (grown_setV (grown_setV (grown_setV (grown_setV (grown_setV (grown_setV h hr _ _) hr _ _) hr _ _) hr _ _) hr _ _) hr _ _) hr _ _) hr _ _) hr _ _)
theorem eqMicro (op z r m k e s t : Int) (b : Bool) (w : World) :
    Calls Tryz.prog 80 #[.agg #[iv op, iv z, iv r, iv m, iv k, iv e, iv s, iv t, .bool b], .agg #[iv op, iv z, iv r, iv m, iv k, iv e, iv s, iv t, .bool b]] w fun r' w' => r' = .returned (.bool true) ∧ Kept 0 0 w w' := by
  have P0 := hide ((Blk.new w #[iv op, iv z, iv r, iv m, iv k, iv e, iv s, iv t, .bool b] 126).alloc (.cells #[iv op, iv z, iv r, iv m, iv k, iv e, iv s, iv t, .bool b] 126))
  have Q0 := Blk.new (w.alloc (.cells #[iv op, iv z, iv r, iv m, iv k, iv e, iv s, iv t, .bool b] 126)) #[iv op, iv z, iv r, iv m, iv k, iv e, iv s, iv t, .bool b] 126
  simp only [World.size_alloc] at Q0
  replace Q0 := hide Q0
  have K0 := hide (kept_new (kept_alloc w (.cells #[iv op, iv z, iv r, iv m, iv k, iv e, iv s, iv t, .bool b] 126)) (.cells #[iv op, iv z, iv r, iv m, iv k, iv e, iv s, iv t, .bool b] 126))
  cases b
  all_goals
    go_enter Tryz.func80, Tryz.ntmps80
    go_wp2_with (first | (go_at_call 110; refine (eqIns op z r m k e s _).mono ?_; rintro r9 w' ⟨rfl, o3, o4, o5, o6, rfl⟩; have P1 := hide ((((P0.out.alloc o3).alloc o4).alloc o5).alloc o6); have Q1 := hide ((((Q0.out.alloc o3).alloc o4).alloc o5).alloc o6); have K1 := hide (kept_new (kept_new (kept_new (kept_new K0.out o3) o4) o5) o6); have p1 := P1.out.all; have q1 := Q1.out.all))
    go_ret
    exact ⟨rfl, K1.out⟩
theorem toMicro (op z r m k e s t : Int) (b : Bool) (w : World) :
    Calls Tryz.prog 147 #[.agg #[iv op, iv z, iv r, iv m, iv k, iv e, iv s, iv t, .bool b]] w fun r' w' => r' = .returned (.agg #[iv op, iv z, iv r, iv m, iv k, iv e, iv s, iv t, .bool b]) ∧ Kept 0 0 w w' := by
  have K0 := hide (kept_new (kept_new (kept_alloc w (.cells #[iv op, iv z, iv r, iv m, iv k, iv e, iv s, iv t, .bool b] 185)) (.cells #[iv 0, iv 0, iv 0, iv 0, iv 0, iv 0, iv 0, iv 0, .bool false] 126)) (.cells #[iv 0, iv 0, iv 0, iv 0, iv 0, iv 0, iv 0, iv 0, .bool false] 126))
  have P0 := hide (((Blk.new w #[iv op, iv z, iv r, iv m, iv k, iv e, iv s, iv t, .bool b] 185).alloc (.cells #[iv 0, iv 0, iv 0, iv 0, iv 0, iv 0, iv 0, iv 0, .bool false] 126)).alloc (.cells #[iv 0, iv 0, iv 0, iv 0, iv 0, iv 0, iv 0, iv 0, .bool false] 126))
  have R0 := (Blk.new (w.alloc (.cells #[iv op, iv z, iv r, iv m, iv k, iv e, iv s, iv t, .bool b] 185)) #[iv 0, iv 0, iv 0, iv 0, iv 0, iv 0, iv 0, iv 0, .bool false] 126).alloc (.cells #[iv 0, iv 0, iv 0, iv 0, iv 0, iv 0, iv 0, iv 0, .bool false] 126)
  have X0 := Blk.new ((w.alloc (.cells #[iv op, iv z, iv r, iv m, iv k, iv e, iv s, iv t, .bool b] 185)).alloc (.cells #[iv 0, iv 0, iv 0, iv 0, iv 0, iv 0, iv 0, iv 0, .bool false] 126)) #[iv 0, iv 0, iv 0, iv 0, iv 0, iv 0, iv 0, iv 0, .bool false] 126
  simp only [World.size_alloc] at R0 X0
  replace R0 := hide R0
  replace X0 := hide X0
  go_enter Tryz.func147, Tryz.ntmps147
  go_wp2_with (first | (go_at_call 173; refine (toIns op z r m k e s _).mono ?_; rintro r9 w2 ⟨rfl, k2⟩; have P2 := hide (P0.out.kept0 k2); have R2 := hide (R0.out.kept0 k2); have X2 := hide (X0.out.kept0 k2); have K2 := hide (K0.out.trans k2); have p2 := P2.out.all; have r2 := R2.out.all; have fr2 := R2.out.fz; have x2 := X2.out.all; have fx2 := X2.out.fz; have s2 := X2.out.lt; clear k2))
  refine bodyPost_ret (v := .agg #[iv op, iv z, iv r, iv m, iv k, iv e, iv s, iv t, .bool b]) ?_ rfl ⟨rfl, ?_⟩
  · rw [results_one rfl]; go_simp
  · exact (kept_set (kept_set (kept_set (kept_set (kept_set (kept_set (kept_set (kept_set (kept_set (kept_set (kept_set (kept_set (kept_set (kept_set (kept_set (kept_set (kept_set (kept_set K2.out _ _ _ (.inr (by omega))) _ _ _ (.inr (by omega))) _ _ _ (.inr (by omega))) _ _ _ (.inr (by omega))) _ _ _ (.inr (by omega))) _ _ _ (.inr (by omega))) _ _ _ (.inr (by omega))) _ _ _ (.inr (by omega))) _ _ _ (.inr (by omega))) _ _ _ (.inr (by omega))) _ _ _ (.inr (by omega))) _ _ _ (.inr (by omega))) _ _ _ (.inr (by omega))) _ _ _ (.inr (by omega))) _ _ _ (.inr (by omega))) _ _ _ (.inr (by omega))) _ _ _ (.inr (by omega))) _ _ _ (.inr (by omega)))
end Go.Proofs.YtflnodadeajmcaaGreat

namespace Go.Proofs.YtflnodadeajmcaaGreat
open Go.RowKit
set_option linter.unusedVariables false
theorem MRow.keptS {w w' : World} {a : Option Addr} {n : Nat} {ys ts : List Int} {sk : List Bool} (h : MRow w a n ys ts sk) (k : Kept 0 0 w w') : MRow w' a n ys ts sk := VRow.keptS h k
theorem MOwn.keptS {w w' : World} {g n : Nat} {ys ts : List Int} {sk : List Bool} {lo hi : Nat} (h : MOwn w g n ys ts sk) (k : Kept lo hi w w') (hn : ¬ (lo ≤ g ∧ g < hi)) : MOwn w' g n ys ts sk := VOwn.keptS h k hn
theorem MOwn.row {w : World} {g n : Nat} {ys ts : List Int} {sk : List Bool} (h : MOwn w g n ys ts sk) : MRow w (some ⟨g, 0, none⟩) n ys ts sk := VOwn.row h
set_option maxHeartbeats 2000000 in
theorem eqMicroS (w : World) (a b : Option Addr) (ca cb n : Nat) (ys ts : List Int) (sk : List Bool) (ha : MRow w a n ys ts sk) (hb : MRow w b n ys ts sk) (bx : n ≤ 2000000) :
    Calls Tryz.prog 48 #[.slice a n ca, .slice b n cb] w fun e w' => e = .returned (.bool true) ∧ Kept 0 0 w w' := by
  have HA := hide ha
  have HB := hide hb
  clear ha hb
  go_enter Tryz.func48, Tryz.ntmps48
  go_wp2
  go_loopw [5] (fun j wr => ∃ k : Nat, k ≤ n ∧ j = .int .i64 k ∧ Kept 0 0 w wr) (fun j _ => n - (intOf j).toNat)
  case atStart => exact ⟨0, Nat.zero_le _, rfl, Kept.refl _ _ _⟩
  case round =>
    obtain ⟨k, hk, rfl, hg⟩ := hrel
    have HG := hide hg
    by_cases hlt : k < n
    · obtain ⟨g1, o1, rfl, p0, p1, p2, p3, p4, p5, p6, p7, p8⟩ := (HA.out.keptS hg).at9 hlt
      obtain ⟨g2, o2, rfl, q0, q1, q2, q3, q4, q5, q6, q7, q8⟩ := (HB.out.keptS hg).at9 hlt
      clear hg
      go_wp2
      go_region_with (go_at_call 80; refine (eqMicro _ _ _ _ _ _ _ _ _ _).mono ?_; rintro e w' ⟨rfl, k5⟩; have K5 := hide (HG.out.trans (undrewK k5)); clear k5)
      all_goals
        go_wp2
        go_roundw
        case rel => exact ⟨k + 1, by omega, by go_num, K5.out⟩
        case measure => simp [intOf]; omega
    · go_wp2
      go_ret
      exact ⟨rfl, hg⟩
theorem Tryz.infoMicro : (Tryz.prog.info? 126).map (fun i => (i.zero, i.size, i.bytes)) = some (some (.agg #[iv 0, iv 0, iv 0, iv 0, iv 0, iv 0, iv 0, iv 0, .bool false]), 9, 72) := by kernel_rfl
set_option maxHeartbeats 2000000 in
theorem toMicroS (w : World) (a : Option Addr) (ca n : Nat) (ys ts : List Int) (sk : List Bool) (ha : MRow w a n ys ts sk) (bx : n ≤ 2000000) :
    Calls Tryz.prog 122 #[.slice a n ca] w fun e w' => e = .returned (.slice (some ⟨w.heap.size, 0, none⟩) n n) ∧ MOwn w' w.heap.size n ys ts sk ∧ w.heap.size < w'.heap.size ∧ Kept 0 0 w w' := by
  obtain ⟨i, hi, hz0, hz1, hz2⟩ := info_parts Tryz.infoMicro
  have HA := hide ha
  clear ha
  go_enter Tryz.func122, Tryz.ntmps122
  go_wp2_with (first | (at_make; refine wpList_make_full _ rfl _ _ 44 rfl w.heap.size 126 i (.agg #[iv 0, iv 0, iv 0, iv 0, iv 0, iv 0, iv 0, iv 0, .bool false]) 9 Tryz.underlying44 hi hz0 hz1 _ _ _ _ n rfl rfl rfl rfl ?c1 ?c2 ?c3 ?_))
  case c1 => rw [hz2]; omega
  case c2 => unfold maxLen; omega
  case c3 => exact Nat.le_refl _
  intro w1 hown hg
  obtain ⟨vs, hvs⟩ : ∃ vs, vs = (madeCells #[iv 0, iv 0, iv 0, iv 0, iv 0, iv 0, iv 0, iv 0, .bool false] (n * 9)).toList := ⟨_, rfl⟩
  have hvl : vs.length = 9 * n := by rw [hvs]; simp [size_madeCells]; omega
  rw [← hvs] at hown
  have ho : VOwn w1 w.heap.size vs := vown_made (sz := 9) hown (by omega)
  have hs : w.heap.size < w1.heap.size := (hown.lt _ rfl).2
  clear hown hvs
  go_wp2
  go_loopw [4] (fun j wr => ∃ (k : Nat) (zs : List Value), k ≤ n ∧ j = .int .i64 k ∧ zs.length = 9 * n ∧ VOwn wr w.heap.size zs ∧ (∀ i, i < k * 9 → vl zs i = vl (miL ys ts sk n) i) ∧ w.heap.size < wr.heap.size ∧ w.grownBy wr none) (fun j _ => n - (intOf j).toNat)
  case atStart => exact ⟨0, _, Nat.zero_le _, rfl, hvl, ho, fun i hi => absurd hi (by omega), hs, hg⟩
  case round =>
    obtain ⟨k, zs, hk, rfl, hl, hown, heq, hsz, hgr⟩ := hrel
    have HE := hide heq
    have HL := hide hl
    have HO := hide hown
    have HS := hide hsz
    clear heq hl
    by_cases hlt : k < n
    · obtain ⟨g1, o1, rfl, p0, p1, p2, p3, p4, p5, p6, p7, p8⟩ := (HA.out.keptS (kept_grown hgr)).at9 hlt
      clear hown hsz
      go_wp2_with fail
      refine (toMicro _ _ _ _ _ _ _ _ _ _).mono ?_
      rintro e X ⟨rfl, kX⟩
      have hx : wr.grownBy X none := kX.grown
      have HX2 : Hid (w.grownBy X none) := hide (grownBy_trans hgr hx)
      have HO2 := hide (HO.out.keptS kX (by omega))
      have HS2 : Hid (w.heap.size < X.heap.size) := hide (Nat.lt_of_lt_of_le HS.out hx.size)
      clear kX hx p0 p1 p2 p3 p4 p5 p6 p7 p8 hgr
      obtain ⟨⟨c0, c1, c2, c3, c4, c5, c6, c7, c8⟩, f0, f1, f2, f3, f4, f5, f6, f7, f8⟩ := HO2.out.at9 HL.out hlt
      go_wp2_with fail
      go_roundw
      case rel =>
        have hk4 : k * 9 + 8 < zs.length := by have := HL.out; omega
        obtain ⟨n0, n1, n2, n3, n4, n5, n6, n7, n8⟩ := set9_new (a := iv (el ys (k * 7))) (b := iv (el ys (k * 7 + 1))) (c := iv (el ys (k * 7 + 2))) (d := iv (el ys (k * 7 + 3))) (e := iv (el ys (k * 7 + 4))) (f := iv (el ys (k * 7 + 5))) (x := iv (el ys (k * 7 + 6))) (t := iv (el ts k)) (q := .bool (bl sk k)) hk4
        obtain ⟨m7, m8, m9⟩ := miL_at ys ts sk hlt
        exact ⟨k + 1, set9 zs k _ _ _ _ _ _ _ _ _, by omega, by go_num, by rw [set9_len]; exact HL.out, HO2.out.set9 k _ _ _ _ _ _ _ _ _, snoc9 (fun i hi => (set9_old hi).trans (HE.out i hi)) (n0.trans (m7 0 (by decide)).symm) (n1.trans (m7 1 (by decide)).symm) (n2.trans (m7 2 (by decide)).symm) (n3.trans (m7 3 (by decide)).symm) (n4.trans (m7 4 (by decide)).symm) (n5.trans (m7 5 (by decide)).symm) (n6.trans (m7 6 (by decide)).symm) (n7.trans m8.symm) (n8.trans m9.symm), by simpa using HS2.out, grown_set9 HX2.out (.inr (Nat.le_refl _)) _ _ _ _ _ _ _ _ _ _ _ _ _ _ _ _ _ _⟩
      case measure => simp [intOf]; omega
    · clear hown hsz
      go_wp2
      go_ret
      have e : zs = miL ys ts sk n := extV (by rw [miL_len]; exact HL.out) (fun i hi => HE.out i (by have := HL.out; omega))
      exact ⟨rfl, by unfold MOwn; rw [← e]; exact HO.out, HS.out, kept_grown hgr⟩
theorem szMicroS (w : World) (a : Option Addr) (ca n : Nat) (left : Int) (hn : n ≤ 9223372036854775807) (l0 : 0 ≤ left) (l1 : left ≤ 2000000) :
    Calls Tryz.prog 111 #[.slice a n ca, .int .i64 left] w fun e w' => e = .returned (.int .i64 (if left - (n : Int) < 0 then -1 else left - (n : Int))) ∧ w' = w := by
  by_cases h : left - (n : Int) < 0
  all_goals
    go_enter Tryz.func111, Tryz.ntmps111
    go_wp2
    go_ret
    exact ⟨rfl, rfl⟩
theorem szUnit (w : World) (f t : Int) (a : Option Addr) (ca n : Nat) (left : Int) (hn : n ≤ 9223372036854775807) (l0 : 0 ≤ left) (l1 : left ≤ 2000000) :
    Calls Tryz.prog 83 #[.agg #[iv f, iv t, .slice a n ca], .int .i64 left] w fun e w' => e = .returned (.int .i64 (if left - (n : Int) < 0 then -1 else left - (n : Int))) ∧ Kept 0 0 w w' := by
  have K0 := hide (kept_alloc w (.cells #[iv f, iv t, .slice a n ca] 93))
  by_cases h : left - (n : Int) < 0
  · have e0 : (if left - (n : Int) < 0 then (-1 : Int) else left - (n : Int)) = -1 := if_pos h
    go_enter Tryz.func83, Tryz.ntmps83
    go_wp2_with (first | (go_at_call 111; refine (szMicroS _ a ca n left hn l0 l1).mono ?_; rintro e9 w9 ⟨rfl, hw9⟩; have hw2 := hw9.symm; clear hw9; subst hw2; rw [e0]))
    go_ret
    exact ⟨by first | rfl | rw [e0], K0.out⟩
  · obtain ⟨L, hL⟩ : ∃ L : Int, L = left - (n : Int) := ⟨_, rfl⟩
    have e0 : (if left - (n : Int) < 0 then (-1 : Int) else left - (n : Int)) = L := (if_neg h).trans hL.symm
    have hL0 : ¬ L < 0 := by omega
    have HL := hide hL
    clear hL
    go_enter Tryz.func83, Tryz.ntmps83
    go_wp2_with (first | (go_at_call 111; refine (szMicroS _ a ca n left hn l0 l1).mono ?_; rintro e9 w9 ⟨rfl, hw9⟩; have hw2 := hw9.symm; clear hw9; subst hw2; rw [e0]))
    go_ret
    exact ⟨by first | rfl | (rw [← HL.out]; rfl), K0.out⟩
theorem eqUnit (w : World) (f t : Int) (a b : Option Addr) (ca cb n : Nat) (ys ts : List Int) (sk : List Bool) (ha : MRow w a n ys ts sk) (hb : MRow w b n ys ts sk) (bx : n ≤ 2000000) :
    Calls Tryz.prog 16 #[.agg #[iv f, iv t, .slice a n ca], .agg #[iv f, iv t, .slice b n cb]] w fun e w' => e = .returned (.bool true) ∧ Kept 0 0 w w' := by
  have K0 := hide (kept_new (kept_alloc w (.cells #[iv f, iv t, .slice a n ca] 46)) (.cells #[iv f, iv t, .slice b n cb] 46))
  have HA := hide (ha.keptS K0.out)
  have HB := hide (hb.keptS K0.out)
  clear ha hb
  go_enter Tryz.func16, Tryz.ntmps16
  go_wp2_with (first | (go_at_call 48; refine (eqMicroS _ a b ca cb n ys ts sk HA.out HB.out bx).mono ?_; rintro e9 w2 ⟨rfl, k2⟩; have K2 := hide (K0.out.trans k2); clear k2))
  go_ret
  exact ⟨rfl, K2.out⟩
theorem toUnit (w : World) (f t : Int) (a : Option Addr) (ca n : Nat) (ys ts : List Int) (sk : List Bool) (ha : MRow w a n ys ts sk) (bx : n ≤ 2000000) :
    Calls Tryz.prog 93 #[.agg #[iv f, iv t, .slice a n ca]] w fun e w' => ∃ g : Nat, e = .returned (.agg #[iv f, iv t, .slice (some ⟨g, 0, none⟩) n n]) ∧ w.heap.size ≤ g ∧ g < w'.heap.size ∧ MOwn w' g n ys ts sk ∧ Kept 0 0 w w' := by
  have K0 := hide (kept_new (kept_new (kept_alloc w (.cells #[iv f, iv t, .slice a n ca] 93)) (.cells #[iv 0, iv 0, .slice none 0 0] 46)) (.cells #[iv f, iv t, .slice none 0 0] 46))
  have P0 := hide (((Blk.new w #[iv f, iv t, .slice a n ca] 93).alloc (.cells #[iv 0, iv 0, .slice none 0 0] 46)).alloc (.cells #[iv f, iv t, .slice none 0 0] 46))
  have R0 := (Blk.new (w.alloc (.cells #[iv f, iv t, .slice a n ca] 93)) #[iv 0, iv 0, .slice none 0 0] 46).alloc (.cells #[iv f, iv t, .slice none 0 0] 46)
  have X0 := Blk.new ((w.alloc (.cells #[iv f, iv t, .slice a n ca] 93)).alloc (.cells #[iv 0, iv 0, .slice none 0 0] 46)) #[iv f, iv t, .slice none 0 0] 46
  simp only [World.size_alloc] at R0 X0
  replace R0 := hide R0
  replace X0 := hide X0
  have HA := hide (ha.keptS K0.out)
  clear ha
  go_enter Tryz.func93, Tryz.ntmps93
  go_wp2_with (first | (go_at_call 122; refine (toMicroS _ a ca n ys ts sk HA.out bx).mono ?_; rintro r9 w2 ⟨rfl, o2, s2, k2⟩; have P2 := hide (P0.out.kept0 k2); have R2 := hide (R0.out.kept0 k2); have X2 := hide (X0.out.kept0 k2); have K2 := hide (K0.out.trans k2); have O2 := hide o2; have S2 := hide s2; have p2 := P2.out.all; have r2 := R2.out.all; have fr2 := R2.out.fz; have x2 := X2.out.all; have fx2 := X2.out.fz; have l2 := X2.out.lt; clear k2 o2 s2))
  have S3 := S2.out
  simp only [World.size_alloc] at S3
  have O3 := O2.out
  simp only [World.size_alloc] at O3
  refine bodyPost_ret (v := .agg #[iv f, iv t, .slice (some ⟨w.heap.size + 1 + 1 + 1, 0, none⟩) n n]) ?_ rfl ⟨w.heap.size + 1 + 1 + 1, rfl, by omega, by simp only [World.size_setCell]; omega, ?_, ?_⟩
  · rw [results_one rfl]; go_simp
  · exact ((((O3.setOther _ _ _ (by omega)).setOther _ _ _ (by omega)).setOther _ _ _ (by omega)).setOther _ _ _ (by omega))
  · exact (kept_set (kept_set (kept_set (kept_set K2.out _ _ _ (.inr (by omega))) _ _ _ (.inr (by omega))) _ _ _ (.inr (by omega))) _ _ _ (.inr (by omega)))
end Go.Proofs.YtflnodadeajmcaaGreat

namespace Go.Proofs.YtflnodadeajmcaaGreat
open Go.RowKit
set_option linter.unusedVariables false
namespace Pl
/-- a kept unit: from, to, how many micros, their instructions, places, skips, and when it was used -/
structure Ck where
  f : Int
  t : Int
  n : Nat
  ys : List Int
  ts : List Int
  sk : List Bool
  u : Int
def noCk : Ck := ⟨0, 0, 0, [], [], [], 0⟩
/-- the kept unit at a place of a list -/
def ck (us : List Ck) (k : Nat) : Ck := us[k]?.getD noCk
/-- its lists have their lengths, its numbers are those of a word -/
structure CkOk (x : Ck) : Prop where
  ly : x.ys.length = 7 * x.n
  lt : x.ts.length = x.n
  ls : x.sk.length = x.n
  wy : Wide x.ys
  wt : Wide x.ts
  ln : x.n ≤ 9223372036854775807
  wf : -9223372036854775808 ≤ x.f ∧ x.f ≤ 9223372036854775807
  wg : -9223372036854775808 ≤ x.t ∧ x.t ≤ 9223372036854775807
  wu : -9223372036854775808 ≤ x.u ∧ x.u ≤ 9223372036854775807
/-- a kept unit is as it must be at a clock -/
noncomputable def goodC (c : Int) (x : Ck) : Bool := goodU x.f x.t x.n x.ys x.ts x.sk && (decide (0 ≤ x.u) && decide (x.u ≤ c))
/-- the k-th of a list is as it must be, by those ahead of it -/
def okK (c : Int) (us : List Ck) (k : Nat) : Prop :=
  goodC c (ck us k) = true ∧ (0 < k → (ck us (k - 1)).f < (ck us k).f) ∧ ∀ j, j < k → (ck us j).u ≠ (ck us k).u
/-- a good store -/
structure GS (r c : Int) (us : List Ck) : Prop where
  r1 : 1 ≤ r
  r8 : r ≤ 8
  c0 : 0 ≤ c
  c1 : c ≤ 1000000
  lr : (us.length : Int) ≤ r
  ok : ∀ k, k < us.length → okK c us k
noncomputable def goodS (r c : Int) (us : List Ck) : Bool := @decide (GS r c us) (Classical.propDecidable _)
theorem goodS_yes {r c : Int} {us : List Ck} (h : GS r c us) : goodS r c us = true := @decide_eq_true _ (Classical.propDecidable _) h
theorem goodS_no {r c : Int} {us : List Ck} (h : ¬ GS r c us) : goodS r c us = false := @decide_eq_false _ (Classical.propDecidable _) h
theorem goodS_of {r c : Int} {us : List Ck} (h : goodS r c us = true) : GS r c us := @of_decide_eq_true _ (Classical.propDecidable _) h
end Pl
end Go.Proofs.YtflnodadeajmcaaGreat

namespace Go.Proofs.YtflnodadeajmcaaGreat
open Go.RowKit
set_option linter.unusedVariables false
/-- a kept unit's four cells, from a place on -/
def CAt (w : World) (g o : Nat) (x : Pl.Ck) : Prop :=
  w.cell? ⟨g, o, none⟩ = some (iv x.f) ∧ w.cell? ⟨g, o + 1, none⟩ = some (iv x.t) ∧ (∃ (b : Option Addr) (cb : Nat), w.cell? ⟨g, o + 2, none⟩ = some (.slice b x.n cb) ∧ MRow w b x.n x.ys x.ts x.sk) ∧ w.cell? ⟨g, o + 3, none⟩ = some (iv x.u)
def CRow (w : World) (a : Option Addr) (us : List Pl.Ck) : Prop :=
  ∀ k, k < us.length → ∃ g off : Nat, a = some ⟨g, off, none⟩ ∧ CAt w g (off + k * 4) (Pl.ck us k)
theorem CAt.keptS {w w' : World} {g o : Nat} {x : Pl.Ck} (h : CAt w g o x) (k : Kept 0 0 w w') : CAt w' g o x := by
  obtain ⟨h0, h1, ⟨b, cb, h2, hm⟩, h3⟩ := h
  have e : w'.heap[g]? = w.heap[g]? := k.block g (World.block_lt_of_cell? _ _ h0) (by omega)
  have q : ∀ i, w'.cell? ⟨g, i, none⟩ = w.cell? ⟨g, i, none⟩ := fun i => World.cell?_of_block (w := w) e
  exact ⟨(q _).trans h0, (q _).trans h1, ⟨b, cb, (q _).trans h2, hm.keptS k⟩, (q _).trans h3⟩
theorem CRow.keptS {w w' : World} {a : Option Addr} {us : List Pl.Ck} (h : CRow w a us) (k : Kept 0 0 w w') : CRow w' a us := by
  intro i hi
  obtain ⟨g, off, ea, hc⟩ := h i hi
  exact ⟨g, off, ea, hc.keptS k⟩
/-- the k-th of a row, opened -/
theorem CRow.at4 {w : World} {a : Option Addr} {us : List Pl.Ck} {k : Nat} (h : CRow w a us) (hk : k < us.length) :
    ∃ (g off : Nat) (b : Option Addr) (cb : Nat), a = some ⟨g, off, none⟩ ∧ w.cell? ⟨g, off + k * 4, none⟩ = some (iv (Pl.ck us k).f) ∧ w.cell? ⟨g, off + k * 4 + 1, none⟩ = some (iv (Pl.ck us k).t) ∧ w.cell? ⟨g, off + k * 4 + 2, none⟩ = some (.slice b (Pl.ck us k).n cb) ∧ w.cell? ⟨g, off + k * 4 + 3, none⟩ = some (iv (Pl.ck us k).u) ∧ MRow w b (Pl.ck us k).n (Pl.ck us k).ys (Pl.ck us k).ts (Pl.ck us k).sk := by
  obtain ⟨g, off, ea, h0, h1, ⟨b, cb, h2, hm⟩, h3⟩ := h k hk
  exact ⟨g, off, b, cb, ea, h0, h1, h2, h3, hm⟩
/-- the cells of a list that is being copied: the k-th one's four, its micros in a block of their own behind a place -/
def CV (w : World) (lo : Nat) (zs : List Value) (k : Nat) (x : Pl.Ck) : Prop :=
  vl zs (k * 4) = iv x.f ∧ vl zs (k * 4 + 1) = iv x.t ∧ vl zs (k * 4 + 3) = iv x.u ∧ ∃ b : Nat, vl zs (k * 4 + 2) = .slice (some ⟨b, 0, none⟩) x.n x.n ∧ lo < b ∧ b < w.heap.size ∧ MOwn w b x.n x.ys x.ts x.sk
/-- a list of kept units of one's own: its block, and behind it its micros' blocks -/
def COwn (w : World) (g : Nat) (us : List Pl.Ck) : Prop :=
  ∃ zs : List Value, zs.length = 4 * us.length ∧ VOwn w g zs ∧ ∀ k, k < us.length → CV w g zs k (Pl.ck us k)
theorem COwn.row {w : World} {g : Nat} {us : List Pl.Ck} (h : COwn w g us) : CRow w (some ⟨g, 0, none⟩) us := by
  obtain ⟨zs, hl, ho, hc⟩ := h
  intro k hk
  obtain ⟨c0, c1, c3, b, c2, _, _, hm⟩ := hc k hk
  refine ⟨g, 0, rfl, ?_, ?_, ⟨some ⟨b, 0, none⟩, (Pl.ck us k).n, ?_, hm.row⟩, ?_⟩
  · rw [Nat.zero_add]; exact (ho (k * 4) (by omega)).1.trans (congrArg some c0)
  · rw [Nat.zero_add]; exact (ho (k * 4 + 1) (by omega)).1.trans (congrArg some c1)
  · rw [Nat.zero_add]; exact (ho (k * 4 + 2) (by omega)).1.trans (congrArg some c2)
  · rw [Nat.zero_add]; exact (ho (k * 4 + 3) (by omega)).1.trans (congrArg some c3)
theorem COwn.kept0 {w w' : World} {g : Nat} {us : List Pl.Ck} (h : COwn w g us) (k : Kept 0 0 w w') : COwn w' g us := by
  obtain ⟨zs, hl, ho, hc⟩ := h
  refine ⟨zs, hl, ho.keptS k (by omega), fun i hi => ?_⟩
  obtain ⟨c0, c1, c3, b, c2, l1, l2, hm⟩ := hc i hi
  exact ⟨c0, c1, c3, b, c2, l1, Nat.lt_of_lt_of_le l2 k.size, hm.keptS k (by omega)⟩
theorem CV.kept0 {w w' : World} {lo k : Nat} {zs : List Value} {x : Pl.Ck} (h : CV w lo zs k x) (q : Kept 0 0 w w') : CV w' lo zs k x := by
  obtain ⟨c0, c1, c3, b, c2, l1, l2, hm⟩ := h
  exact ⟨c0, c1, c3, b, c2, l1, Nat.lt_of_lt_of_le l2 q.size, hm.keptS q (by omega)⟩
theorem CV.setO {w : World} {lo k : Nat} {zs : List Value} {x : Pl.Ck} (h : CV w lo zs k x) (i : Nat) (v : Value) : CV (w.setCell ⟨lo, i, none⟩ v) lo zs k x := by
  obtain ⟨c0, c1, c3, b, c2, l1, l2, hm⟩ := h
  exact ⟨c0, c1, c3, b, c2, l1, by simpa using l2, VOwn.setOther hm _ _ _ (by omega)⟩
def set4 (vs : List Value) (k : Nat) (a b c d : Value) : List Value := ((((vs.set (k * 4) a).set (k * 4 + 1) b).set (k * 4 + 2) c).set (k * 4 + 3) d)
theorem set4_len (vs : List Value) (k : Nat) (a b c d : Value) : (set4 vs k a b c d).length = vs.length := by simp [set4]
theorem set4_old {vs : List Value} {k : Nat} {a b c d : Value} {i : Nat} (h : i < k * 4) : vl (set4 vs k a b c d) i = vl vs i := by
  unfold set4
  rw [vl_old (by omega), vl_old (by omega), vl_old (by omega), vl_old (by omega)]
theorem set4_new {vs : List Value} {k : Nat} {a b c d : Value} (h : k * 4 + 3 < vs.length) : vl (set4 vs k a b c d) (k * 4) = a ∧ vl (set4 vs k a b c d) (k * 4 + 1) = b ∧ vl (set4 vs k a b c d) (k * 4 + 2) = c ∧ vl (set4 vs k a b c d) (k * 4 + 3) = d := by
  unfold set4
  refine ⟨?_, ?_, ?_, ?_⟩
  · rw [vl_old (by omega), vl_old (by omega), vl_old (by omega), vl_new (by omega)]
  · rw [vl_old (by omega), vl_old (by omega), vl_new (by simp; omega)]
  · rw [vl_old (by omega), vl_new (by simp; omega)]
  · rw [vl_new (by simp; omega)]
theorem VOwn.set4 {w : World} {g : Nat} {vs : List Value} (h : VOwn w g vs) (k : Nat) (a b c d : Value) :
    VOwn ((((w.setCell ⟨g, k * 4, none⟩ a).setCell ⟨g, k * 4 + 1, none⟩ b).setCell ⟨g, k * 4 + 2, none⟩ c).setCell ⟨g, k * 4 + 3, none⟩ d) g (set4 vs k a b c d) :=
  (((h.set a).set b).set c).set d
theorem VOwn.at4 {w : World} {g : Nat} {vs : List Value} (h : VOwn w g vs) {n k : Nat} (hl : vs.length = 4 * n) (hk : k < n) :
    (w.cell? ⟨g, k * 4, none⟩ = some (vl vs (k * 4)) ∧ w.cell? ⟨g, k * 4 + 1, none⟩ = some (vl vs (k * 4 + 1)) ∧ w.cell? ⟨g, k * 4 + 2, none⟩ = some (vl vs (k * 4 + 2)) ∧ w.cell? ⟨g, k * 4 + 3, none⟩ = some (vl vs (k * 4 + 3))) ∧ w.frozen? ⟨g, k * 4, none⟩ = false ∧ w.frozen? ⟨g, k * 4 + 1, none⟩ = false ∧ w.frozen? ⟨g, k * 4 + 2, none⟩ = false ∧ w.frozen? ⟨g, k * 4 + 3, none⟩ = false :=
  ⟨⟨(h (k * 4) (by omega)).1, (h (k * 4 + 1) (by omega)).1, (h (k * 4 + 2) (by omega)).1, (h (k * 4 + 3) (by omega)).1⟩, (h (k * 4) (by omega)).2, (h (k * 4 + 1) (by omega)).2, (h (k * 4 + 2) (by omega)).2, (h (k * 4 + 3) (by omega)).2⟩
/-- comparing -/
theorem eqCached (w : World) (x : Pl.Ck) (a b : Option Addr) (ca cb : Nat) (ha : MRow w a x.n x.ys x.ts x.sk) (hb : MRow w b x.n x.ys x.ts x.sk) (bx : x.n ≤ 2000000) :
    Calls Tryz.prog 69 #[.agg #[iv x.f, iv x.t, .slice a x.n ca, iv x.u], .agg #[iv x.f, iv x.t, .slice b x.n cb, iv x.u]] w fun e w' => e = .returned (.bool true) ∧ Kept 0 0 w w' := by
  obtain ⟨f, t, n, ys, ts, sk, u⟩ := x
  simp only at ha hb bx ⊢
  have K0 := hide (kept_new (kept_alloc w (.cells #[iv f, iv t, .slice a n ca, iv u] 101)) (.cells #[iv f, iv t, .slice b n cb, iv u] 101))
  have P0 := hide ((Blk.new w #[iv f, iv t, .slice a n ca, iv u] 101).alloc (.cells #[iv f, iv t, .slice b n cb, iv u] 101))
  have R0 := Blk.new (w.alloc (.cells #[iv f, iv t, .slice a n ca, iv u] 101)) #[iv f, iv t, .slice b n cb, iv u] 101
  simp only [World.size_alloc] at R0
  replace R0 := hide R0
  have HA := hide (ha.keptS K0.out)
  have HB := hide (hb.keptS K0.out)
  clear ha hb
  go_enter Tryz.func69, Tryz.ntmps69
  go_wp2_with (first | (go_at_call 16; refine (eqUnit _ f t a b ca cb n ys ts sk HA.out HB.out bx).mono ?_; rintro e9 w2 ⟨rfl, k2⟩; have K2 := hide (K0.out.trans k2); have p2 := (P0.out.kept0 k2).all; have r2 := (R0.out.kept0 k2).all; clear k2))
  go_ret
  exact ⟨rfl, K2.out⟩
end Go.Proofs.YtflnodadeajmcaaGreat

namespace Go.Proofs.YtflnodadeajmcaaGreat
open Go.RowKit
set_option linter.unusedVariables false
set_option maxHeartbeats 2000000 in
theorem toCached (w : World) (x : Pl.Ck) (a : Option Addr) (ca : Nat) (ha : MRow w a x.n x.ys x.ts x.sk) (bx : x.n ≤ 2000000) :
    Calls Tryz.prog 62 #[.agg #[iv x.f, iv x.t, .slice a x.n ca, iv x.u]] w fun e w' => ∃ g : Nat, e = .returned (.agg #[iv x.f, iv x.t, .slice (some ⟨g, 0, none⟩) x.n x.n, iv x.u]) ∧ w.heap.size ≤ g ∧ g < w'.heap.size ∧ MOwn w' g x.n x.ys x.ts x.sk ∧ Kept 0 0 w w' := by
  obtain ⟨f, t, n, ys, ts, sk, u⟩ := x
  simp only at ha bx ⊢
  have K0 := hide (kept_new (kept_new (kept_alloc w (.cells #[iv f, iv t, .slice a n ca, iv u] 95)) (.cells #[iv 0, iv 0, .slice none 0 0, iv 0] 101)) (.cells #[iv 0, iv 0, .slice none 0 0, iv 0] 101))
  have P0 := hide (((Blk.new w #[iv f, iv t, .slice a n ca, iv u] 95).alloc (.cells #[iv 0, iv 0, .slice none 0 0, iv 0] 101)).alloc (.cells #[iv 0, iv 0, .slice none 0 0, iv 0] 101))
  have R0 := (Blk.new (w.alloc (.cells #[iv f, iv t, .slice a n ca, iv u] 95)) #[iv 0, iv 0, .slice none 0 0, iv 0] 101).alloc (.cells #[iv 0, iv 0, .slice none 0 0, iv 0] 101)
  have X0 := Blk.new ((w.alloc (.cells #[iv f, iv t, .slice a n ca, iv u] 95)).alloc (.cells #[iv 0, iv 0, .slice none 0 0, iv 0] 101)) #[iv 0, iv 0, .slice none 0 0, iv 0] 101
  simp only [World.size_alloc] at R0 X0
  replace R0 := hide R0
  replace X0 := hide X0
  have HA := hide (ha.keptS K0.out)
  clear ha
  go_enter Tryz.func62, Tryz.ntmps62
  go_wp2_with (first | (go_at_call 93; refine (toUnit _ f t a ca n ys ts sk HA.out bx).mono ?_; rintro r9 w2 ⟨g, rfl, s1, s2, o2, k2⟩; have P2 := hide (P0.out.kept0 k2); have R2 := hide (R0.out.kept0 k2); have X2 := hide (X0.out.kept0 k2); have K2 := hide (K0.out.trans k2); have O2 := hide o2; have S1 := hide s1; have S2 := hide s2; have p2 := P2.out.all; have r2 := R2.out.all; have fr2 := R2.out.fz; have x2 := X2.out.all; have fx2 := X2.out.fz; have l2 := X2.out.lt; clear k2 o2 s1 s2))
  have S3 := S2.out
  have S4 := S1.out
  simp only [World.size_alloc] at S4
  have O3 := O2.out
  refine bodyPost_ret (v := .agg #[iv f, iv t, .slice (some ⟨g, 0, none⟩) n n, iv u]) ?_ rfl ⟨g, rfl, by omega, by simp only [World.size_setCell]; omega, ?_, ?_⟩
  · rw [results_one rfl]; go_simp
  · exact (((((((O3.setOther _ _ _ (by omega)).setOther _ _ _ (by omega)).setOther _ _ _ (by omega)).setOther _ _ _ (by omega)).setOther _ _ _ (by omega)).setOther _ _ _ (by omega)).setOther _ _ _ (by omega)).setOther _ _ _ (by omega)
  · exact (kept_set (kept_set (kept_set (kept_set (kept_set (kept_set (kept_set (kept_set K2.out _ _ _ (.inr (by omega))) _ _ _ (.inr (by omega))) _ _ _ (.inr (by omega))) _ _ _ (.inr (by omega))) _ _ _ (.inr (by omega))) _ _ _ (.inr (by omega))) _ _ _ (.inr (by omega))) _ _ _ (.inr (by omega)))
theorem Tryz.infoCached : (Tryz.prog.info? 101).map (fun i => (i.zero, i.size, i.bytes)) = some (some (.agg #[iv 0, iv 0, .slice none 0 0, iv 0]), 4, 48) := by kernel_rfl
set_option maxHeartbeats 2000000 in
theorem toCachedS (w : World) (a : Option Addr) (ca : Nat) (us : List Pl.Ck) (ha : CRow w a us) (bx : us.length ≤ 2000000) (bn : ∀ k, k < us.length → (Pl.ck us k).n ≤ 2000000) :
    Calls Tryz.prog 32 #[.slice a us.length ca] w fun e w' => e = .returned (.slice (some ⟨w.heap.size, 0, none⟩) us.length us.length) ∧ COwn w' w.heap.size us ∧ w.heap.size < w'.heap.size ∧ Kept 0 0 w w' := by
  obtain ⟨i, hi, hz0, hz1, hz2⟩ := info_parts Tryz.infoCached
  obtain ⟨n, hn⟩ : ∃ n, n = us.length := ⟨_, rfl⟩
  have HA := hide ha
  have HN := hide hn
  rw [← hn] at bx ⊢
  clear ha hn
  go_enter Tryz.func32, Tryz.ntmps32
  go_wp2_with (first | (at_make; refine wpList_make_full _ rfl _ _ 37 rfl w.heap.size 101 i (.agg #[iv 0, iv 0, .slice none 0 0, iv 0]) 4 Tryz.underlying37 hi hz0 hz1 _ _ _ _ n rfl rfl rfl rfl ?c1 ?c2 ?c3 ?_))
  case c1 => rw [hz2]; omega
  case c2 => unfold maxLen; omega
  case c3 => exact Nat.le_refl _
  intro w1 hown hg
  obtain ⟨vs, hvs⟩ : ∃ vs, vs = (madeCells #[iv 0, iv 0, .slice none 0 0, iv 0] (n * 4)).toList := ⟨_, rfl⟩
  have hvl : vs.length = 4 * n := by rw [hvs]; simp [size_madeCells]; omega
  rw [← hvs] at hown
  have ho : VOwn w1 w.heap.size vs := vown_made (sz := 4) hown (by omega)
  have hs : w.heap.size < w1.heap.size := (hown.lt _ rfl).2
  clear hown hvs
  go_wp2
  go_loopw [4] (fun j wr => ∃ (k : Nat) (zs : List Value), k ≤ n ∧ j = .int .i64 k ∧ zs.length = 4 * n ∧ VOwn wr w.heap.size zs ∧ (∀ i, i < k → CV wr w.heap.size zs i (Pl.ck us i)) ∧ w.heap.size < wr.heap.size ∧ w.grownBy wr none) (fun j _ => n - (intOf j).toNat)
  case atStart => exact ⟨0, _, Nat.zero_le _, rfl, hvl, ho, fun i hi => absurd hi (by omega), hs, hg⟩
  case round =>
    obtain ⟨k, zs, hk, rfl, hl, hown, heq, hsz, hgr⟩ := hrel
    have HE := hide heq
    have HL := hide hl
    have HO := hide hown
    have HS := hide hsz
    clear heq hl
    by_cases hlt : k < n
    · obtain ⟨g1, o1, b1, cb1, rfl, p0, p1, p2, p3, pm⟩ := (HA.out.keptS (kept_grown hgr)).at4 (k := k) (by rw [← HN.out]; exact hlt)
      have bk := bn k (by rw [← HN.out]; exact hlt)
      have PM := hide pm
      clear hown hsz pm
      go_wp2_with fail
      refine (toCached _ (Pl.ck us k) b1 cb1 PM.out bk).mono ?_
      rintro e X ⟨gx, rfl, g0, g1', hm, kX⟩
      have hx : wr.grownBy X none := kX.grown
      have HX2 : Hid (w.grownBy X none) := hide (grownBy_trans hgr hx)
      have HO2 := hide (HO.out.keptS kX (by omega))
      have HS2 : Hid (w.heap.size < X.heap.size) := hide (Nat.lt_of_lt_of_le HS.out hx.size)
      have HE2 := hide (fun i (q : i < k) => (HE.out i q).kept0 kX)
      have HM2 := hide hm
      have HG0 := hide g0
      have HG1 := hide g1'
      clear kX hx p0 p1 p2 p3 hgr hm PM HE g0 g1'
      obtain ⟨⟨c0, c1, c2, c3⟩, f0, f1, f2, f3⟩ := HO2.out.at4 HL.out hlt
      go_wp2_with fail
      go_roundw
      case rel =>
        have hk4 : k * 4 + 3 < zs.length := by have := HL.out; omega
        have q0 := HS.out
        have q1 := HG0.out
        have q2 := HG1.out
        obtain ⟨n0, n1, n2, n3⟩ := set4_new (a := iv (Pl.ck us k).f) (b := iv (Pl.ck us k).t) (c := .slice (some ⟨gx, 0, none⟩) (Pl.ck us k).n (Pl.ck us k).n) (d := iv (Pl.ck us k).u) hk4
        refine ⟨k + 1, set4 zs k _ _ _ _, by omega, by go_num, by rw [set4_len]; exact HL.out, HO2.out.set4 k (iv (Pl.ck us k).f) (iv (Pl.ck us k).t) (.slice (some ⟨gx, 0, none⟩) (Pl.ck us k).n (Pl.ck us k).n) (iv (Pl.ck us k).u), ?_, by simp only [World.size_setCell]; omega, ?_⟩
        · intro i hi
          by_cases e : i < k
          · obtain ⟨d0, d1, d3, b, d2, l1, l2, dm⟩ := (((((HE2.out i e).setO (k * 4) (iv (Pl.ck us k).f)).setO (k * 4 + 1) (iv (Pl.ck us k).t)).setO (k * 4 + 2) (.slice (some ⟨gx, 0, none⟩) (Pl.ck us k).n (Pl.ck us k).n)).setO (k * 4 + 3) (iv (Pl.ck us k).u))
            exact ⟨(set4_old (by omega)).trans d0, (set4_old (by omega)).trans d1, (set4_old (by omega)).trans d3, b, (set4_old (by omega)).trans d2, l1, l2, dm⟩
          · obtain rfl : i = k := by omega
            exact ⟨n0, n1, n3, gx, n2, by omega, by simp only [World.size_setCell]; omega, (((VOwn.setOther HM2.out _ _ _ (by omega)).setOther _ _ _ (by omega)).setOther _ _ _ (by omega)).setOther _ _ _ (by omega)⟩
        · exact grown_setV (grown_setV (grown_setV (grown_setV HX2.out (.inr (Nat.le_refl _)) _ _) (.inr (Nat.le_refl _)) _ _) (.inr (Nat.le_refl _)) _ _) (.inr (Nat.le_refl _)) _ _
      case measure => simp [intOf]; omega
    · clear hown hsz
      go_wp2
      go_ret
      obtain rfl : k = n := by omega
      exact ⟨rfl, ⟨zs, by rw [← HN.out]; exact HL.out, HO.out, by rw [← HN.out]; exact HE.out⟩, HS.out, kept_grown hgr⟩
set_option maxHeartbeats 2000000 in
theorem eqCachedS (w : World) (a b : Option Addr) (ca cb : Nat) (us : List Pl.Ck) (ha : CRow w a us) (hb : CRow w b us) (bx : us.length ≤ 2000000) (bn : ∀ k, k < us.length → (Pl.ck us k).n ≤ 2000000) :
    Calls Tryz.prog 40 #[.slice a us.length ca, .slice b us.length cb] w fun e w' => e = .returned (.bool true) ∧ Kept 0 0 w w' := by
  obtain ⟨n, hn⟩ : ∃ n, n = us.length := ⟨_, rfl⟩
  have HA := hide ha
  have HB := hide hb
  have HN := hide hn
  rw [← hn] at bx ⊢
  clear ha hb hn
  go_enter Tryz.func40, Tryz.ntmps40
  go_wp2
  go_loopw [5] (fun j wr => ∃ k : Nat, k ≤ n ∧ j = .int .i64 k ∧ Kept 0 0 w wr) (fun j _ => n - (intOf j).toNat)
  case atStart => exact ⟨0, Nat.zero_le _, rfl, Kept.refl _ _ _⟩
  case round =>
    obtain ⟨k, hk, rfl, hg⟩ := hrel
    have HG := hide hg
    by_cases hlt : k < n
    · obtain ⟨g1, o1, b1, cb1, rfl, p0, p1, p2, p3, pm⟩ := (HA.out.keptS hg).at4 (k := k) (by rw [← HN.out]; exact hlt)
      obtain ⟨g2, o2, b2, cb2, rfl, q0, q1, q2, q3, qm⟩ := (HB.out.keptS hg).at4 (k := k) (by rw [← HN.out]; exact hlt)
      have bk := bn k (by rw [← HN.out]; exact hlt)
      have PM := hide pm
      have QM := hide qm
      clear hg pm qm
      go_wp2
      go_region_with (go_at_call 69; refine (eqCached _ (Pl.ck us k) b1 b2 cb1 cb2 (PM.out.keptS (kept_drew (Kept.refl _ _ _))) (QM.out.keptS (kept_drew (Kept.refl _ _ _))) bk).mono ?_; rintro e w' ⟨rfl, k5⟩; have K5 := hide (HG.out.trans (undrewK k5)); clear k5)
      all_goals
        go_wp2
        go_roundw
        case rel => exact ⟨k + 1, by omega, by go_num, K5.out⟩
        case measure => simp [intOf]; omega
    · go_wp2
      go_ret
      exact ⟨rfl, hg⟩
/-- what is left of an allowance behind a list of kept units: below nought, or the list fits it -/
def SzOk (us : List Pl.Ck) (left L : Int) : Prop := L < 0 ∨ (0 ≤ L ∧ L ≤ left ∧ (us.length : Int) ≤ left ∧ ∀ k, k < us.length → ((Pl.ck us k).n : Int) ≤ left)
theorem szCached (w : World) (x : Pl.Ck) (a : Option Addr) (ca : Nat) (left : Int) (hn : x.n ≤ 9223372036854775807) (l0 : 0 ≤ left) (l1 : left ≤ 2000000) :
    Calls Tryz.prog 56 #[.agg #[iv x.f, iv x.t, .slice a x.n ca, iv x.u], .int .i64 left] w fun e w' => e = .returned (.int .i64 (if left - (x.n : Int) < 0 then -1 else left - (x.n : Int))) ∧ Kept 0 0 w w' := by
  obtain ⟨f, t, n, ys, ts, sk, u⟩ := x
  simp only at hn ⊢
  have K0 := hide (kept_alloc w (.cells #[iv f, iv t, .slice a n ca, iv u] 95))
  by_cases h : left - (n : Int) < 0
  · have e0 : (if left - (n : Int) < 0 then (-1 : Int) else left - (n : Int)) = -1 := if_pos h
    go_enter Tryz.func56, Tryz.ntmps56
    go_wp2_with (first | (go_at_call 83; refine (szUnit _ f t a ca n left hn l0 l1).mono ?_; rintro e9 w9 ⟨rfl, k9⟩; have K9 := hide (K0.out.trans k9); clear k9; rw [e0]))
    go_ret
    exact ⟨by first | rfl | rw [e0], K9.out⟩
  · obtain ⟨L, hL⟩ : ∃ L : Int, L = left - (n : Int) := ⟨_, rfl⟩
    have e0 : (if left - (n : Int) < 0 then (-1 : Int) else left - (n : Int)) = L := (if_neg h).trans hL.symm
    have hL0 : ¬ L < 0 := by omega
    have HL := hide hL
    clear hL
    go_enter Tryz.func56, Tryz.ntmps56
    go_wp2_with (first | (go_at_call 83; refine (szUnit _ f t a ca n left hn l0 l1).mono ?_; rintro e9 w9 ⟨rfl, k9⟩; have K9 := hide (K0.out.trans k9); clear k9; rw [e0]))
    go_ret
    exact ⟨by first | rfl | (rw [← HL.out]; rfl), K9.out⟩
end Go.Proofs.YtflnodadeajmcaaGreat

namespace Go.Proofs.YtflnodadeajmcaaGreat
open Go.RowKit Go.Maps
set_option linter.unusedVariables false
/-- an element of a map is held as it is -/
def hold (v : Value) : Option (DataW Value × List MemPlace) := some (.held v, [])
theorem hold_inv {v : Value} {y : DataW Value × List MemPlace} (h : hold v = some y) : y.1 = .held v := by
  unfold hold at h; cases h; rfl
def ky (x : Int) : Lit := .int .i64 x
theorem ky_ne {x y : Int} (h : x ≠ y) : ky x ≠ ky y := by intro e; exact h (by simpa [ky] using e)
theorem ky_key (x : Int) : WideAt.IsKeyLit (ky x) := trivial
/-- a kept unit whose micros lie at b -/
def ckV (x : Pl.Ck) (b : Option Addr) (cb : Nat) : Value := .agg #[iv x.f, iv x.t, .slice b x.n cb, iv x.u]
theorem blkGrown {w w' : World} {row : Option Nat} {b : Nat} {cs : Array Value} {ty : TypeId} (hg : w.grownBy w' row) (h : Blk w b cs ty) (hn : row ≠ some b) : Blk w' b cs ty :=
  (hg.block b h.lt (by intro q; exact hn q.symm)).trans h
/-- a map that holds the first k of a list -/
structure MapOf (W : World) (us : List Pl.Ck) (k : Nat) (D : DataW Value) : Prop where
  has : ∀ x, Maps.has D (ky x) = true ↔ ∃ i, i < k ∧ (Pl.ck us i).f = x
  at_ : ∀ i, i < k → ∃ (b : Option Addr) (cb : Nat), (∀ z, D.atKey (ky (Pl.ck us i).f) z = .held (ckV (Pl.ck us i) b cb)) ∧ MRow W b (Pl.ck us i).n (Pl.ck us i).ys (Pl.ck us i).ts (Pl.ck us i).sk
  sz : Maps.size D = k
theorem MapOf.none (W : World) (us : List Pl.Ck) : MapOf W us 0 (.map []) :=
  ⟨fun x => by simp [Maps.has_eq], fun i hi => absurd hi (Nat.not_lt_zero i), rfl⟩
theorem MapOf.kept {W W' : World} {us : List Pl.Ck} {k : Nat} {D : DataW Value} (h : MapOf W us k D) (q : Kept 0 0 W W') : MapOf W' us k D :=
  ⟨h.has, fun i hi => by obtain ⟨b, cb, h1, h2⟩ := h.at_ i hi; exact ⟨b, cb, h1, h2.keptS q⟩, h.sz⟩
theorem MapOf.put {W : World} {us : List Pl.Ck} {k : Nat} {D : DataW Value} (h : MapOf W us k D) (T : Maps.Tidy D) (hd : ∀ i, i < k → (Pl.ck us i).f ≠ (Pl.ck us k).f) {b : Option Addr} {cb : Nat} (hm : MRow W b (Pl.ck us k).n (Pl.ck us k).ys (Pl.ck us k).ts (Pl.ck us k).sk) :
    MapOf W us (k + 1) (D.put (ky (Pl.ck us k).f) (.held (ckV (Pl.ck us k) b cb))) := by
  have hno : Maps.has D (ky (Pl.ck us k).f) = false := by
    rw [Bool.eq_false_iff]
    intro e
    obtain ⟨i, hi, e2⟩ := (h.has _).1 e
    exact hd i hi e2
  refine ⟨fun x => ?_, fun i hi => ?_, ?_⟩
  · by_cases e : x = (Pl.ck us k).f
    · subst e
      rw [Maps.has_put_same T.isMap (ky_key _)]
      exact ⟨fun _ => ⟨k, by omega, rfl⟩, fun _ => rfl⟩
    · rw [Maps.has_put_other (ky_ne e), h.has]
      constructor
      · rintro ⟨i, hi, e2⟩; exact ⟨i, by omega, e2⟩
      · rintro ⟨i, hi, e2⟩
        by_cases e3 : i = k
        · subst e3; exact absurd e2.symm e
        · exact ⟨i, by omega, e2⟩
  · by_cases e : i = k
    · subst e
      exact ⟨b, cb, fun z => Maps.atKey_put_same T.isMap (ky_key _) _ z, hm⟩
    · obtain ⟨b1, cb1, h1, h2⟩ := h.at_ i (by omega)
      exact ⟨b1, cb1, fun z => (Maps.atKey_put_other (ky_ne (hd i (by omega))) _ z).trans (h1 z), h2⟩
  · rw [Maps.size_put T, hno, h.sz]; rfl
theorem MapOf.of_has {W : World} {us : List Pl.Ck} {k : Nat} {D : DataW Value} (h : MapOf W us k D) {kl : Lit} {y : DataW Value} (hy : ∀ z, D.atKey kl z = y) {x : Int} (hk : kl = ky x) : ∃ i, i < k ∧ (Pl.ck us i).f = x ∧ ∃ (b : Option Addr) (cb : Nat), y = .held (ckV (Pl.ck us i) b cb) ∧ MRow W b (Pl.ck us i).n (Pl.ck us i).ys (Pl.ck us i).ts (Pl.ck us i).sk := by
  subst hk
  obtain ⟨i, hi, e⟩ := (h.has x).1 (Maps.has_true_of_atKey hy)
  obtain ⟨b, cb, h1, h2⟩ := h.at_ i hi
  subst e
  exact ⟨i, hi, rfl, b, cb, (hy y).symm.trans (h1 y), h2⟩
/-- block b is a map that holds the first k of a list, whose micros lie where they lie in world V -/
def ShelfV (V W : World) (b : Nat) (us : List Pl.Ck) (k : Nat) : Prop := ∃ D, W.ownsMap Tryz.prog 3 hold b k D ∧ MapOf V us k D
def Shelf (W : World) (b : Nat) (us : List Pl.Ck) (k : Nat) : Prop := ShelfV W W b us k
theorem ShelfV.shelf {V W : World} {b : Nat} {us : List Pl.Ck} {k : Nat} (h : ShelfV V W b us k) (q : Kept 0 0 V W) : Shelf W b us k := by
  obtain ⟨D, h1, h2⟩ := h
  exact ⟨D, h1, h2.kept q⟩
/-- the k-th of a row, its cells in a later world, its micros where they lay -/
theorem CRow.at4k {w w' : World} {a : Option Addr} {us : List Pl.Ck} {k : Nat} (h : CRow w a us) (q : Kept 0 0 w w') (hk : k < us.length) :
    ∃ (g off : Nat) (b : Option Addr) (cb : Nat), a = some ⟨g, off, none⟩ ∧ w'.cell? ⟨g, off + k * 4, none⟩ = some (iv (Pl.ck us k).f) ∧ w'.cell? ⟨g, off + k * 4 + 1, none⟩ = some (iv (Pl.ck us k).t) ∧ w'.cell? ⟨g, off + k * 4 + 2, none⟩ = some (.slice b (Pl.ck us k).n cb) ∧ w'.cell? ⟨g, off + k * 4 + 3, none⟩ = some (iv (Pl.ck us k).u) ∧ MRow w b (Pl.ck us k).n (Pl.ck us k).ys (Pl.ck us k).ts (Pl.ck us k).sk := by
  obtain ⟨g, off, b, cb, ea, h0, h1, h2, h3, hm⟩ := h.at4 hk
  have e : w'.heap[g]? = w.heap[g]? := q.block g (World.block_lt_of_cell? _ _ h0) (by omega)
  have qq : ∀ i, w'.cell? ⟨g, i, none⟩ = w.cell? ⟨g, i, none⟩ := fun i => World.cell?_of_block (w := w) e
  exact ⟨g, off, b, cb, ea, (qq _).trans h0, (qq _).trans h1, (qq _).trans h2, (qq _).trans h3, hm⟩
theorem Tryz.keyInt : Keyed Tryz.prog 3 := int_keyed Tryz.underlying3
theorem wf_int {x : Int} (h : -9223372036854775808 ≤ x ∧ x ≤ 9223372036854775807) : (Lit.int .i64 x).wf = true := by
  simp [Lit.wf, IntKind.min, IntKind.max, IntKind.bits, IntKind.signed]; omega
theorem run_makeMap_hint {P : Program} {t k e : TypeId} (ht : P.underlying t = some (.map k e)) (n : Int) (w : World) : (Instr.makeMap t (some (.int .i64 n))).run P w = .ok (.map (some w.heap.size)) (w.alloc (.map #[] 0)) := by
  simp only [Instr.makeMap, Sem.run_bind, run_underlying ht, Result.andThen_ok]
  rfl
set_option maxRecDepth 20000 in
set_option maxHeartbeats 2000000 in
theorem implShelfOf (V w : World) (hv : Kept 0 0 V w) (r c : Int) (a : Option Addr) (ca n : Nat) (us : List Pl.Ck) (hn : n = us.length) (ha : CRow V a us) (hok : ∀ k, k < us.length → Pl.CkOk (Pl.ck us k)) (hd : ∀ i k, i < k → k < us.length → (Pl.ck us i).f ≠ (Pl.ck us k).f) (bx : n ≤ 2000000) :
    Calls Tryz.prog 35 #[.agg #[iv r, iv c, .slice a n ca]] w fun e w' => ∃ bm : Nat, e = .returned (.agg #[iv r, iv c, .map (some bm)]) ∧ w.heap.size ≤ bm ∧ ShelfV V w' bm us n ∧ Kept 0 0 w w' := by
  have K0 := hide (kept_new (kept_new (kept_alloc w (.cells #[iv r, iv c, .slice a n ca] 39)) (.cells #[iv 0, iv 0, .map none] 68)) (.map #[] 0))
  have P0 := hide (((Blk.new w #[iv r, iv c, .slice a n ca] 39).alloc (.cells #[iv 0, iv 0, .map none] 68)).alloc (.map #[] 0))
  have HA := hide ha
  have HN := hide hn
  have HO := hide hok
  have HD := hide hd
  have hmm := fun (n : Int) (w : World) => run_makeMap_hint (P := Tryz.prog) Tryz.underlying66 n w
  clear ha hn hok hd
  go_enter Tryz.func35, Tryz.ntmps35
  go_wp2
  go_loopw [13] (fun j wr => ∃ k : Nat, k ≤ n ∧ j = .int .i64 k ∧ ShelfV V wr (w.heap.size + 1 + 1) us k ∧ Kept 0 0 w wr ∧ Blk wr w.heap.size #[iv r, iv c, .slice a n ca] 39 ∧ Blk wr (w.heap.size + 1) #[iv 0, iv 0, .map none] 68) (fun j _ => n - (intOf j).toNat)
  case atStart =>
    refine ⟨0, Nat.zero_le _, rfl, ⟨_, ?_, MapOf.none _ _⟩, K0.out, P0.out, ?_⟩
    · have h9 := World.ownsMap_made (H := Value) ((w.alloc (.cells #[iv r, iv c, .slice a n ca] 39)).alloc (.cells #[iv 0, iv 0, .map none] 68)) Tryz.prog 3 hold
      simp only [World.size_alloc] at h9
      exact h9
    · have h9 := (Blk.new (w.alloc (.cells #[iv r, iv c, .slice a n ca] 39)) #[iv 0, iv 0, .map none] 68).alloc (.map #[] 0)
      simp only [World.size_alloc] at h9
      exact h9
  case round =>
    obtain ⟨k, hk, rfl, hsh, hg, hb, hb2⟩ := hrel
    have HG := hide hg
    have HS := hide hsh
    have HB := hide hb
    have HB2 := hide hb2
    clear hb hb2 hsh
    by_cases hlt : k < n
    · have hlu : k < us.length := by rw [← HN.out]; exact hlt
      obtain ⟨g1, o1, b1, cb1, rfl, p0, p1, p2, p3, pm⟩ := HA.out.at4k (hv.trans hg) hlu
      have ok1 := HO.out k hlu
      have PM := hide pm
      have HKEY : Hid (keyOf Tryz.prog 3 (iv (Pl.ck us k).f) = some (ky (Pl.ck us k).f)) := hide (keyOf_int_mk Tryz.underlying3 (wf_int ok1.wf))
      clear hg pm
      obtain ⟨D, hown, hmo⟩ := HS.out
      have HM := hide hmo
      have HT := hide (hown.tidy Tryz.keyInt)
      have HOW := hide (hown.alloc (.cells #[iv (Pl.ck us k).f, iv (Pl.ck us k).t, .slice b1 (Pl.ck us k).n cb1, iv (Pl.ck us k).u] 101))
      have HBA := hide (HB.out.alloc (.cells #[iv (Pl.ck us k).f, iv (Pl.ck us k).t, .slice b1 (Pl.ck us k).n cb1, iv (Pl.ck us k).u] 101))
      have HBB := hide (HB2.out.alloc (.cells #[iv (Pl.ck us k).f, iv (Pl.ck us k).t, .slice b1 (Pl.ck us k).n cb1, iv (Pl.ck us k).u] 101))
      have HGA := hide (kept_new HG.out (.cells #[iv (Pl.ck us k).f, iv (Pl.ck us k).t, .slice b1 (Pl.ck us k).n cb1, iv (Pl.ck us k).u] 101))
      clear hown hmo
      go_wp2_with (first | (at_mapUpdate; refine wpList_mapUpdate_own _ rfl _ _ _ 66 rfl 3 101 Tryz.keyInt Tryz.underlying66 hold _ k D rfl HOW.out (by unfold maxLen; omega) _ _ (ky (Pl.ck us k).f) rfl rfl HKEY.out (.held (ckV (Pl.ck us k) b1 cb1)) [] rfl ?_))
      intro w2 hown2 hgr2
      have HO2 := hide hown2
      have B2 := hide (blkGrown hgr2 HBA.out (by intro q; injection q with q; omega))
      have BB2 := hide (blkGrown hgr2 HBB.out (by intro q; injection q with q; omega))
      have K2 := hide (kept_over HGA.out (kept_row (lo := w.heap.size) (hi := w.heap.size + 3) hgr2 (fun g q => by cases q; omega)) (Nat.le_refl _))
      clear hown2 hgr2
      go_wp2_with fail
      go_roundw
      case rel => exact ⟨k + 1, by omega, by go_num, ⟨_, HO2.out, HM.out.put HT.out (fun i hi => HD.out i k hi hlu) PM.out⟩, K2.out, B2.out, BB2.out⟩
      case measure => simp [intOf]; omega
    · obtain rfl : k = n := by omega
      have p9 := HB.out.all
      have q9 := HB2.out.all
      have fq9 := HB2.out.fz
      have lq9 := HB2.out.lt
      obtain ⟨D, hown, hmo⟩ := HS.out
      clear hg
      go_wp2_with fail
      have KF := kept_set (kept_set (kept_set HG.out (w.heap.size + 1) 0 (iv r) (.inr (by omega))) (w.heap.size + 1) 1 (iv c) (.inr (by omega))) (w.heap.size + 1) 2 (.map (some (w.heap.size + 1 + 1))) (.inr (by omega))
      refine bodyPost_ret (v := .agg #[iv r, iv c, .map (some (w.heap.size + 1 + 1))]) ?_ rfl ⟨w.heap.size + 1 + 1, rfl, by omega, ⟨D, ((hown.setCell (by simp) _).setCell (by simp) _).setCell (by simp) _, hmo⟩, KF⟩
      rw [results_one rfl]; go_simp
end Go.Proofs.YtflnodadeajmcaaGreat

namespace Go.Proofs.YtflnodadeajmcaaGreat
open Go.RowKit
set_option linter.unusedVariables false
theorem own_emptyS {w : World} {g base size : Nat} {e : TypeId} (h : Blk w g #[] e) (hb : base ≤ g) : w.ownsRow base e size (.slice (some ⟨g, 0, none⟩) 0 0) 0 [] :=
  ⟨by simp, .inr ⟨g, 0, #[], rfl, hb, h, Nat.le_refl _, Nat.zero_le _, by simp, by simp⟩⟩
theorem VRow.news {w : World} {g off : Nat} {vs : List Value} (h : VRow w (some ⟨g, off, none⟩) vs) : ∀ j u, vs[j]? = some u → w.cell? ((⟨g, off, none⟩ : Addr).add j) = some u := by
  intro j u hj
  have hlt : j < vs.length := by
    rcases Nat.lt_or_ge j vs.length with q | q
    · exact q
    · rw [List.getElem?_eq_none q] at hj; cases hj
  obtain ⟨g', off', ea, hc⟩ := h j hlt
  cases ea
  have e : vl vs j = u := by unfold vl; rw [hj]; rfl
  rw [e] at hc
  by_cases h0 : j = 0
  · subst h0; simpa [Addr.add] using hc
  · simpa [Addr.add, h0] using hc
theorem MRow.some {w : World} {a : Option Addr} {n : Nat} {ys ts : List Int} {sk : List Bool} (h : MRow w a n ys ts sk) (hn : 1 ≤ n) : ∃ g off : Nat, a = some ⟨g, off, none⟩ := by
  obtain ⟨g, off, ea, _⟩ := h 0 (by rw [miL_len]; omega)
  exact ⟨g, off, ea⟩
theorem miL_one {ys ts : List Int} {sk : List Bool} {n : Nat} : ∀ u ∈ miL ys ts sk n, u.oneCell' = true := by
  intro u hu
  unfold miL at hu
  obtain ⟨i, _, rfl⟩ := List.mem_map.1 hu
  split
  · rfl
  · split <;> rfl
set_option maxRecDepth 20000 in
set_option maxHeartbeats 4000000 in
theorem specOwnUnit (w : World) (f t : Int) (a : Option Addr) (ca n : Nat) (ys ts : List Int) (sk : List Bool) (ha : MRow w a n ys ts sk) (n1 : 1 ≤ n) (bx : n ≤ 2000000) :
    Calls Tryz.prog 73 #[.agg #[iv f, iv t, .slice a n ca]] w fun e w' => ∃ g cb : Nat, e = .returned (.agg #[iv f, iv t, .slice (some ⟨g, 0, none⟩) n cb]) ∧ w.heap.size ≤ g ∧ g < w'.heap.size ∧ MOwn w' g n ys ts sk ∧ Kept 0 0 w w' := by
  obtain ⟨ti, hi0, hz0, hz1, hz2⟩ := info_parts Tryz.infoMicro
  obtain ⟨ga, oa, rfl⟩ := ha.some n1
  have K0 := hide (kept_new (kept_new (kept_alloc w (.cells #[iv f, iv t, .slice (some ⟨ga, oa, none⟩) n ca] 46)) (.cells #[iv 0, iv 0, .slice none 0 0] 46)) (.cells #[] 126))
  have P0 := hide (((Blk.new w #[iv f, iv t, .slice (some ⟨ga, oa, none⟩) n ca] 46).alloc (.cells #[iv 0, iv 0, .slice none 0 0] 46)).alloc (.cells #[] 126))
  have R0 := (Blk.new (w.alloc (.cells #[iv f, iv t, .slice (some ⟨ga, oa, none⟩) n ca] 46)) #[iv 0, iv 0, .slice none 0 0] 46).alloc (.cells #[] 126)
  have X0 := Blk.new ((w.alloc (.cells #[iv f, iv t, .slice (some ⟨ga, oa, none⟩) n ca] 46)).alloc (.cells #[iv 0, iv 0, .slice none 0 0] 46)) #[] 126
  simp only [World.size_alloc] at R0 X0
  replace R0 := hide R0
  replace X0 := hide X0
  have HA := hide (VRow.keptS ha K0.out)
  clear ha
  go_enter Tryz.func73, Tryz.ntmps73
  go_wp2_with (first | (at_builtin; refine wpList_append_own_at _ rfl _ _ 44 rfl (w.heap.size + 1 + 1) 126 ti (.agg #[iv 0, iv 0, iv 0, iv 0, iv 0, iv 0, iv 0, iv 0, .bool false]) 9 72 Tryz.underlying44 hi0 hz0 hz1 hz2 rfl (by decide) _ _ _ rfl (own_emptyS X0.out (Nat.le_refl _)) ⟨ga, oa, none⟩ n ca (miL ys ts sk n) rfl ?c0 (VRow.news HA.out) miL_one ?c3 ?c4 ?c5 ?_))
  case c0 => rw [miL_len]; omega
  case c3 => unfold maxLen; omega
  case c4 => omega
  case c5 => simp only [World.size_alloc]; omega
  intro v' w4 hown hgr _ hat
  have hown2 : w4.ownsRow (w.heap.size + 1 + 1) 126 9 v' n (miL ys ts sk n) := by simpa using hown
  clear hown
  obtain ⟨g, cap, rfl, hb1, hb2⟩ := own_form hown2 (by omega)
  have MO : MOwn w4 g n ys ts sk := vown_made (sz := 9) hown2 (by rw [miL_len]; omega)
  have P4 := hide (blkGrown hgr P0.out (by intro q; have q2 : Option.some (w.heap.size + 1 + 1) = Option.some w.heap.size := q; injection q2 with q2; omega))
  have R4 := hide (blkGrown hgr R0.out (by intro q; have q2 : Option.some (w.heap.size + 1 + 1) = Option.some (w.heap.size + 1) := q; injection q2 with q2; omega))
  have K4 := hide (kept_over K0.out (kept_row (lo := w.heap.size) (hi := w.heap.size + 3) hgr (fun g q => by have q2 : Option.some (w.heap.size + 1 + 1) = Option.some g := q; injection q2 with q2; omega)) (Nat.le_refl _))
  have p4 := P4.out.all
  have fp4 := P4.out.fz
  have r4 := R4.out.all
  have fr4 := R4.out.fz
  have lr4 := R4.out.lt
  have HMO := hide MO
  clear hown2 hgr hat MO
  go_wp2_with fail
  refine bodyPost_ret (v := .agg #[iv f, iv t, .slice (some ⟨g, 0, none⟩) n cap]) ?_ rfl ⟨g, cap, rfl, by omega, by simp only [World.size_setCell]; omega, ?_, ?_⟩
  · rw [results_one rfl]; go_simp
  · exact ((((HMO.out.setOther _ _ _ (by omega)).setOther _ _ _ (by omega)).setOther _ _ _ (by omega)).setOther _ _ _ (by omega))
  · exact (kept_set (kept_set (kept_set (kept_set K4.out _ _ _ (.inr (by omega))) _ _ _ (.inr (by omega))) _ _ _ (.inr (by omega))) _ _ _ (.inr (by omega)))
end Go.Proofs.YtflnodadeajmcaaGreat

