/- The plain arithmetic beneath the walks of chapter 1: what masks, values with a sign and flags are, as functions on whole numbers. No Go text is spoken of here. Small things that every walk of ours leans on: equal answers, a fact kept from the walk, and what the model's test of a range answers. Worlds that grow, one block of them written: three small laws. What the laws' own functions over lists of whole numbers do: compare, copy, mark, look for the marks. What the laws' other comparison of lists of whole numbers answers. What the laws' own functions do that copy a list of whole numbers, mark it, and look for the marks. Lists that were answered, kept over calls that change other blocks: what the laws on lists lean on. What is said of worlds, blocks and lists by every law on structs with lists: blocks kept outside a span, lists in blocks of a span, a block's cells, copies; no text of a chapter is spoken of here. -/
import Derived.WalkKit
import Derived.Test.YtlbnllhabdnjjaaDoorProg
import Derived.WalkSpells
import Derived.WalkLawsBesides
import Derived.OpenShut
import Derived.Deep.QuietTactic
import Derived.BigQuiet
import Derived.RegionTactic
import Derived.ChangeAlike
import Derived.BigRegion
import Derived.Deep.RegionWith
import Derived.Laws.Rows
import Derived.Laws.ResultCell
import Derived.Laws.CopyOwn
import Derived.Maps.AppendAt
import Derived.Laws.AppendOwnNone
namespace Go.Proofs.YtlbnllhabdnjjaaDoor.Pl

theorem and255 (a : Int) : bits .and .i64 a 255 = a % 256 := by
  show IntKind.i64.wrap ((BitVec.ofInt 64 a &&& BitVec.ofInt 64 255).toNat : Int) = _
  rw [BitVec.toNat_and, BitVec.toNat_ofInt, show (BitVec.ofInt 64 255).toNat = 2 ^ 8 - 1 from by decide, Nat.and_two_pow_sub_one_eq_mod, IntKind.wrap_i64]
  omega
theorem and65535 (a : Int) : bits .and .i64 a 65535 = a % 65536 := by
  show IntKind.i64.wrap ((BitVec.ofInt 64 a &&& BitVec.ofInt 64 65535).toNat : Int) = _
  rw [BitVec.toNat_and, BitVec.toNat_ofInt, show (BitVec.ofInt 64 65535).toNat = 2 ^ 16 - 1 from by decide, Nat.and_two_pow_sub_one_eq_mod, IntKind.wrap_i64]
  omega
theorem and1 (a : Int) : bits .and .i64 a 1 = a % 2 := by
  show IntKind.i64.wrap ((BitVec.ofInt 64 a &&& BitVec.ofInt 64 1).toNat : Int) = _
  rw [BitVec.toNat_and, BitVec.toNat_ofInt, show (BitVec.ofInt 64 1).toNat = 2 ^ 1 - 1 from by decide, Nat.and_two_pow_sub_one_eq_mod, IntKind.wrap_i64]
  omega

/-- how many values a size has -/
def top (s : Int) : Int := if s = 1 then 256 else 65536
/-- a value of a size -/
def okv (s v : Int) : Bool := (decide (s = 1) || decide (s = 2)) && (decide (0 ≤ v) && decide (v < top s))
/-- a value as a number with a sign -/
def sg (s v : Int) : Int := if top s / 2 ≤ v then v - top s else v
/-- a flag where something is so -/
def fl (b : Bool) (f : Int) : Int := if b then f else 0
/-- the four flags of a result together -/
def four (c v z n : Bool) : Int := fl c 17 + fl v 2 + fl z 4 + fl n 8
def sgnV (s v : Int) : Int := if okv s v = true then sg s v else 0
def bit (x : Int) : Bool := decide (0 ≤ x) && decide (x ≤ 1)
def two (s x a b : Int) : Bool := okv s a && (okv s b && bit x)
def flags (f : Int) : Bool := decide (0 ≤ f) && decide (f ≤ 31)
/-- what is kept of a result, and its flags: of the result without signs and of that with signs -/
def keptF (s plain signed : Int) : Int := four (plain % top s != plain) (sg s (plain % top s) != signed) (plain % top s == 0) (decide (sg s (plain % top s) < 0))
def addV (s x a b : Int) : Int := if two s x a b = true then (a + b + x) % top s else 0
def addF (s x a b : Int) : Int := if two s x a b = true then keptF s (a + b + x) (sg s a + sg s b + x) else 0
def subV (s x a b : Int) : Int := if two s x a b = true then (a - b - x) % top s else 0
def subF (s x a b : Int) : Int := if two s x a b = true then keptF s (a - b - x) (sg s a - sg s b - x) else 0

theorem fl_or (c v z n : Bool) : bits .or .i64 (bits .or .i64 (bits .or .i64 (fl c 17) (fl v 2)) (fl z 4)) (fl n 8) = four c v z n := by
  cases c <;> cases v <;> cases z <;> cases n <;> decide
theorem fl_or2 (c v z n : Bool) : bits .or .i64 (bits .or .i64 (fl c 17) (fl v 2)) (bits .or .i64 (fl z 4) (fl n 8)) = four c v z n := by
  cases c <;> cases v <;> cases z <;> cases n <;> decide
theorem four_bd (c v z n : Bool) : 0 ≤ four c v z n ∧ four c v z n ≤ 31 := by
  cases c <;> cases v <;> cases z <;> cases n <;> decide
theorem top_ok {s v : Int} (h : okv s v = true) : (s = 1 ∧ top s = 256 ∨ s = 2 ∧ top s = 65536) ∧ 0 ≤ v ∧ v < top s := by
  simp [okv] at h
  obtain ⟨h1, h2, h3⟩ := h
  refine ⟨?_, h2, h3⟩
  rcases h1 with rfl | rfl
  · exact .inl ⟨rfl, rfl⟩
  · exact .inr ⟨rfl, rfl⟩

theorem andNot16 (t : Int) (h0 : 0 ≤ t) (h1 : t ≤ 31) : bits .andNot .i64 t 16 = bits .and .i64 t 15 := by
  obtain ⟨n, rfl⟩ := Int.eq_ofNat_of_zero_le h0
  have k : ∀ m : Fin 32, bits .andNot .i64 ((m.val : Nat) : Int) 16 = bits .and .i64 ((m.val : Nat) : Int) 15 := by decide
  exact k ⟨n, by omega⟩

theorem sgnV_ok {s v : Int} (h : okv s v = true) : sgnV s v = sg s v := by simp [sgnV, h]
theorem okv_mk1 {v : Int} (h0 : 0 ≤ v) (h1 : v < 256) : okv 1 v = true := by simp [okv, top, h0, h1]
theorem okv_mk2 {v : Int} (h0 : 0 ≤ v) (h1 : v < 65536) : okv 2 v = true := by simp [okv, top, h0, h1]
theorem sg_bd1 {v : Int} (h0 : 0 ≤ v) (h1 : v < 256) : -128 ≤ sg 1 v ∧ sg 1 v ≤ 127 := by simp [sg, top]; omega
theorem sg_bd2 {v : Int} (h0 : 0 ≤ v) (h1 : v < 65536) : -32768 ≤ sg 2 v ∧ sg 2 v ≤ 32767 := by simp [sg, top]; omega
theorem two_ok {s x a b : Int} (h : two s x a b = true) : okv s a = true ∧ okv s b = true ∧ bit x = true := by
  simpa [two] using h
theorem bit_ok {x : Int} (h : bit x = true) : 0 ≤ x ∧ x ≤ 1 := by simpa [bit] using h
theorem flags_ok {x : Int} (h : flags x = true) : 0 ≤ x ∧ x ≤ 31 := by simpa [flags] using h
theorem kept1 (p q : Int) : bits .or .i64 (bits .or .i64 (bits .or .i64 (fl (p % 256 != p) 17) (fl (sgnV 1 (p % 256) != q) 2)) (fl (p % 256 == 0) 4)) (fl (decide (sgnV 1 (p % 256) < 0)) 8) = keptF 1 p q := by
  rw [fl_or, sgnV_ok (okv_mk1 (by omega) (by omega))]; rfl
theorem kept2 (p q : Int) : bits .or .i64 (bits .or .i64 (bits .or .i64 (fl (p % 65536 != p) 17) (fl (sgnV 2 (p % 65536) != q) 2)) (fl (p % 65536 == 0) 4)) (fl (decide (sgnV 2 (p % 65536) < 0)) 8) = keptF 2 p q := by
  rw [fl_or, sgnV_ok (okv_mk2 (by omega) (by omega))]; rfl

theorem bne_symm (a b : Int) : (a != b) = (b != a) := by rw [Bool.eq_iff_iff]; simp; omega
theorem neg1 {v : Int} (h0 : 0 ≤ v) (h1 : v < 256) : decide (128 ≤ v) = decide (sg 1 v < 0) := by
  rw [Bool.eq_iff_iff]; simp [sg, top]; omega
theorem neg2 {v : Int} (h0 : 0 ≤ v) (h1 : v < 65536) : decide (32768 ≤ v) = decide (sg 2 v < 0) := by
  rw [Bool.eq_iff_iff]; simp [sg, top]; omega
theorem skept1 (p q : Int) : bits .or .i64 (bits .or .i64 (fl (p != p % 256) 17) (fl (q != sg 1 (p % 256)) 2)) (bits .or .i64 (fl (p % 256 == 0) 4) (fl (decide (128 ≤ p % 256)) 8)) = keptF 1 p q := by
  rw [fl_or2, neg1 (by omega) (by omega), bne_symm p, bne_symm q]; rfl
theorem skept2 (p q : Int) : bits .or .i64 (bits .or .i64 (fl (p != p % 65536) 17) (fl (q != sg 2 (p % 65536)) 2)) (bits .or .i64 (fl (p % 65536 == 0) 4) (fl (decide (32768 ≤ p % 65536)) 8)) = keptF 2 p q := by
  rw [fl_or2, neg2 (by omega) (by omega), bne_symm p, bne_symm q]; rfl
theorem below1 {p : Int} (h : p < 256) : decide (p < 0) = (p != p % 256) := by rw [Bool.eq_iff_iff]; simp; omega
theorem below2 {p : Int} (h : p < 65536) : decide (p < 0) = (p != p % 65536) := by rw [Bool.eq_iff_iff]; simp; omega
theorem sbelow1 (p q : Int) (h : p < 256) : bits .or .i64 (bits .or .i64 (fl (decide (p < 0)) 17) (fl (q != sg 1 (p % 256)) 2)) (bits .or .i64 (fl (p % 256 == 0) 4) (fl (decide (128 ≤ p % 256)) 8)) = keptF 1 p q := by
  rw [below1 h, skept1]
theorem sbelow2 (p q : Int) (h : p < 65536) : bits .or .i64 (bits .or .i64 (fl (decide (p < 0)) 17) (fl (q != sg 2 (p % 65536)) 2)) (bits .or .i64 (fl (p % 65536 == 0) 4) (fl (decide (32768 ≤ p % 65536)) 8)) = keptF 2 p q := by
  rw [below2 h, skept2]

theorem keptF_bd (s p q : Int) : 0 ≤ keptF s p q ∧ keptF s p q ≤ 31 := four_bd _ _ _ _
theorem subF_bd (s x a b : Int) : 0 ≤ subF s x a b ∧ subF s x a b ≤ 31 := by
  unfold subF; split
  · exact keptF_bd _ _ _
  · omega
theorem addF_bd (s x a b : Int) : 0 ≤ addF s x a b ∧ addF s x a b ≤ 31 := by
  unfold addF; split
  · exact keptF_bd _ _ _
  · omega
theorem or_comm (a b : Int) : bits .or .i64 a b = bits .or .i64 b a := by
  show IntKind.i64.wrap ((BitVec.ofInt 64 a ||| BitVec.ofInt 64 b).toNat : Int) = IntKind.i64.wrap ((BitVec.ofInt 64 b ||| BitVec.ofInt 64 a).toNat : Int)
  rw [BitVec.or_comm]
def cmpF (s f a b : Int) : Int := if (two s 0 a b && flags f) = true then bits .or .i64 (bits .and .i64 (subF s 0 a b) 15) (bits .and .i64 f 16) else 0
def logF (s f v : Int) : Int := if (okv s v && flags f) = true then bits .or .i64 (bits .and .i64 f 16) (bits .or .i64 (fl (v == 0) 4) (fl (decide (sg s v < 0)) 8)) else 0
def extV (v : Int) : Int := if okv 1 v = true then sg 1 v % 65536 else 0
def swpV (v : Int) : Int := if okv 2 v = true then v % 256 * 256 + v / 256 else 0
theorem keptSelf {s v : Int} (h : okv s v = true) : keptF s v (sg s v) = bits .or .i64 (fl (v == 0) 4) (fl (decide (sg s v < 0)) 8) := by
  obtain ⟨hs, h0, h1⟩ := top_ok h
  have e : v % top s = v := Int.emod_eq_of_lt h0 h1
  unfold keptF
  rw [e, bne_self_eq_false, bne_self_eq_false]
  cases (v == 0) <;> cases decide (sg s v < 0) <;> decide
theorem wraps_i64 (n : Int) (h₀ : 0 ≤ n) (h₁ : n < 2 ^ 62) : IntKind.i64.wrap n = n := by rw [IntKind.wrap_i64]; omega
theorem swap_or (v : Int) (h0 : 0 ≤ v) (h1 : v < 65536) : bits .or .i64 (v / 256) (v % 256 * 256) = v % 256 * 256 + v / 256 := by
  rw [or_comm]
  exact bits_join .i64 62 (by decide) wraps_i64 8 (v % 256 * 256) (v / 256) (by omega) (by omega) (by omega) (by omega) (by omega) (by omega)

end Go.Proofs.YtlbnllhabdnjjaaDoor.Pl
namespace Go.Proofs.YtlbnllhabdnjjaaDoor
open Go.RowKit
set_option linter.unusedVariables false

theorem hide {p : Prop} (h : p) : Hid p := h
theorem rI {a b : Int} (h : a = b) : Ending.returned (.int .i64 a) = .returned (.int .i64 b) := by rw [h]
theorem rB {a b : Bool} (h : a = b) : Ending.returned (.bool a) = .returned (.bool b) := by rw [h]
theorem rIB {a b : Int} {c d : Bool} (h : a = b) (k : c = d) : Ending.returned (.tuple #[.int .i64 a, .bool c]) = .returned (.tuple #[.int .i64 b, .bool d]) := by rw [h, k]
theorem rII {a b c d : Int} (h : a = b) (k : c = d) : Ending.returned (.tuple #[.int .i64 a, .int .i64 c]) = .returned (.tuple #[.int .i64 b, .int .i64 d]) := by rw [h, k]
theorem rIIB {a b c d : Int} {e f : Bool} (h : a = b) (k : c = d) (l : e = f) : Ending.returned (.tuple #[.int .i64 a, .int .i64 c, .bool e]) = .returned (.tuple #[.int .i64 b, .int .i64 d, .bool f]) := by rw [h, k, l]

theorem rVIB {v : Value} {a b : Int} {c d : Bool} (h : a = b) (k : c = d) : Ending.returned (.tuple #[v, .int .i64 a, .bool c]) = .returned (.tuple #[v, .int .i64 b, .bool d]) := by rw [h, k]

theorem l1In (n lo hi : Int) (w : World) :
    Calls Tryd.prog 46 #[.int .i64 n, .int .i64 lo, .int .i64 hi] w fun e w' => e = .returned (.bool (decide (lo ≤ n) && decide (n ≤ hi))) ∧ w' = w := by
  by_cases h0 : lo ≤ n
  all_goals
    by_cases h1 : n ≤ hi
    all_goals
      go_enter Tryd.func46, Tryd.ntmps46
      go_wp2
      go_ret
      exact ⟨rB (by simp; omega), rfl⟩

end Go.Proofs.YtlbnllhabdnjjaaDoor
namespace Go.Proofs.YtlbnllhabdnjjaaDoor
open Go.RowKit
set_option linter.unusedVariables false

theorem grownBy_set (w : World) (b o : Nat) (v : Value) : w.grownBy (w.setCell ⟨b, o, none⟩ v) (some b) :=
  ⟨rfl, rfl, rfl, by simp, fun k hk hne => Below.heap_setCell _ _ _ _ (fun e => hne (by rw [e]))⟩

theorem grownBy_trans {a b c : World} {row : Option Nat} (h : a.grownBy b row) (k : b.grownBy c row) : a.grownBy c row :=
  ⟨k.os.trans h.os, k.tape.trans h.tape, k.output.trans h.output, Nat.le_trans h.size k.size, fun i hi hne => (k.block i (Nat.lt_of_lt_of_le hi h.size) hne).trans (h.block i hi hne)⟩

theorem grownBy_drew {a b : World} {row : Option Nat} (h : a.grownBy b row) : a.grownBy b.drew row := ⟨h.os, h.tape, h.output, h.size, h.block⟩

end Go.Proofs.YtlbnllhabdnjjaaDoor
namespace Go.Proofs.YtlbnllhabdnjjaaDoor
open Go.RowKit
set_option linter.unusedVariables false

/-- a list of whole numbers lies in memory from address a on -/
def IRow (w : World) (a : Option Addr) (xs : List Int) : Prop :=
  ∀ i : Nat, i < xs.length → ∃ g off : Nat, a = some ⟨g, off, none⟩ ∧ w.cell? ⟨g, off + i, none⟩ = some (.int .i64 (xs[i]?.getD 0))

theorem IRow.kept {w w' : World} {a : Option Addr} {xs : List Int} (h : IRow w a xs) (hg : w.grownBy w' none) : IRow w' a xs := by
  intro i hi
  obtain ⟨g, off, ea, hc⟩ := h i hi
  exact ⟨g, off, ea, hg.cell hc (by simp)⟩

theorem ext_of {xs ys : List Int} (hl : xs.length = ys.length) (h : ∀ i, i < xs.length → xs[i]?.getD 0 = ys[i]?.getD 0) : xs = ys := by
  apply List.ext_getElem hl
  intro i h1 h2
  have := h i h1
  simpa [h1, h2] using this

theorem snoc_all {p : Nat → Prop} {k : Nat} (h : ∀ i, i < k → p i) (hk : p k) : ∀ i, i < k + 1 → p i := by
  intro i hi
  by_cases e : i = k
  · rw [e]; exact hk
  · exact h i (by omega)

end Go.Proofs.YtlbnllhabdnjjaaDoor
namespace Go.Proofs.YtlbnllhabdnjjaaDoor
open Go.RowKit
set_option linter.unusedVariables false

theorem sameInts (w : World) (a b : Option Addr) (ca cb : Nat) (xs ys : List Int) (ha : IRow w a xs) (hb : IRow w b ys) (lx : xs.length ≤ 2000000) (ly : ys.length ≤ 2000000) :
    Calls Tryd.prog 8 #[.slice a xs.length ca, .slice b ys.length cb] w fun e w' => e = .returned (.bool (decide (xs = ys))) ∧ w.grownBy w' none := by
  by_cases hl : xs.length = ys.length
  · have kl : (((xs.length : Nat) : Int) != ((ys.length : Nat) : Int)) = false := by simp [hl]
    have HL : Hid (xs.length = ys.length) := hl
    clear hl
    go_enter Tryd.func8, Tryd.ntmps8
    go_wp2
    go_loopw [5, 13] (fun i j wr => ∃ k : Nat, k ≤ xs.length ∧ j = .int .i64 k ∧ (∀ i, i < k → xs[i]?.getD 0 = ys[i]?.getD 0) ∧ w.grownBy wr none) (fun _ j _ => xs.length - (intOf j).toNat)
    case atStart => exact ⟨0, Nat.zero_le _, rfl, fun i hi => absurd hi (Nat.not_lt_zero i), World.grownBy.refl _ _⟩
    case round =>
      obtain ⟨k, hk, rfl, heq, hg⟩ := hrel
      by_cases hlt : k < xs.length
      · obtain ⟨g1, o1, rfl, hc1⟩ := ha.kept hg k hlt
        obtain ⟨g2, o2, rfl, hc2⟩ := hb.kept hg k (by have := HL.out; omega)
        have hlt2 : k < ys.length := by have := HL.out; omega
        have HE : Hid (∀ i, i < k → xs[i]?.getD 0 = ys[i]?.getD 0) := heq
        clear heq ha hb
        by_cases he : xs[k] = ys[k]
        · have ke : (xs[k] != ys[k]) = false := by simpa using he
          have HK : Hid (xs[k] = ys[k]) := he
          clear he
          go_wp2
          go_region
          go_wp2
          go_roundw
          case rel => exact ⟨k + 1, by omega, by go_num, snoc_all HE.out (by simpa [hlt, hlt2] using HK.out), grownBy_drew hg⟩
          case measure => simp [intOf]; omega
        · have ke : (xs[k] != ys[k]) = true := by simpa using he
          have HK : Hid (¬ xs[k] = ys[k]) := he
          clear he
          go_wp2
          go_region
          go_wp2
          go_ret
          exact ⟨rB (by symm; rw [decide_eq_false_iff_not]; intro e; apply HK.out; simp [e]), grownBy_drew hg⟩
      · have HE : Hid (∀ i, i < k → xs[i]?.getD 0 = ys[i]?.getD 0) := heq
        clear heq
        go_wp2
        go_ret
        exact ⟨rB (by symm; rw [decide_eq_true_iff]; exact ext_of HL.out (fun i hi => HE.out i (by omega))), hg⟩
  · have kl : (((xs.length : Nat) : Int) != ((ys.length : Nat) : Int)) = true := by rw [bne_iff_ne]; omega
    have HL : Hid (¬ xs.length = ys.length) := hl
    clear hl
    go_enter Tryd.func8, Tryd.ntmps8
    go_wp2
    go_ret
    exact ⟨rB (by symm; rw [decide_eq_false_iff_not]; intro e; apply HL.out; rw [e]), World.grownBy.refl _ _⟩

end Go.Proofs.YtlbnllhabdnjjaaDoor
namespace Go.Proofs.YtlbnllhabdnjjaaDoor
open Go.RowKit
set_option linter.unusedVariables false

/-- a list of whole numbers that may be written, from the head of block g on -/
def Own (w : World) (g : Nat) (xs : List Int) : Prop :=
  ∀ i : Nat, i < xs.length → w.cell? ⟨g, i, none⟩ = some (.int .i64 (xs[i]?.getD 0)) ∧ w.frozen? ⟨g, i, none⟩ = false

theorem Own.kept {w w' : World} {g : Nat} {xs : List Int} {row : Option Nat} (h : Own w g xs) (hg : w.grownBy w' row) (hne : some g ≠ row) : Own w' g xs := by
  intro i hi
  obtain ⟨hc, hf⟩ := h i hi
  exact ⟨hg.cell hc hne, by rw [World.frozen?_of_block (w := w) (hg.block g (World.block_lt_of_cell? _ _ hc) hne)]; exact hf⟩

theorem Own.row {w : World} {g : Nat} {xs : List Int} (h : Own w g xs) : IRow w (some ⟨g, 0, none⟩) xs := by
  intro i hi
  exact ⟨g, 0, rfl, by simpa using (h i hi).1⟩

theorem Own.set {w : World} {g k : Nat} {xs : List Int} (h : Own w g xs) (z : Int) : Own (w.setCell ⟨g, k, none⟩ (.int .i64 z)) g (xs.set k z) := by
  intro i hi
  rw [List.length_set] at hi
  obtain ⟨hc, hf⟩ := h i hi
  refine ⟨?_, by simpa using hf⟩
  by_cases e : k = i
  · subst e
    rw [World.cell?_setCell_same _ _ _ hc]
    simp [hi]
  · rw [World.cell?_setCell_other _ _ _ _ (fun q => e (congrArg Addr.off q)), hc]
    simp [e]

theorem own_of_row {w : World} {base g n cap : Nat} {xs : List Int} (h : w.ownsRow base 3 1 (.slice (some ⟨g, 0, none⟩) n cap) n (xs.map (Value.int .i64))) : Own w g xs := by
  intro i hi
  have hc := h.cells (g := g) rfl i (.int .i64 (xs[i]?.getD 0)) (by simp [hi])
  have hadd : (⟨g, 0, none⟩ : Addr).add i = ⟨g, i, none⟩ := by unfold Addr.add; split <;> simp_all
  rw [hadd] at hc
  refine ⟨hc, ?_⟩
  rcases h.2 with ⟨e, _⟩ | ⟨g', cap', cur, e, _, hgg, _⟩
  · cases e
  · cases e
    simp [World.frozen?, hgg]

theorem copied {w wr : World} {xs zs : List Int} {k : Nat} (hlt : k < xs.length) (hl : zs.length = xs.length) (hown : Own wr w.heap.size zs) (heq : ∀ i, i < k → zs[i]?.getD 0 = xs[i]?.getD 0) (hsz : w.heap.size < wr.heap.size) (hg : w.grownBy wr none) :
    ∃ (k' : Nat) (zs' : List Int), k' ≤ xs.length ∧ Value.int .i64 ((k : Int) + 1) = .int .i64 k' ∧ zs'.length = xs.length ∧ Own (wr.setCell ⟨w.heap.size, k, none⟩ (.int .i64 xs[k])) w.heap.size zs' ∧ (∀ i, i < k' → zs'[i]?.getD 0 = xs[i]?.getD 0) ∧ w.heap.size < (wr.setCell ⟨w.heap.size, k, none⟩ (.int .i64 xs[k])).heap.size ∧ w.grownBy (wr.setCell ⟨w.heap.size, k, none⟩ (.int .i64 xs[k])) none := by
  refine ⟨k + 1, zs.set k xs[k], by omega, by go_num, by simpa using hl, hown.set _, ?_, by simpa using hsz, ?_⟩
  · intro i hi
    by_cases e : k = i
    · subst e; simp [hl, hlt]
    · rw [List.getElem?_set_ne e]; exact heq i (by omega)
  · exact ⟨hg.os, hg.tape, hg.output, by simpa using hg.size, fun j hj hne => (Below.heap_setCell _ _ _ _ (by simp; omega)).trans (hg.block j hj hne)⟩

theorem Tryd.info3 : (Tryd.prog.info? 3).map (fun i => (i.zero, i.size, i.bytes)) = some (some (.int .i64 0), 1, 8) := by kernel_rfl

/-- the marks: from k on, one more each -/
def marks (k : Int) (n : Nat) : List Int := (List.range n).map (fun (i : Nat) => k + (i : Int))
theorem marks_len (k : Int) (n : Nat) : (marks k n).length = n := by simp [marks]
theorem marks_at (k : Int) (n i : Nat) (h : i < n) : (marks k n)[i]?.getD 0 = k + (i : Int) := by simp [marks, h]

theorem marked {w wr : World} {g n : Nat} {q : Int} {zs : List Int} {k : Nat} (hlt : k < n) (hl : zs.length = n) (hown : Own wr g zs) (heq : ∀ i, i < k → zs[i]?.getD 0 = q + (i : Int)) (hg : w.grownBy wr (some g)) :
    ∃ (k' : Nat) (zs' : List Int), k' ≤ n ∧ Value.int .i64 ((k : Int) + 1) = .int .i64 k' ∧ Value.int .i64 (q + (k : Int) + 1) = .int .i64 (q + (k' : Int)) ∧ zs'.length = n ∧ Own (wr.setCell ⟨g, k, none⟩ (.int .i64 (q + (k : Int)))) g zs' ∧ (∀ i, i < k' → zs'[i]?.getD 0 = q + (i : Int)) ∧ w.grownBy (wr.setCell ⟨g, k, none⟩ (.int .i64 (q + (k : Int)))) (some g) := by
  refine ⟨k + 1, zs.set k (q + (k : Int)), by omega, by go_num, by rw [show q + (k : Int) + 1 = q + ((k + 1 : Nat) : Int) from by omega], by simpa using hl, hown.set _, ?_, grownBy_trans hg (grownBy_set _ _ _ _)⟩
  intro i hi
  by_cases e : k = i
  · subst e; simp [hl, hlt]
  · rw [List.getElem?_set_ne e]; exact heq i (by omega)

end Go.Proofs.YtlbnllhabdnjjaaDoor
namespace Go.Proofs.YtlbnllhabdnjjaaDoor
open Go.RowKit
set_option linter.unusedVariables false

/-- a list that was answered: nil, or in a block of its own from 'base' on -/
def Res (w : World) (base : Nat) (v : Value) (xs : List Int) : Prop :=
  (v = .slice none 0 0 ∧ xs = []) ∨ ∃ g cap : Nat, v = .slice (some ⟨g, 0, none⟩) xs.length cap ∧ base ≤ g ∧ g < w.heap.size ∧ Own w g xs

def Wide (xs : List Int) : Prop := ∀ i : Nat, i < xs.length → -9223372036854775808 ≤ xs[i]?.getD 0 ∧ xs[i]?.getD 0 ≤ 9223372036854775807

theorem grownBy_drewN {a b : World} {row : Option Nat} (h : a.grownBy b row) (n : Nat) : a.grownBy (b.drewN n) row := ⟨h.os, h.tape, h.output, h.size, h.block⟩
theorem Own.drewN {w : World} {g : Nat} {xs : List Int} (h : Own w g xs) (n : Nat) : Own (w.drewN n) g xs := h

theorem grown_new {w w1 w2 : World} {row : Option Nat} (h : w.grownBy w1 none) (k : w1.grownBy w2 row) (hr : ∀ j, row = some j → w.heap.size ≤ j) : w.grownBy w2 none :=
  ⟨k.os.trans h.os, k.tape.trans h.tape, k.output.trans h.output, Nat.le_trans h.size k.size, fun i hi _ => (k.block i (Nat.lt_of_lt_of_le hi h.size) (fun e => by have := hr i e.symm; omega)).trans (h.block i hi (by simp))⟩

theorem res_of_row {w : World} {base : Nat} {v : Value} {xs : List Int} (h : w.ownsRow base 3 1 v xs.length (xs.map (Value.int .i64))) : Res w base v xs := by
  rcases h.2 with ⟨rfl, e⟩ | ⟨g, cap, cur, rfl, hb, hgg, rest⟩
  · exact .inl ⟨rfl, List.eq_nil_of_length_eq_zero e⟩
  · exact .inr ⟨g, cap, rfl, hb, (h.lt g rfl).2, own_of_row h⟩

/-- a list that was answered, at address a: nil, or in a block of its own from 'base' on -/
def Slot (w : World) (base : Nat) (a : Option Addr) (xs : List Int) : Prop :=
  (a = none ∧ xs = []) ∨ ∃ g : Nat, a = some ⟨g, 0, none⟩ ∧ base ≤ g ∧ g < w.heap.size ∧ Own w g xs

def blk (a : Option Addr) : Option Nat := a.map Addr.block

theorem Slot.kept {w w' : World} {base : Nat} {a : Option Addr} {xs : List Int} {row : Option Nat} (h : Slot w base a xs) (hg : w.grownBy w' row) (hne : ∀ g, base ≤ g → g < w.heap.size → some g ≠ row) : Slot w' base a xs := by
  rcases h with h | ⟨g, ea, hb, hlt, ho⟩
  · exact .inl h
  · exact .inr ⟨g, ea, hb, Nat.lt_of_lt_of_le hlt hg.size, ho.kept hg (hne g hb hlt)⟩

theorem Slot.keptA {w w' : World} {base : Nat} {a : Option Addr} {xs : List Int} {row : Option Nat} (h : Slot w base a xs) (hg : w.grownBy w' row) (hne : ∀ g, a = some ⟨g, 0, none⟩ → base ≤ g → some g ≠ row) : Slot w' base a xs := by
  rcases h with h | ⟨g, ea, hb, hlt, ho⟩
  · exact .inl h
  · exact .inr ⟨g, ea, hb, Nat.lt_of_lt_of_le hlt hg.size, ho.kept hg (hne g ea hb)⟩

theorem Slot.kept0 {w w' : World} {base : Nat} {a : Option Addr} {xs : List Int} (h : Slot w base a xs) (hg : w.grownBy w' none) : Slot w' base a xs := h.kept hg (by simp)

/-- another list's block, which lies from 'base'' on, is written: 'base'' is above this list -/
theorem Slot.other {w w' : World} {base base' : Nat} {a a' : Option Addr} {xs zs : List Int} (h : Slot w base a xs) (h' : Slot w base' a' zs) (hg : w.grownBy w' (blk a')) (hlt : ∀ g, a = some ⟨g, 0, none⟩ → g < base') : Slot w' base a xs := by
  rcases h with h | ⟨g, ea, hb, hl, ho⟩
  · exact .inl h
  · refine .inr ⟨g, ea, hb, Nat.lt_of_lt_of_le hl hg.size, ho.kept hg ?_⟩
    rcases h' with ⟨rfl, _⟩ | ⟨g', rfl, hb', _, _⟩
    · simp [blk]
    · have := hlt g ea; simp [blk]; omega

theorem Slot.row {w : World} {base : Nat} {a : Option Addr} {xs : List Int} (h : Slot w base a xs) : IRow w a xs := by
  rcases h with ⟨_, rfl⟩ | ⟨g, rfl, _, _, ho⟩
  · intro i hi; exact absurd hi (Nat.not_lt_zero i)
  · exact ho.row

theorem Res.slot {w : World} {base : Nat} {v : Value} {xs : List Int} (h : Res w base v xs) : ∃ (a : Option Addr) (cap : Nat), v = .slice a xs.length cap ∧ Slot w base a xs := by
  rcases h with ⟨rfl, rfl⟩ | ⟨g, cap, rfl, hb, hlt, ho⟩
  · exact ⟨none, 0, rfl, .inl ⟨rfl, rfl⟩⟩
  · exact ⟨some ⟨g, 0, none⟩, cap, rfl, .inr ⟨g, rfl, hb, hlt, ho⟩⟩

theorem IRow.below {w w' : World} {a : Option Addr} {xs : List Int} (h : IRow w a xs) (hb : Below w.heap.size w w') : IRow w' a xs := by
  intro i hi
  obtain ⟨g, off, ea, hc⟩ := h i hi
  exact ⟨g, off, ea, by rw [hb.cell (World.block_lt_of_cell? _ _ hc)]; exact hc⟩

theorem below_grown {w w1 w2 : World} {row : Option Nat} (h : Below w.heap.size w w1) (hg : w1.grownBy w2 row) (hr : ∀ j, row = some j → w.heap.size ≤ j) : Below w.heap.size w w2 :=
  h.grown hg h.size hr
theorem below_grown0 {w w1 w2 : World} (h : Below w.heap.size w w1) (hg : w1.grownBy w2 none) : Below w.heap.size w w2 := below_grown h hg (by simp)

theorem Slot.blk_le {w : World} {base : Nat} {a : Option Addr} {xs : List Int} (h : Slot w base a xs) : ∀ j, blk a = some j → base ≤ j := by
  intro j hj
  rcases h with ⟨rfl, _⟩ | ⟨g, rfl, hb, _, _⟩
  · simp [blk] at hj
  · simp [blk] at hj; omega

theorem Slot.lt {w : World} {base : Nat} {a : Option Addr} {xs : List Int} (h : Slot w base a xs) : ∀ g, a = some ⟨g, 0, none⟩ → g < w.heap.size := by
  intro g ea
  rcases h with ⟨rfl, _⟩ | ⟨g', rfl, _, hl, _⟩
  · cases ea
  · cases ea; exact hl

theorem irowOfRow {w : World} {a : Option Addr} {len cap : Nat} {zs : List Int} (h : (a = none ∧ len = 0 ∧ cap = 0 ∧ zs = []) ∨
    ∃ x, a = some x ∧ len ≤ cap ∧ cap ≤ maxLen ∧ zs.length = cap ∧ (∀ i, i < zs.length → w.cell? (x.add i) = some (.int .i64 (zs.getD i 0))) ∧ ∀ n ∈ zs, (Lit.int .i64 n).wf = true) :
    ∃ xs : List Int, xs.length = len ∧ IRow w a xs ∧ Wide xs ∧ len ≤ maxLen := by
  rcases h with ⟨_, rfl, _, _⟩ | ⟨x, rfl, hl, hm, hz, hcell, hwz⟩
  · exact ⟨[], rfl, fun i hi => absurd hi (Nat.not_lt_zero i), fun i hi => absurd hi (Nat.not_lt_zero i), Nat.zero_le _⟩
  · refine ⟨zs.take len, by simp; omega, ?_, ?_, Nat.le_trans hl hm⟩
    · intro i hi
      have hi1 : i < len := by simp at hi; omega
      have hi2 : i < zs.length := by omega
      obtain ⟨g, off, spot⟩ := x
      have hspot : spot = none := by simpa [Addr.add] using World.cell?_spot (hcell 0 (by omega))
      subst hspot
      refine ⟨g, off, rfl, ?_⟩
      have hc := hcell i hi2
      by_cases h0 : i = 0
      · subst h0; simpa [Addr.add, hi1, List.getElem?_take] using hc
      · simpa [Addr.add, h0, hi1, List.getElem?_take] using hc
    · intro i hi
      have hi1 : i < len := by simp at hi; omega
      have hi2 : i < zs.length := by omega
      have e : (zs.take len)[i]?.getD 0 = zs[i] := by simp [hi1, hi2]
      rw [e]
      exact bounds_i64 (hwz _ (List.getElem_mem hi2))

end Go.Proofs.YtlbnllhabdnjjaaDoor
namespace Go.Proofs.YtlbnllhabdnjjaaDoor
open Go.RowKit
set_option linter.unusedVariables false

/-- the number at a place of a row -/
def el (xs : List Int) (i : Nat) : Int := xs[i]?.getD 0
theorem grownBy_alloc {a b : World} {row : Option Nat} (h : a.grownBy b row) (o : Obj) : a.grownBy (b.alloc o) row :=
  ⟨h.os, h.tape, h.output, Nat.le_trans h.size (by simp), fun k hk hne => (Below.heap_alloc _ _ _ (Nat.lt_of_lt_of_le hk h.size)).trans (h.block k hk hne)⟩
theorem results_one {fn : Func} {p : Tmp} {ty : TypeId} (h : fn.results = #[.cell p ty]) (tmps : Array Value) (P : Program) (w : World) :
    (results fn tmps).run P w = ((asAddr (tmps.getD p undef)).run P w).andThen fun a w₁ => (loadVar ty a).run P w₁ := by
  simp only [results, h]
  simp [Sem.run_bind, Result.andThen]
/-- of the blocks that were there those outside a span are as they were -/
structure Kept (lo hi : Nat) (w w' : World) : Prop where
  os : w'.os = w.os
  tape : w'.tape = w.tape
  output : w'.output = w.output
  size : w.heap.size ≤ w'.heap.size
  block : ∀ k, k < w.heap.size → ¬ (lo ≤ k ∧ k < hi) → w'.heap[k]? = w.heap[k]?

theorem Kept.refl (lo hi : Nat) (w : World) : Kept lo hi w w := ⟨rfl, rfl, rfl, Nat.le_refl _, fun _ _ _ => rfl⟩
theorem Kept.trans {lo hi : Nat} {a b c : World} (h : Kept lo hi a b) (k : Kept lo hi b c) : Kept lo hi a c :=
  ⟨k.os.trans h.os, k.tape.trans h.tape, k.output.trans h.output, Nat.le_trans h.size k.size, fun i hi hn => (k.block i (Nat.lt_of_lt_of_le hi h.size) hn).trans (h.block i hi hn)⟩
theorem Kept.wide {lo hi lo' hi' : Nat} {a b : World} (h : Kept lo hi a b) (hl : ∀ k, lo ≤ k → k < hi → lo' ≤ k ∧ k < hi') : Kept lo' hi' a b :=
  ⟨h.os, h.tape, h.output, h.size, fun i hi hn => h.block i hi (fun q => hn (hl i q.1 q.2))⟩
theorem Kept.any {lo hi : Nat} {a b : World} (h : Kept 0 0 a b) : Kept lo hi a b := h.wide (by omega)
theorem kept_grown {w w' : World} (h : w.grownBy w' none) : Kept 0 0 w w' := ⟨h.os, h.tape, h.output, h.size, fun k hk _ => h.block k hk (by simp)⟩
theorem kept_below {w w' : World} (h : Below w.heap.size w w') : Kept 0 0 w w' := ⟨h.os, h.tape, h.output, h.size, fun k hk _ => h.block k hk⟩
theorem Kept.below {w w' : World} (h : Kept 0 0 w w') : Below w.heap.size w w' := ⟨h.os, h.tape, h.output, h.size, fun k hk => h.block k hk (by omega)⟩
theorem Kept.grown {w w' : World} (h : Kept 0 0 w w') : w.grownBy w' none := ⟨h.os, h.tape, h.output, h.size, fun k hk _ => h.block k hk (by omega)⟩
theorem kept_row {w w' : World} {row : Option Nat} {lo hi : Nat} (h : w.grownBy w' row) (hr : ∀ g, row = some g → lo ≤ g ∧ g < hi) : Kept lo hi w w' :=
  ⟨h.os, h.tape, h.output, h.size, fun k hk hn => h.block k hk (fun e => hn (hr k e.symm))⟩
theorem kept_alloc (w : World) (o : Obj) : Kept 0 0 w (w.alloc o) := kept_below ((Below.refl _ w).alloc (Nat.le_refl _) o)
theorem kept_drew {lo hi : Nat} {w w' : World} (h : Kept lo hi w w') : Kept lo hi w w'.drew := ⟨h.os, h.tape, h.output, h.size, h.block⟩
theorem kept_drewN {lo hi : Nat} {w w' : World} (h : Kept lo hi w w') (n : Nat) : Kept lo hi w (w'.drewN n) := ⟨h.os, h.tape, h.output, h.size, h.block⟩
/-- what was there when the law began is as it was -/
theorem below_kept {w w1 w2 : World} {lo hi : Nat} (h : Below w.heap.size w w1) (k : Kept lo hi w1 w2) (hl : w.heap.size ≤ lo ∨ hi ≤ lo) : Below w.heap.size w w2 :=
  ⟨k.os.trans h.os, k.tape.trans h.tape, k.output.trans h.output, Nat.le_trans h.size k.size, fun i hi => (k.block i (Nat.lt_of_lt_of_le hi h.size) (by omega)).trans (h.block i hi)⟩

theorem Own.lt {w : World} {g : Nat} {xs : List Int} (h : Own w g xs) (hx : 0 < xs.length) : g < w.heap.size := World.block_lt_of_cell? _ _ (h 0 hx).1
theorem Own.keptS {w w' : World} {g : Nat} {xs : List Int} {lo hi : Nat} (h : Own w g xs) (k : Kept lo hi w w') (hn : ¬ (lo ≤ g ∧ g < hi)) : Own w' g xs := by
  intro i hi'
  obtain ⟨hc, hf⟩ := h i hi'
  have e := k.block g (World.block_lt_of_cell? _ _ hc) hn
  exact ⟨by rw [World.cell?_of_block (w := w) e]; exact hc, by rw [World.frozen?_of_block (w := w) e]; exact hf⟩

/-- a list at address a: nil, or from the head of a block of the span on -/
def SlotIn (w : World) (lo hi : Nat) (a : Option Addr) (xs : List Int) : Prop :=
  (a = none ∧ xs = []) ∨ ∃ g : Nat, a = some ⟨g, 0, none⟩ ∧ lo ≤ g ∧ g < hi ∧ Own w g xs
theorem SlotIn.kept {w w' : World} {l h lo hi : Nat} {a : Option Addr} {xs : List Int} (s : SlotIn w l h a xs) (k : Kept lo hi w w') (hd : h ≤ lo ∨ hi ≤ l ∨ hi ≤ lo) : SlotIn w' l h a xs := by
  rcases s with s | ⟨g, ea, g0, g1, ho⟩
  · exact .inl s
  · exact .inr ⟨g, ea, g0, g1, ho.keptS k (by omega)⟩
theorem SlotIn.wide {w : World} {l h l' h' : Nat} {a : Option Addr} {xs : List Int} (s : SlotIn w l h a xs) (hl : l' ≤ l) (hh : h ≤ h') : SlotIn w l' h' a xs := by
  rcases s with s | ⟨g, ea, g0, g1, ho⟩
  · exact .inl s
  · exact .inr ⟨g, ea, by omega, by omega, ho⟩
theorem SlotIn.row {w : World} {l h : Nat} {a : Option Addr} {xs : List Int} (s : SlotIn w l h a xs) : IRow w a xs := by
  rcases s with ⟨_, rfl⟩ | ⟨g, rfl, _, _, ho⟩
  · intro i hi; exact absurd hi (Nat.not_lt_zero i)
  · exact ho.row
theorem SlotIn.slot {w : World} {l h : Nat} {a : Option Addr} {xs : List Int} (s : SlotIn w l h a xs) (hh : h ≤ w.heap.size) : Slot w l a xs := by
  rcases s with s | ⟨g, ea, g0, g1, ho⟩
  · exact .inl s
  · exact .inr ⟨g, ea, g0, by omega, ho⟩
theorem Slot.slotIn {w : World} {l : Nat} {a : Option Addr} {xs : List Int} (s : Slot w l a xs) : SlotIn w l w.heap.size a xs := s
/-- a list behind whatever it was, its block one of the span's -/
theorem SlotIn.again {w w' : World} {l h : Nat} {a : Option Addr} {xs ys : List Int} {b : Nat} (s : SlotIn w l h a xs) (s' : Slot w' b a ys) : SlotIn w' l h a ys := by
  rcases s' with ⟨rfl, rfl⟩ | ⟨g', rfl, _, _, ho⟩
  · exact .inl ⟨rfl, rfl⟩
  · rcases s with ⟨e, _⟩ | ⟨g, e, g0, g1, _⟩
    · cases e
    · cases e; exact .inr ⟨g', rfl, g0, g1, ho⟩
theorem SlotIn.blk_in {w : World} {l h : Nat} {a : Option Addr} {xs : List Int} (s : SlotIn w l h a xs) : ∀ g, blk a = some g → l ≤ g ∧ g < h := by
  intro g hg
  rcases s with ⟨rfl, _⟩ | ⟨g', rfl, g0, g1, _⟩
  · simp [blk] at hg
  · simp [blk] at hg; omega

/-- a block that holds these cells -/
def Blk (w : World) (b : Nat) (cs : Array Value) (ty : TypeId) : Prop := w.heap[b]? = some (.cells cs ty)
theorem Blk.lt {w : World} {b : Nat} {cs : Array Value} {ty : TypeId} (h : Blk w b cs ty) : b < w.heap.size := by
  unfold Blk at h
  rcases Nat.lt_or_ge b w.heap.size with h' | h'
  · exact h'
  · rw [Array.getElem?_eq_none h'] at h; cases h
theorem Blk.kept {w w' : World} {b : Nat} {cs : Array Value} {ty : TypeId} {lo hi : Nat} (h : Blk w b cs ty) (k : Kept lo hi w w') (hn : ¬ (lo ≤ b ∧ b < hi)) : Blk w' b cs ty := (k.block b h.lt hn).trans h
theorem Blk.kept0 {w w' : World} {b : Nat} {cs : Array Value} {ty : TypeId} (h : Blk w b cs ty) (k : Kept 0 0 w w') : Blk w' b cs ty := h.kept k (by omega)
theorem Blk.cell {w : World} {b : Nat} {cs : Array Value} {ty : TypeId} (h : Blk w b cs ty) {i : Nat} {v : Value} (hi : cs[i]? = some v) : w.cell? ⟨b, i, none⟩ = some v := by
  unfold Blk at h
  simp [World.cell?, h, hi]
theorem Blk.frozen {w : World} {b : Nat} {cs : Array Value} {ty : TypeId} (h : Blk w b cs ty) (i : Nat) : w.frozen? ⟨b, i, none⟩ = false := by
  unfold Blk at h
  simp [World.frozen?, h]
theorem Blk.set {w : World} {b : Nat} {cs : Array Value} {ty : TypeId} (h : Blk w b cs ty) (i : Nat) (v : Value) : Blk (w.setCell ⟨b, i, none⟩ v) b (cs.setIfInBounds i v) ty := by
  unfold Blk at h ⊢
  simp [World.setCell, Array.getElem?_modify, h]
theorem Blk.other {w : World} {b : Nat} {cs : Array Value} {ty : TypeId} (h : Blk w b cs ty) (c i : Nat) (v : Value) (hn : b ≠ c) : Blk (w.setCell ⟨c, i, none⟩ v) b cs ty :=
  (Below.heap_setCell _ _ _ _ (by simpa using hn)).trans h
theorem Blk.new (w : World) (cs : Array Value) (ty : TypeId) : Blk (w.alloc (.cells cs ty)) w.heap.size cs ty := heap_alloc_new w _
theorem Blk.alloc {w : World} {b : Nat} {cs : Array Value} {ty : TypeId} (h : Blk w b cs ty) (o : Obj) : Blk (w.alloc o) b cs ty := (Below.heap_alloc _ _ _ h.lt).trans h
/-- a store into a block of the span -/
theorem kept_set {w w' : World} {lo hi : Nat} (h : Kept lo hi w w') (b i : Nat) (v : Value) (hb : (lo ≤ b ∧ b < hi) ∨ w.heap.size ≤ b) : Kept lo hi w (w'.setCell ⟨b, i, none⟩ v) :=
  ⟨h.os, h.tape, h.output, by simpa using h.size, fun k hk hn => (Below.heap_setCell _ _ _ _ (by simp; omega)).trans (h.block k hk hn)⟩
theorem kept_new {w w' : World} {lo hi : Nat} (h : Kept lo hi w w') (o : Obj) : Kept lo hi w (w'.alloc o) :=
  ⟨h.os, h.tape, h.output, Nat.le_trans h.size (by simp), fun k hk hn => (Below.heap_alloc _ _ _ (Nat.lt_of_lt_of_le hk h.size)).trans (h.block k hk hn)⟩
theorem Own.setOther {w : World} {g : Nat} {xs : List Int} (h : Own w g xs) (b i : Nat) (v : Value) (hn : g ≠ b) : Own (w.setCell ⟨b, i, none⟩ v) g xs := by
  intro j hj
  obtain ⟨hc, hf⟩ := h j hj
  exact ⟨by rw [World.cell?_setCell_other _ _ _ _ (fun e => hn (congrArg Addr.block e).symm)]; exact hc, by simpa using hf⟩
theorem IRow.keptS {w w' : World} {a : Option Addr} {xs : List Int} (h : IRow w a xs) (k : Kept 0 0 w w') : IRow w' a xs := h.kept k.grown

/-- a row of numbers that the kind int holds, at address a -/
def Came (w : World) (a : Option Addr) (xs : List Int) : Prop := IRow w a xs ∧ Wide xs
theorem Came.keptS {w w' : World} {a : Option Addr} {xs : List Int} (h : Came w a xs) (k : Kept 0 0 w w') : Came w' a xs := ⟨h.1.keptS k, h.2⟩
theorem Came.below {w w' : World} {a : Option Addr} {xs : List Int} (h : Came w a xs) (k : Below w.heap.size w w') : Came w' a xs := ⟨h.1.below k, h.2⟩
theorem Own.came {w : World} {g : Nat} {xs : List Int} (h : Own w g xs) (hw : Wide xs) : Came w (some ⟨g, 0, none⟩) xs := ⟨h.row, hw⟩

theorem undrewK {lo hi : Nat} {w w' : World} (h : Kept lo hi w.drew w') : Kept lo hi w w' := ⟨h.os, h.tape, h.output, h.size, h.block⟩
theorem news_of {w : World} {g off : Nat} {xs : List Int} (h : IRow w (some ⟨g, off, none⟩) xs) : ∀ j u, (xs.map (Value.int .i64))[j]? = some u → w.cell? ((⟨g, off, none⟩ : Addr).add j) = some u := by
  intro j u hu
  have hj : j < xs.length := by
    rcases Nat.lt_or_ge j xs.length with h' | h'
    · exact h'
    · rw [List.getElem?_eq_none (by simpa using h')] at hu; cases hu
  obtain ⟨g', off', e, hc⟩ := h j hj
  cases e
  have e : u = .int .i64 (xs[j]?.getD 0) := by simpa [hj] using hu.symm
  rw [e]
  by_cases h0 : j = 0
  · subst h0; simpa [Addr.add] using hc
  · simpa [Addr.add, h0] using hc
theorem news_one {xs : List Int} : ∀ u ∈ xs.map (Value.int .i64), u.oneCell' = true := by
  intro u hu
  obtain ⟨z, _, rfl⟩ := List.mem_map.1 hu
  rfl
/-- a row of the call's own that is not empty: its value written out -/
theorem own_form {w : World} {base : Nat} {e : TypeId} {size : Nat} {v : Value} {n : Nat} {xs : List Value} (h : w.ownsRow base e size v n xs) (hn : 0 < n) : ∃ g cap : Nat, v = .slice (some ⟨g, 0, none⟩) n cap ∧ base ≤ g ∧ g < w.heap.size := by
  rcases h.2 with ⟨_, e⟩ | ⟨g, cap, cur, rfl, hb, _⟩
  · omega
  · exact ⟨g, cap, rfl, hb, (h.lt g rfl).2⟩
theorem own_base {w : World} {base base' : Nat} {e : TypeId} {size : Nat} {v : Value} {n : Nat} {xs : List Value} (h : w.ownsRow base e size v n xs) (hb : base' ≤ base) : w.ownsRow base' e size v n xs := by
  refine ⟨h.1, ?_⟩
  rcases h.2 with h' | ⟨g, cap, cur, rfl, hg, rest⟩
  · exact .inl h'
  · exact .inr ⟨g, cap, cur, rfl, by omega, rest⟩
theorem Own.set_el {w : World} {g k : Nat} {xs : List Int} (h : Own w g xs) (z : Int) : Own (w.setCell ⟨g, k, none⟩ (.int .i64 z)) g (xs.set k z) := h.set z
theorem el_set {xs : List Int} {k i : Nat} {z : Int} (hk : k < xs.length) : el (xs.set k z) i = if i = k then z else el xs i := by
  unfold el
  by_cases e : i = k
  · subst e; rw [List.getElem?_set_self hk, if_pos rfl]; rfl
  · rw [List.getElem?_set_ne (fun q => e q.symm), if_neg e]
namespace Pl
theorem el_out {xs : List Int} {i : Nat} (h : xs.length ≤ i) : el xs i = 0 := by unfold el; rw [List.getElem?_eq_none h]; rfl
end Pl
/-- a row of numbers as an array's cells -/
def cellsOf (xs : List Int) : Array Value := (xs.map (Value.int .i64)).toArray
theorem cellsOf_size (xs : List Int) : (cellsOf xs).size = xs.length := by simp [cellsOf]
theorem cellsOf_one (xs : List Int) : (cellsOf xs).all (·.oneCell') = true := by
  rw [Array.all_eq_true_iff_forall_mem]
  intro v hv
  simp [cellsOf] at hv
  obtain ⟨z, _, rfl⟩ := hv
  rfl
theorem kept_setRow {w w' : World} (h : Kept 0 0 w w') (g : Nat) (cs : Array Value) (hg : w.heap.size ≤ g) : Kept 0 0 w (w'.setRow g cs) :=
  ⟨h.os, h.tape, h.output, by simpa using h.size, fun k hk hn => (setRow_other w' g k cs (by omega)).trans (h.block k hk hn)⟩
theorem Blk.setRow {w : World} {b : Nat} {cs ds : Array Value} {ty : TypeId} (h : Blk w b cs ty) : Blk (w.setRow b ds) b ds ty := setRow_heap w b cs ds ty _ h
theorem Blk.setRowOther {w : World} {b g : Nat} {cs ds : Array Value} {ty : TypeId} (h : Blk w b cs ty) (hn : b ≠ g) : Blk (w.setRow g ds) b cs ty := (setRow_other w g b ds hn).trans h
theorem splice_all {cur cs : List Value} (h : cur.length = cs.length) : splice cur 0 cs = cs := by
  unfold splice
  rw [List.take_zero, List.nil_append, List.drop_eq_nil_of_le (by omega), List.append_nil]
theorem kept_lower {w W w' : World} {B : Nat} (k : Kept 0 0 w W) (h : Below B W w') (hB : w.heap.size ≤ B) : Kept 0 0 w w' :=
  ⟨h.os.trans k.os, h.tape.trans k.tape, h.output.trans k.output, Nat.le_trans k.size h.size, fun i hi hn => (h.block i (by omega)).trans (k.block i hi hn)⟩
theorem blk_of_row {w : World} {base g n : Nat} {vs : List Value} {e : TypeId} {size : Nat} (h : w.ownsRow base e size (.slice (some ⟨g, 0, none⟩) n n) n vs) : Blk w g vs.toArray e := by
  rcases h with ⟨hl, ⟨q, _⟩ | ⟨g', cap', cur, q, _, hgg, _, _, hsz, ht⟩⟩
  · cases q
  · cases q
    rw [List.take_of_length_le (by simp [hsz])] at ht
    rw [← ht]
    exact hgg
theorem own_of_blk {w : World} {g : Nat} {xs : List Int} {e : TypeId} (h : Blk w g (cellsOf xs) e) : Own w g xs := by
  intro i hi
  refine ⟨h.cell (by simp [cellsOf, hi]), h.frozen i⟩
theorem Came.nth {w : World} {a : Option Addr} {xs : List Int} (h : IRow w a xs) (h0 : 0 < xs.length) : ∃ ad, a = some ad ∧ ∀ j v, (xs.map (Value.int .i64))[j]? = some v → w.cell? (ad.add j) = some v := by
  obtain ⟨g, o, rfl, _⟩ := h 0 h0
  exact ⟨_, rfl, news_of h⟩
theorem kept_over {w W W' : World} {lo hi : Nat} (k : Kept 0 0 w W) (h : Kept lo hi W W') (hg : w.heap.size ≤ lo) : Kept 0 0 w W' :=
  ⟨h.os.trans k.os, h.tape.trans k.tape, h.output.trans k.output, Nat.le_trans k.size h.size, fun i hi hn => (h.block i (Nat.lt_of_lt_of_le hi k.size) (by omega)).trans (k.block i hi hn)⟩
/-- a row of numbers copied into a block -/
theorem copy_at (W : World) (g off dLen dCap sCap : Nat) (sp : Option Addr) (cs : List Int) (cur : List Value) (t : TypeId) (hB : Blk W g cur.toArray t) (hr : IRow W sp cs) (hl : cs.length ≤ dLen) (hfit : off + cs.length ≤ cur.length) :
    ∃ W', (Builtin.copy_ #[25, 25] 3 #[.slice (some ⟨g, off, none⟩) dLen dCap, .slice sp cs.length sCap]).run Tryd.prog W = .ok (.int .i64 cs.length) W' ∧ Blk W' g (splice cur off (cs.map (Value.int .i64))).toArray t ∧ Kept g (g + 1) W W' := by
  have HS : (Tryd.prog.info? 3).map (·.size) = some 1 := by kernel_rfl
  by_cases h0 : cs.length = 0
  · obtain rfl : cs = [] := List.eq_nil_of_length_eq_zero h0
    refine ⟨W, run_copy_none (P := Tryd.prog) W 25 25 3 3 _ _ _ _ _ _ Tryd.underlying25 HS (by simp), ?_, Kept.refl _ _ _⟩
    simpa [splice] using hB
  · obtain ⟨ga, oa, rfl, _⟩ := hr 0 (by omega)
    have h := run_copy_row Tryd.prog W 25 25 3 3 g off dLen dCap ⟨ga, oa, none⟩ cs.length sCap cur.toArray t (cs.map (Value.int .i64)) Tryd.underlying25 HS hB (by simp only [List.length_map]; exact (Nat.min_eq_left hl).symm) (news_of hr) (by simpa using hfit) news_one
    refine ⟨_, by rw [h, List.length_map]; rfl, ?_, ?_⟩
    · have := hB.setRow (ds := (List.take off cur.toArray.toList ++ cs.map (Value.int .i64) ++ List.drop (off + (cs.map (Value.int .i64)).length) cur.toArray.toList).toArray)
      simpa [splice] using this
    · exact ⟨rfl, rfl, rfl, by simp, fun k hk hn => setRow_other W g k _ (by omega)⟩
theorem el_append {xs us : List Int} {i : Nat} : el (xs ++ us) i = if i < xs.length then el xs i else el us (i - xs.length) := by
  unfold el
  rw [List.getElem?_append]
  split <;> rfl
theorem kept_by {w w' : World} {b : Nat} (h : Kept b (b + 1) w w') : w.grownBy w' (some b) :=
  ⟨h.os, h.tape, h.output, h.size, fun k hk hn => h.block k hk (fun q => hn (by rw [show k = b by omega]))⟩
theorem kept_down {w X w' : World} {base N : Nat} (h : Kept 0 0 w X) (k : Kept base N X w') : Kept base w.heap.size w w' :=
  ⟨k.os.trans h.os, k.tape.trans h.tape, k.output.trans h.output, Nat.le_trans h.size k.size, fun i hi hn => (k.block i (Nat.lt_of_lt_of_le hi h.size) (by omega)).trans (h.block i hi (by omega))⟩
theorem kept_down2 {w X w' : World} {base N : Nat} (h : Kept base w.heap.size w X) (k : Kept base N X w') : Kept base w.heap.size w w' :=
  ⟨k.os.trans h.os, k.tape.trans h.tape, k.output.trans h.output, Nat.le_trans h.size k.size, fun i hi hn => (k.block i (Nat.lt_of_lt_of_le hi h.size) (by omega)).trans (h.block i hi hn)⟩
theorem results_cell_tmp3 {fn : Func} {p u1 u2 u3 : Tmp} {ty : TypeId} (h : fn.results = #[.cell p ty, .tmp u1, .tmp u2, .tmp u3]) (tmps : Array Value) (P : Program) (w : World) :
    (results fn tmps).run P w = ((asAddr (tmps.getD p undef)).run P w).andThen fun a w₁ => ((loadVar ty a).run P w₁).andThen fun v w₂ => .ok (.tuple #[v, tmps.getD u1 undef, tmps.getD u2 undef, tmps.getD u3 undef]) w₂ := by
  simp only [results, h]
  simp [Sem.run_bind, Result.andThen]
/-- what is left of a measure, or -1 -/
def szB (n m : Nat) (left : Int) : Int := if left - (n : Int) < 0 then -1 else if left - (n : Int) - (m : Int) < 0 then -1 else left - (n : Int) - (m : Int)
theorem szB_neg {n m : Nat} {left : Int} (h : ¬ szB n m left < 0) : (n : Int) + (m : Int) ≤ left := by
  unfold szB at h
  split at h
  · exact absurd (by decide) h
  · split at h
    · exact absurd (by decide) h
    · omega
theorem szB_le {n m : Nat} {left : Int} (l0 : 0 ≤ left) (h : ¬ szB n m left < 0) : 0 ≤ szB n m left ∧ szB n m left ≤ left := by
  unfold szB at h ⊢
  split at h
  · exact absurd (by decide) h
  · split at h
    · exact absurd (by decide) h
    · rename_i h1 h2
      rw [if_neg h1, if_neg h2]; omega
end Go.Proofs.YtlbnllhabdnjjaaDoor
