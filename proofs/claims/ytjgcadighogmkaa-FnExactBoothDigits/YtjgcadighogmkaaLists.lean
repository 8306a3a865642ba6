/- Lists that were answered, kept over calls that change other blocks: what the laws on lists lean on. -/
import Derived.Test.YtjgcadighogmkaaMarks
import Derived.Deep.QuietTactic
import Derived.BigQuiet
namespace Go.Proofs.Ytjgcadighogmkaa
open Go.RowKit
set_option linter.unusedVariables false

/-- a list that was answered: nil, or in a block of its own from 'base' on -/
def Res (w : World) (base : Nat) (v : Value) (xs : List Int) : Prop :=
  (v = .slice none 0 0 ∧ xs = []) ∨ ∃ g cap : Nat, v = .slice (some ⟨g, 0, none⟩) xs.length cap ∧ base ≤ g ∧ g < w.heap.size ∧ Own w g xs

def Wide (xs : List Int) : Prop := ∀ i : Nat, i < xs.length → -9223372036854775808 ≤ xs[i]?.getD 0 ∧ xs[i]?.getD 0 ≤ 9223372036854775807

theorem grownBy_drewN {a b : World} {row : Option Nat} (h : a.grownBy b row) (n : Nat) : a.grownBy (b.drewN n) row := ⟨h.os, h.tape, h.output, h.size, h.block⟩
theorem Own.drewN {w : World} {g : Nat} {xs : List Int} (h : Own w g xs) (n : Nat) : Own (w.drewN n) g xs := h

theorem grown_new {w w1 w2 : World} {row : Option Nat} (h : w.grownBy w1 none) (k : w1.grownBy w2 row) (hr : ∀ j, row = some j → w.heap.size ≤ j) : w.grownBy w2 none :=
  ⟨k.os.trans h.os, k.tape.trans h.tape, k.output.trans h.output, Nat.le_trans h.size k.size, fun i hi _ => (k.block i (Nat.lt_of_lt_of_le hi h.size) (fun e => by have := hr i e.symm; omega)).trans (h.block i hi (by simp))⟩

theorem res_of_row {w : World} {base : Nat} {v : Value} {xs : List Int} (h : w.ownsRow base 3 1 v xs.length (xs.map (Value.int .i64))) : Res w base v xs := by
  rcases h.2 with ⟨rfl, e⟩ | ⟨g, cap, cur, rfl, hb, hgg, rest⟩
  · exact .inl ⟨rfl, List.eq_nil_of_length_eq_zero e⟩
  · exact .inr ⟨g, cap, rfl, hb, (h.lt g rfl).2, own_of_row h⟩

/-- a list that was answered, at address a: nil, or in a block of its own from 'base' on -/
def Slot (w : World) (base : Nat) (a : Option Addr) (xs : List Int) : Prop :=
  (a = none ∧ xs = []) ∨ ∃ g : Nat, a = some ⟨g, 0, none⟩ ∧ base ≤ g ∧ g < w.heap.size ∧ Own w g xs

def blk (a : Option Addr) : Option Nat := a.map Addr.block

theorem Slot.kept {w w' : World} {base : Nat} {a : Option Addr} {xs : List Int} {row : Option Nat} (h : Slot w base a xs) (hg : w.grownBy w' row) (hne : ∀ g, base ≤ g → g < w.heap.size → some g ≠ row) : Slot w' base a xs := by
  rcases h with h | ⟨g, ea, hb, hlt, ho⟩
  · exact .inl h
  · exact .inr ⟨g, ea, hb, Nat.lt_of_lt_of_le hlt hg.size, ho.kept hg (hne g hb hlt)⟩

theorem Slot.keptA {w w' : World} {base : Nat} {a : Option Addr} {xs : List Int} {row : Option Nat} (h : Slot w base a xs) (hg : w.grownBy w' row) (hne : ∀ g, a = some ⟨g, 0, none⟩ → base ≤ g → some g ≠ row) : Slot w' base a xs := by
  rcases h with h | ⟨g, ea, hb, hlt, ho⟩
  · exact .inl h
  · exact .inr ⟨g, ea, hb, Nat.lt_of_lt_of_le hlt hg.size, ho.kept hg (hne g ea hb)⟩

theorem Slot.kept0 {w w' : World} {base : Nat} {a : Option Addr} {xs : List Int} (h : Slot w base a xs) (hg : w.grownBy w' none) : Slot w' base a xs := h.kept hg (by simp)

/-- another list's block, which lies from 'base'' on, is written: 'base'' is above this list -/
theorem Slot.other {w w' : World} {base base' : Nat} {a a' : Option Addr} {xs zs : List Int} (h : Slot w base a xs) (h' : Slot w base' a' zs) (hg : w.grownBy w' (blk a')) (hlt : ∀ g, a = some ⟨g, 0, none⟩ → g < base') : Slot w' base a xs := by
  rcases h with h | ⟨g, ea, hb, hl, ho⟩
  · exact .inl h
  · refine .inr ⟨g, ea, hb, Nat.lt_of_lt_of_le hl hg.size, ho.kept hg ?_⟩
    rcases h' with ⟨rfl, _⟩ | ⟨g', rfl, hb', _, _⟩
    · simp [blk]
    · have := hlt g ea; simp [blk]; omega

theorem Slot.row {w : World} {base : Nat} {a : Option Addr} {xs : List Int} (h : Slot w base a xs) : IRow w a xs := by
  rcases h with ⟨_, rfl⟩ | ⟨g, rfl, _, _, ho⟩
  · intro i hi; exact absurd hi (Nat.not_lt_zero i)
  · exact ho.row

theorem Res.slot {w : World} {base : Nat} {v : Value} {xs : List Int} (h : Res w base v xs) : ∃ (a : Option Addr) (cap : Nat), v = .slice a xs.length cap ∧ Slot w base a xs := by
  rcases h with ⟨rfl, rfl⟩ | ⟨g, cap, rfl, hb, hlt, ho⟩
  · exact ⟨none, 0, rfl, .inl ⟨rfl, rfl⟩⟩
  · exact ⟨some ⟨g, 0, none⟩, cap, rfl, .inr ⟨g, rfl, hb, hlt, ho⟩⟩

theorem IRow.below {w w' : World} {a : Option Addr} {xs : List Int} (h : IRow w a xs) (hb : Below w.heap.size w w') : IRow w' a xs := by
  intro i hi
  obtain ⟨g, off, ea, hc⟩ := h i hi
  exact ⟨g, off, ea, by rw [hb.cell (World.block_lt_of_cell? _ _ hc)]; exact hc⟩

theorem below_grown {w w1 w2 : World} {row : Option Nat} (h : Below w.heap.size w w1) (hg : w1.grownBy w2 row) (hr : ∀ j, row = some j → w.heap.size ≤ j) : Below w.heap.size w w2 :=
  h.grown hg h.size hr
theorem below_grown0 {w w1 w2 : World} (h : Below w.heap.size w w1) (hg : w1.grownBy w2 none) : Below w.heap.size w w2 := below_grown h hg (by simp)

theorem Slot.blk_le {w : World} {base : Nat} {a : Option Addr} {xs : List Int} (h : Slot w base a xs) : ∀ j, blk a = some j → base ≤ j := by
  intro j hj
  rcases h with ⟨rfl, _⟩ | ⟨g, rfl, hb, _, _⟩
  · simp [blk] at hj
  · simp [blk] at hj; omega

theorem Slot.lt {w : World} {base : Nat} {a : Option Addr} {xs : List Int} (h : Slot w base a xs) : ∀ g, a = some ⟨g, 0, none⟩ → g < w.heap.size := by
  intro g ea
  rcases h with ⟨rfl, _⟩ | ⟨g', rfl, _, hl, _⟩
  · cases ea
  · cases ea; exact hl

theorem markNil (w : World) (ca : Nat) (q : Int) : Calls Try.prog 35 #[.slice none 0 ca, .int .i64 q] w fun e w' => e = .returned (.int .i64 q) ∧ w' = w := by
  go_enter Try.func35, Try.ntmps35
  go_wp2
  go_loop [1, 5] (fun m j => m = .int .i64 q ∧ j = .int .i64 0) (fun _ _ => 0)
  case atStart => exact ⟨rfl, rfl⟩
  case round =>
    obtain ⟨rfl, rfl⟩ := hrel
    go_wp2
    go_ret
    exact ⟨rfl, rfl⟩

theorem markSlot (w : World) (base ca : Nat) (a : Option Addr) (xs : List Int) (q : Int) (h : Slot w base a xs) (lx : xs.length ≤ 2000000) (q0 : 0 ≤ q) (q1 : q ≤ 100000000) :
    Calls Try.prog 35 #[.slice a xs.length ca, .int .i64 q] w fun e w' => e = .returned (.int .i64 (q + (xs.length : Int))) ∧ Slot w' base a (marks q xs.length) ∧ w.grownBy w' (blk a) := by
  rcases h with ⟨rfl, rfl⟩ | ⟨g, rfl, hb, hlt, ho⟩
  · refine (markNil w ca q).mono ?_
    rintro e w' ⟨rfl, rfl⟩
    exact ⟨by simp, .inl ⟨rfl, by simp [marks]⟩, World.grownBy.refl _ _⟩
  · refine (markIntS w g ca xs q ho lx q0 q1).mono ?_
    rintro e w' ⟨rfl, ho', hg⟩
    exact ⟨rfl, .inr ⟨g, rfl, hb, Nat.lt_of_lt_of_le hlt hg.size, ho'⟩, hg⟩

theorem irowOfRow {w : World} {a : Option Addr} {len cap : Nat} {zs : List Int} (h : (a = none ∧ len = 0 ∧ cap = 0 ∧ zs = []) ∨
    ∃ x, a = some x ∧ len ≤ cap ∧ cap ≤ maxLen ∧ zs.length = cap ∧ (∀ i, i < zs.length → w.cell? (x.add i) = some (.int .i64 (zs.getD i 0))) ∧ ∀ n ∈ zs, (Lit.int .i64 n).wf = true) :
    ∃ xs : List Int, xs.length = len ∧ IRow w a xs ∧ Wide xs ∧ len ≤ maxLen := by
  rcases h with ⟨_, rfl, _, _⟩ | ⟨x, rfl, hl, hm, hz, hcell, hwz⟩
  · exact ⟨[], rfl, fun i hi => absurd hi (Nat.not_lt_zero i), fun i hi => absurd hi (Nat.not_lt_zero i), Nat.zero_le _⟩
  · refine ⟨zs.take len, by simp; omega, ?_, ?_, Nat.le_trans hl hm⟩
    · intro i hi
      have hi1 : i < len := by simp at hi; omega
      have hi2 : i < zs.length := by omega
      obtain ⟨g, off, spot⟩ := x
      have hspot : spot = none := by simpa [Addr.add] using World.cell?_spot (hcell 0 (by omega))
      subst hspot
      refine ⟨g, off, rfl, ?_⟩
      have hc := hcell i hi2
      by_cases h0 : i = 0
      · subst h0; simpa [Addr.add, hi1, List.getElem?_take] using hc
      · simpa [Addr.add, h0, hi1, List.getElem?_take] using hc
    · intro i hi
      have hi1 : i < len := by simp at hi; omega
      have hi2 : i < zs.length := by omega
      have e : (zs.take len)[i]?.getD 0 = zs[i] := by simp [hi1, hi2]
      rw [e]
      exact bounds_i64 (hwz _ (List.getElem_mem hi2))

end Go.Proofs.Ytjgcadighogmkaa
