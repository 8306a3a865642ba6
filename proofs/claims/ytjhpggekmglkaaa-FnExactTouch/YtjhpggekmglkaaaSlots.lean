/- Lists that lie in blocks of a known span, kept over calls that change other spans: what the laws on structs with lists lean on. -/
import Derived.Test.YtjhpggekmglkaaaAccs2
namespace Go.Proofs.Ytjhpggekmglkaaa
open Go.RowKit
set_option linter.unusedVariables false

/-- of the blocks that were there those outside a span are as they were -/
structure Kept (lo hi : Nat) (w w' : World) : Prop where
  os : w'.os = w.os
  tape : w'.tape = w.tape
  output : w'.output = w.output
  size : w.heap.size ≤ w'.heap.size
  block : ∀ k, k < w.heap.size → ¬ (lo ≤ k ∧ k < hi) → w'.heap[k]? = w.heap[k]?

theorem Kept.refl (lo hi : Nat) (w : World) : Kept lo hi w w := ⟨rfl, rfl, rfl, Nat.le_refl _, fun _ _ _ => rfl⟩
theorem Kept.trans {lo hi : Nat} {a b c : World} (h : Kept lo hi a b) (k : Kept lo hi b c) : Kept lo hi a c :=
  ⟨k.os.trans h.os, k.tape.trans h.tape, k.output.trans h.output, Nat.le_trans h.size k.size, fun i hi hn => (k.block i (Nat.lt_of_lt_of_le hi h.size) hn).trans (h.block i hi hn)⟩
theorem Kept.wide {lo hi lo' hi' : Nat} {a b : World} (h : Kept lo hi a b) (hl : ∀ k, lo ≤ k → k < hi → lo' ≤ k ∧ k < hi') : Kept lo' hi' a b :=
  ⟨h.os, h.tape, h.output, h.size, fun i hi hn => h.block i hi (fun q => hn (hl i q.1 q.2))⟩
theorem Kept.any {lo hi : Nat} {a b : World} (h : Kept 0 0 a b) : Kept lo hi a b := h.wide (by omega)
theorem kept_grown {w w' : World} (h : w.grownBy w' none) : Kept 0 0 w w' := ⟨h.os, h.tape, h.output, h.size, fun k hk _ => h.block k hk (by simp)⟩
theorem kept_below {w w' : World} (h : Below w.heap.size w w') : Kept 0 0 w w' := ⟨h.os, h.tape, h.output, h.size, fun k hk _ => h.block k hk⟩
theorem Kept.below {w w' : World} (h : Kept 0 0 w w') : Below w.heap.size w w' := ⟨h.os, h.tape, h.output, h.size, fun k hk => h.block k hk (by omega)⟩
theorem Kept.grown {w w' : World} (h : Kept 0 0 w w') : w.grownBy w' none := ⟨h.os, h.tape, h.output, h.size, fun k hk _ => h.block k hk (by omega)⟩
theorem kept_row {w w' : World} {row : Option Nat} {lo hi : Nat} (h : w.grownBy w' row) (hr : ∀ g, row = some g → lo ≤ g ∧ g < hi) : Kept lo hi w w' :=
  ⟨h.os, h.tape, h.output, h.size, fun k hk hn => h.block k hk (fun e => hn (hr k e.symm))⟩
theorem kept_alloc (w : World) (o : Obj) : Kept 0 0 w (w.alloc o) := kept_below ((Below.refl _ w).alloc (Nat.le_refl _) o)
theorem kept_drew {lo hi : Nat} {w w' : World} (h : Kept lo hi w w') : Kept lo hi w w'.drew := ⟨h.os, h.tape, h.output, h.size, h.block⟩
theorem kept_drewN {lo hi : Nat} {w w' : World} (h : Kept lo hi w w') (n : Nat) : Kept lo hi w (w'.drewN n) := ⟨h.os, h.tape, h.output, h.size, h.block⟩
/-- what was there when the law began is as it was -/
theorem below_kept {w w1 w2 : World} {lo hi : Nat} (h : Below w.heap.size w w1) (k : Kept lo hi w1 w2) (hl : w.heap.size ≤ lo ∨ hi ≤ lo) : Below w.heap.size w w2 :=
  ⟨k.os.trans h.os, k.tape.trans h.tape, k.output.trans h.output, Nat.le_trans h.size k.size, fun i hi => (k.block i (Nat.lt_of_lt_of_le hi h.size) (by omega)).trans (h.block i hi)⟩

theorem Own.lt {w : World} {g : Nat} {xs : List Int} (h : Own w g xs) (hx : 0 < xs.length) : g < w.heap.size := World.block_lt_of_cell? _ _ (h 0 hx).1
theorem Own.keptS {w w' : World} {g : Nat} {xs : List Int} {lo hi : Nat} (h : Own w g xs) (k : Kept lo hi w w') (hn : ¬ (lo ≤ g ∧ g < hi)) : Own w' g xs := by
  intro i hi'
  obtain ⟨hc, hf⟩ := h i hi'
  have e := k.block g (World.block_lt_of_cell? _ _ hc) hn
  exact ⟨by rw [World.cell?_of_block (w := w) e]; exact hc, by rw [World.frozen?_of_block (w := w) e]; exact hf⟩

/-- a list at address a: nil, or from the head of a block of the span on -/
def SlotIn (w : World) (lo hi : Nat) (a : Option Addr) (xs : List Int) : Prop :=
  (a = none ∧ xs = []) ∨ ∃ g : Nat, a = some ⟨g, 0, none⟩ ∧ lo ≤ g ∧ g < hi ∧ Own w g xs
theorem SlotIn.kept {w w' : World} {l h lo hi : Nat} {a : Option Addr} {xs : List Int} (s : SlotIn w l h a xs) (k : Kept lo hi w w') (hd : h ≤ lo ∨ hi ≤ l ∨ hi ≤ lo) : SlotIn w' l h a xs := by
  rcases s with s | ⟨g, ea, g0, g1, ho⟩
  · exact .inl s
  · exact .inr ⟨g, ea, g0, g1, ho.keptS k (by omega)⟩
theorem SlotIn.wide {w : World} {l h l' h' : Nat} {a : Option Addr} {xs : List Int} (s : SlotIn w l h a xs) (hl : l' ≤ l) (hh : h ≤ h') : SlotIn w l' h' a xs := by
  rcases s with s | ⟨g, ea, g0, g1, ho⟩
  · exact .inl s
  · exact .inr ⟨g, ea, by omega, by omega, ho⟩
theorem SlotIn.row {w : World} {l h : Nat} {a : Option Addr} {xs : List Int} (s : SlotIn w l h a xs) : IRow w a xs := by
  rcases s with ⟨_, rfl⟩ | ⟨g, rfl, _, _, ho⟩
  · intro i hi; exact absurd hi (Nat.not_lt_zero i)
  · exact ho.row
theorem SlotIn.slot {w : World} {l h : Nat} {a : Option Addr} {xs : List Int} (s : SlotIn w l h a xs) (hh : h ≤ w.heap.size) : Slot w l a xs := by
  rcases s with s | ⟨g, ea, g0, g1, ho⟩
  · exact .inl s
  · exact .inr ⟨g, ea, g0, by omega, ho⟩
theorem Slot.slotIn {w : World} {l : Nat} {a : Option Addr} {xs : List Int} (s : Slot w l a xs) : SlotIn w l w.heap.size a xs := s
/-- a list behind whatever it was, its block one of the span's -/
theorem SlotIn.again {w w' : World} {l h : Nat} {a : Option Addr} {xs ys : List Int} {b : Nat} (s : SlotIn w l h a xs) (s' : Slot w' b a ys) : SlotIn w' l h a ys := by
  rcases s' with ⟨rfl, rfl⟩ | ⟨g', rfl, _, _, ho⟩
  · exact .inl ⟨rfl, rfl⟩
  · rcases s with ⟨e, _⟩ | ⟨g, e, g0, g1, _⟩
    · cases e
    · cases e; exact .inr ⟨g', rfl, g0, g1, ho⟩
theorem SlotIn.blk_in {w : World} {l h : Nat} {a : Option Addr} {xs : List Int} (s : SlotIn w l h a xs) : ∀ g, blk a = some g → l ≤ g ∧ g < h := by
  intro g hg
  rcases s with ⟨rfl, _⟩ | ⟨g', rfl, g0, g1, _⟩
  · simp [blk] at hg
  · simp [blk] at hg; omega

/-- a block that holds these cells -/
def Blk (w : World) (b : Nat) (cs : Array Value) (ty : TypeId) : Prop := w.heap[b]? = some (.cells cs ty)
theorem Blk.lt {w : World} {b : Nat} {cs : Array Value} {ty : TypeId} (h : Blk w b cs ty) : b < w.heap.size := by
  unfold Blk at h
  rcases Nat.lt_or_ge b w.heap.size with h' | h'
  · exact h'
  · rw [Array.getElem?_eq_none h'] at h; cases h
theorem Blk.kept {w w' : World} {b : Nat} {cs : Array Value} {ty : TypeId} {lo hi : Nat} (h : Blk w b cs ty) (k : Kept lo hi w w') (hn : ¬ (lo ≤ b ∧ b < hi)) : Blk w' b cs ty := (k.block b h.lt hn).trans h
theorem Blk.kept0 {w w' : World} {b : Nat} {cs : Array Value} {ty : TypeId} (h : Blk w b cs ty) (k : Kept 0 0 w w') : Blk w' b cs ty := h.kept k (by omega)
theorem Blk.cell {w : World} {b : Nat} {cs : Array Value} {ty : TypeId} (h : Blk w b cs ty) {i : Nat} {v : Value} (hi : cs[i]? = some v) : w.cell? ⟨b, i, none⟩ = some v := by
  unfold Blk at h
  simp [World.cell?, h, hi]
theorem Blk.frozen {w : World} {b : Nat} {cs : Array Value} {ty : TypeId} (h : Blk w b cs ty) (i : Nat) : w.frozen? ⟨b, i, none⟩ = false := by
  unfold Blk at h
  simp [World.frozen?, h]
theorem Blk.set {w : World} {b : Nat} {cs : Array Value} {ty : TypeId} (h : Blk w b cs ty) (i : Nat) (v : Value) : Blk (w.setCell ⟨b, i, none⟩ v) b (cs.setIfInBounds i v) ty := by
  unfold Blk at h ⊢
  simp [World.setCell, Array.getElem?_modify, h]
theorem Blk.other {w : World} {b : Nat} {cs : Array Value} {ty : TypeId} (h : Blk w b cs ty) (c i : Nat) (v : Value) (hn : b ≠ c) : Blk (w.setCell ⟨c, i, none⟩ v) b cs ty :=
  (Below.heap_setCell _ _ _ _ (by simpa using hn)).trans h
theorem Blk.new (w : World) (cs : Array Value) (ty : TypeId) : Blk (w.alloc (.cells cs ty)) w.heap.size cs ty := heap_alloc_new w _
theorem Blk.alloc {w : World} {b : Nat} {cs : Array Value} {ty : TypeId} (h : Blk w b cs ty) (o : Obj) : Blk (w.alloc o) b cs ty := (Below.heap_alloc _ _ _ h.lt).trans h
/-- a store into a block of the span -/
theorem kept_set {w w' : World} {lo hi : Nat} (h : Kept lo hi w w') (b i : Nat) (v : Value) (hb : (lo ≤ b ∧ b < hi) ∨ w.heap.size ≤ b) : Kept lo hi w (w'.setCell ⟨b, i, none⟩ v) :=
  ⟨h.os, h.tape, h.output, by simpa using h.size, fun k hk hn => (Below.heap_setCell _ _ _ _ (by simp; omega)).trans (h.block k hk hn)⟩
theorem kept_new {w w' : World} {lo hi : Nat} (h : Kept lo hi w w') (o : Obj) : Kept lo hi w (w'.alloc o) :=
  ⟨h.os, h.tape, h.output, Nat.le_trans h.size (by simp), fun k hk hn => (Below.heap_alloc _ _ _ (Nat.lt_of_lt_of_le hk h.size)).trans (h.block k hk hn)⟩
theorem Own.setOther {w : World} {g : Nat} {xs : List Int} (h : Own w g xs) (b i : Nat) (v : Value) (hn : g ≠ b) : Own (w.setCell ⟨b, i, none⟩ v) g xs := by
  intro j hj
  obtain ⟨hc, hf⟩ := h j hj
  exact ⟨by rw [World.cell?_setCell_other _ _ _ _ (fun e => hn (congrArg Addr.block e).symm)]; exact hc, by simpa using hf⟩
theorem IRow.keptS {w w' : World} {a : Option Addr} {xs : List Int} (h : IRow w a xs) (k : Kept 0 0 w w') : IRow w' a xs := h.kept k.grown

/-- a row of numbers that the kind int holds, at address a -/
def Came (w : World) (a : Option Addr) (xs : List Int) : Prop := IRow w a xs ∧ Wide xs
theorem Came.keptS {w w' : World} {a : Option Addr} {xs : List Int} (h : Came w a xs) (k : Kept 0 0 w w') : Came w' a xs := ⟨h.1.keptS k, h.2⟩
theorem Came.below {w w' : World} {a : Option Addr} {xs : List Int} (h : Came w a xs) (k : Below w.heap.size w w') : Came w' a xs := ⟨h.1.below k, h.2⟩
theorem Own.came {w : World} {g : Nat} {xs : List Int} (h : Own w g xs) (hw : Wide xs) : Came w (some ⟨g, 0, none⟩) xs := ⟨h.row, hw⟩

theorem undrewK {lo hi : Nat} {w w' : World} (h : Kept lo hi w.drew w') : Kept lo hi w w' := ⟨h.os, h.tape, h.output, h.size, h.block⟩

end Go.Proofs.Ytjhpggekmglkaaa
