/- What is said of worlds, blocks and lists by every law on structs with lists: blocks kept outside a span, lists in blocks of a span, a block's cells, copies; no text of a chapter is spoken of here. -/
import Derived.Test.YtjgcadighogmkaaLists
import Derived.RegionTactic
import Derived.ChangeAlike
import Derived.BigRegion
import Derived.Deep.RegionWith
import Derived.Laws.Rows
import Derived.Laws.ResultCell
import Derived.Laws.CopyOwn
import Derived.Maps.AppendAt
import Derived.Laws.AppendOwnNone
namespace Go.Proofs.Ytjgcadighogmkaa
open Go.RowKit
set_option linter.unusedVariables false

/-- the number at a place of a row -/
def el (xs : List Int) (i : Nat) : Int := xs[i]?.getD 0
theorem grownBy_alloc {a b : World} {row : Option Nat} (h : a.grownBy b row) (o : Obj) : a.grownBy (b.alloc o) row :=
  ⟨h.os, h.tape, h.output, Nat.le_trans h.size (by simp), fun k hk hne => (Below.heap_alloc _ _ _ (Nat.lt_of_lt_of_le hk h.size)).trans (h.block k hk hne)⟩
theorem results_one {fn : Func} {p : Tmp} {ty : TypeId} (h : fn.results = #[.cell p ty]) (tmps : Array Value) (P : Program) (w : World) :
    (results fn tmps).run P w = ((asAddr (tmps.getD p undef)).run P w).andThen fun a w₁ => (loadVar ty a).run P w₁ := by
  simp only [results, h]
  simp [Sem.run_bind, Result.andThen]
/-- of the blocks that were there those outside a span are as they were -/
structure Kept (lo hi : Nat) (w w' : World) : Prop where
  os : w'.os = w.os
  tape : w'.tape = w.tape
  output : w'.output = w.output
  size : w.heap.size ≤ w'.heap.size
  block : ∀ k, k < w.heap.size → ¬ (lo ≤ k ∧ k < hi) → w'.heap[k]? = w.heap[k]?

theorem Kept.refl (lo hi : Nat) (w : World) : Kept lo hi w w := ⟨rfl, rfl, rfl, Nat.le_refl _, fun _ _ _ => rfl⟩
theorem Kept.trans {lo hi : Nat} {a b c : World} (h : Kept lo hi a b) (k : Kept lo hi b c) : Kept lo hi a c :=
  ⟨k.os.trans h.os, k.tape.trans h.tape, k.output.trans h.output, Nat.le_trans h.size k.size, fun i hi hn => (k.block i (Nat.lt_of_lt_of_le hi h.size) hn).trans (h.block i hi hn)⟩
theorem Kept.wide {lo hi lo' hi' : Nat} {a b : World} (h : Kept lo hi a b) (hl : ∀ k, lo ≤ k → k < hi → lo' ≤ k ∧ k < hi') : Kept lo' hi' a b :=
  ⟨h.os, h.tape, h.output, h.size, fun i hi hn => h.block i hi (fun q => hn (hl i q.1 q.2))⟩
theorem Kept.any {lo hi : Nat} {a b : World} (h : Kept 0 0 a b) : Kept lo hi a b := h.wide (by omega)
theorem kept_grown {w w' : World} (h : w.grownBy w' none) : Kept 0 0 w w' := ⟨h.os, h.tape, h.output, h.size, fun k hk _ => h.block k hk (by simp)⟩
theorem kept_below {w w' : World} (h : Below w.heap.size w w') : Kept 0 0 w w' := ⟨h.os, h.tape, h.output, h.size, fun k hk _ => h.block k hk⟩
theorem Kept.below {w w' : World} (h : Kept 0 0 w w') : Below w.heap.size w w' := ⟨h.os, h.tape, h.output, h.size, fun k hk => h.block k hk (by omega)⟩
theorem Kept.grown {w w' : World} (h : Kept 0 0 w w') : w.grownBy w' none := ⟨h.os, h.tape, h.output, h.size, fun k hk _ => h.block k hk (by omega)⟩
theorem kept_row {w w' : World} {row : Option Nat} {lo hi : Nat} (h : w.grownBy w' row) (hr : ∀ g, row = some g → lo ≤ g ∧ g < hi) : Kept lo hi w w' :=
  ⟨h.os, h.tape, h.output, h.size, fun k hk hn => h.block k hk (fun e => hn (hr k e.symm))⟩
theorem kept_alloc (w : World) (o : Obj) : Kept 0 0 w (w.alloc o) := kept_below ((Below.refl _ w).alloc (Nat.le_refl _) o)
theorem kept_drew {lo hi : Nat} {w w' : World} (h : Kept lo hi w w') : Kept lo hi w w'.drew := ⟨h.os, h.tape, h.output, h.size, h.block⟩
theorem kept_drewN {lo hi : Nat} {w w' : World} (h : Kept lo hi w w') (n : Nat) : Kept lo hi w (w'.drewN n) := ⟨h.os, h.tape, h.output, h.size, h.block⟩
/-- what was there when the law began is as it was -/
theorem below_kept {w w1 w2 : World} {lo hi : Nat} (h : Below w.heap.size w w1) (k : Kept lo hi w1 w2) (hl : w.heap.size ≤ lo ∨ hi ≤ lo) : Below w.heap.size w w2 :=
  ⟨k.os.trans h.os, k.tape.trans h.tape, k.output.trans h.output, Nat.le_trans h.size k.size, fun i hi => (k.block i (Nat.lt_of_lt_of_le hi h.size) (by omega)).trans (h.block i hi)⟩

theorem Own.lt {w : World} {g : Nat} {xs : List Int} (h : Own w g xs) (hx : 0 < xs.length) : g < w.heap.size := World.block_lt_of_cell? _ _ (h 0 hx).1
theorem Own.keptS {w w' : World} {g : Nat} {xs : List Int} {lo hi : Nat} (h : Own w g xs) (k : Kept lo hi w w') (hn : ¬ (lo ≤ g ∧ g < hi)) : Own w' g xs := by
  intro i hi'
  obtain ⟨hc, hf⟩ := h i hi'
  have e := k.block g (World.block_lt_of_cell? _ _ hc) hn
  exact ⟨by rw [World.cell?_of_block (w := w) e]; exact hc, by rw [World.frozen?_of_block (w := w) e]; exact hf⟩

/-- a list at address a: nil, or from the head of a block of the span on -/
def SlotIn (w : World) (lo hi : Nat) (a : Option Addr) (xs : List Int) : Prop :=
  (a = none ∧ xs = []) ∨ ∃ g : Nat, a = some ⟨g, 0, none⟩ ∧ lo ≤ g ∧ g < hi ∧ Own w g xs
theorem SlotIn.kept {w w' : World} {l h lo hi : Nat} {a : Option Addr} {xs : List Int} (s : SlotIn w l h a xs) (k : Kept lo hi w w') (hd : h ≤ lo ∨ hi ≤ l ∨ hi ≤ lo) : SlotIn w' l h a xs := by
  rcases s with s | ⟨g, ea, g0, g1, ho⟩
  · exact .inl s
  · exact .inr ⟨g, ea, g0, g1, ho.keptS k (by omega)⟩
theorem SlotIn.wide {w : World} {l h l' h' : Nat} {a : Option Addr} {xs : List Int} (s : SlotIn w l h a xs) (hl : l' ≤ l) (hh : h ≤ h') : SlotIn w l' h' a xs := by
  rcases s with s | ⟨g, ea, g0, g1, ho⟩
  · exact .inl s
  · exact .inr ⟨g, ea, by omega, by omega, ho⟩
theorem SlotIn.row {w : World} {l h : Nat} {a : Option Addr} {xs : List Int} (s : SlotIn w l h a xs) : IRow w a xs := by
  rcases s with ⟨_, rfl⟩ | ⟨g, rfl, _, _, ho⟩
  · intro i hi; exact absurd hi (Nat.not_lt_zero i)
  · exact ho.row
theorem SlotIn.slot {w : World} {l h : Nat} {a : Option Addr} {xs : List Int} (s : SlotIn w l h a xs) (hh : h ≤ w.heap.size) : Slot w l a xs := by
  rcases s with s | ⟨g, ea, g0, g1, ho⟩
  · exact .inl s
  · exact .inr ⟨g, ea, g0, by omega, ho⟩
theorem Slot.slotIn {w : World} {l : Nat} {a : Option Addr} {xs : List Int} (s : Slot w l a xs) : SlotIn w l w.heap.size a xs := s
/-- a list behind whatever it was, its block one of the span's -/
theorem SlotIn.again {w w' : World} {l h : Nat} {a : Option Addr} {xs ys : List Int} {b : Nat} (s : SlotIn w l h a xs) (s' : Slot w' b a ys) : SlotIn w' l h a ys := by
  rcases s' with ⟨rfl, rfl⟩ | ⟨g', rfl, _, _, ho⟩
  · exact .inl ⟨rfl, rfl⟩
  · rcases s with ⟨e, _⟩ | ⟨g, e, g0, g1, _⟩
    · cases e
    · cases e; exact .inr ⟨g', rfl, g0, g1, ho⟩
theorem SlotIn.blk_in {w : World} {l h : Nat} {a : Option Addr} {xs : List Int} (s : SlotIn w l h a xs) : ∀ g, blk a = some g → l ≤ g ∧ g < h := by
  intro g hg
  rcases s with ⟨rfl, _⟩ | ⟨g', rfl, g0, g1, _⟩
  · simp [blk] at hg
  · simp [blk] at hg; omega

/-- a block that holds these cells -/
def Blk (w : World) (b : Nat) (cs : Array Value) (ty : TypeId) : Prop := w.heap[b]? = some (.cells cs ty)
theorem Blk.lt {w : World} {b : Nat} {cs : Array Value} {ty : TypeId} (h : Blk w b cs ty) : b < w.heap.size := by
  unfold Blk at h
  rcases Nat.lt_or_ge b w.heap.size with h' | h'
  · exact h'
  · rw [Array.getElem?_eq_none h'] at h; cases h
theorem Blk.kept {w w' : World} {b : Nat} {cs : Array Value} {ty : TypeId} {lo hi : Nat} (h : Blk w b cs ty) (k : Kept lo hi w w') (hn : ¬ (lo ≤ b ∧ b < hi)) : Blk w' b cs ty := (k.block b h.lt hn).trans h
theorem Blk.kept0 {w w' : World} {b : Nat} {cs : Array Value} {ty : TypeId} (h : Blk w b cs ty) (k : Kept 0 0 w w') : Blk w' b cs ty := h.kept k (by omega)
theorem Blk.cell {w : World} {b : Nat} {cs : Array Value} {ty : TypeId} (h : Blk w b cs ty) {i : Nat} {v : Value} (hi : cs[i]? = some v) : w.cell? ⟨b, i, none⟩ = some v := by
  unfold Blk at h
  simp [World.cell?, h, hi]
theorem Blk.frozen {w : World} {b : Nat} {cs : Array Value} {ty : TypeId} (h : Blk w b cs ty) (i : Nat) : w.frozen? ⟨b, i, none⟩ = false := by
  unfold Blk at h
  simp [World.frozen?, h]
theorem Blk.set {w : World} {b : Nat} {cs : Array Value} {ty : TypeId} (h : Blk w b cs ty) (i : Nat) (v : Value) : Blk (w.setCell ⟨b, i, none⟩ v) b (cs.setIfInBounds i v) ty := by
  unfold Blk at h ⊢
  simp [World.setCell, Array.getElem?_modify, h]
theorem Blk.other {w : World} {b : Nat} {cs : Array Value} {ty : TypeId} (h : Blk w b cs ty) (c i : Nat) (v : Value) (hn : b ≠ c) : Blk (w.setCell ⟨c, i, none⟩ v) b cs ty :=
  (Below.heap_setCell _ _ _ _ (by simpa using hn)).trans h
theorem Blk.new (w : World) (cs : Array Value) (ty : TypeId) : Blk (w.alloc (.cells cs ty)) w.heap.size cs ty := heap_alloc_new w _
theorem Blk.alloc {w : World} {b : Nat} {cs : Array Value} {ty : TypeId} (h : Blk w b cs ty) (o : Obj) : Blk (w.alloc o) b cs ty := (Below.heap_alloc _ _ _ h.lt).trans h
/-- a store into a block of the span -/
theorem kept_set {w w' : World} {lo hi : Nat} (h : Kept lo hi w w') (b i : Nat) (v : Value) (hb : (lo ≤ b ∧ b < hi) ∨ w.heap.size ≤ b) : Kept lo hi w (w'.setCell ⟨b, i, none⟩ v) :=
  ⟨h.os, h.tape, h.output, by simpa using h.size, fun k hk hn => (Below.heap_setCell _ _ _ _ (by simp; omega)).trans (h.block k hk hn)⟩
theorem kept_new {w w' : World} {lo hi : Nat} (h : Kept lo hi w w') (o : Obj) : Kept lo hi w (w'.alloc o) :=
  ⟨h.os, h.tape, h.output, Nat.le_trans h.size (by simp), fun k hk hn => (Below.heap_alloc _ _ _ (Nat.lt_of_lt_of_le hk h.size)).trans (h.block k hk hn)⟩
theorem Own.setOther {w : World} {g : Nat} {xs : List Int} (h : Own w g xs) (b i : Nat) (v : Value) (hn : g ≠ b) : Own (w.setCell ⟨b, i, none⟩ v) g xs := by
  intro j hj
  obtain ⟨hc, hf⟩ := h j hj
  exact ⟨by rw [World.cell?_setCell_other _ _ _ _ (fun e => hn (congrArg Addr.block e).symm)]; exact hc, by simpa using hf⟩
theorem IRow.keptS {w w' : World} {a : Option Addr} {xs : List Int} (h : IRow w a xs) (k : Kept 0 0 w w') : IRow w' a xs := h.kept k.grown

/-- a row of numbers that the kind int holds, at address a -/
def Came (w : World) (a : Option Addr) (xs : List Int) : Prop := IRow w a xs ∧ Wide xs
theorem Came.keptS {w w' : World} {a : Option Addr} {xs : List Int} (h : Came w a xs) (k : Kept 0 0 w w') : Came w' a xs := ⟨h.1.keptS k, h.2⟩
theorem Came.below {w w' : World} {a : Option Addr} {xs : List Int} (h : Came w a xs) (k : Below w.heap.size w w') : Came w' a xs := ⟨h.1.below k, h.2⟩
theorem Own.came {w : World} {g : Nat} {xs : List Int} (h : Own w g xs) (hw : Wide xs) : Came w (some ⟨g, 0, none⟩) xs := ⟨h.row, hw⟩

theorem undrewK {lo hi : Nat} {w w' : World} (h : Kept lo hi w.drew w') : Kept lo hi w w' := ⟨h.os, h.tape, h.output, h.size, h.block⟩
theorem news_of {w : World} {g off : Nat} {xs : List Int} (h : IRow w (some ⟨g, off, none⟩) xs) : ∀ j u, (xs.map (Value.int .i64))[j]? = some u → w.cell? ((⟨g, off, none⟩ : Addr).add j) = some u := by
  intro j u hu
  have hj : j < xs.length := by
    rcases Nat.lt_or_ge j xs.length with h' | h'
    · exact h'
    · rw [List.getElem?_eq_none (by simpa using h')] at hu; cases hu
  obtain ⟨g', off', e, hc⟩ := h j hj
  cases e
  have e : u = .int .i64 (xs[j]?.getD 0) := by simpa [hj] using hu.symm
  rw [e]
  by_cases h0 : j = 0
  · subst h0; simpa [Addr.add] using hc
  · simpa [Addr.add, h0] using hc
theorem news_one {xs : List Int} : ∀ u ∈ xs.map (Value.int .i64), u.oneCell' = true := by
  intro u hu
  obtain ⟨z, _, rfl⟩ := List.mem_map.1 hu
  rfl
/-- a row of the call's own that is not empty: its value written out -/
theorem own_form {w : World} {base : Nat} {e : TypeId} {size : Nat} {v : Value} {n : Nat} {xs : List Value} (h : w.ownsRow base e size v n xs) (hn : 0 < n) : ∃ g cap : Nat, v = .slice (some ⟨g, 0, none⟩) n cap ∧ base ≤ g ∧ g < w.heap.size := by
  rcases h.2 with ⟨_, e⟩ | ⟨g, cap, cur, rfl, hb, _⟩
  · omega
  · exact ⟨g, cap, rfl, hb, (h.lt g rfl).2⟩
theorem own_base {w : World} {base base' : Nat} {e : TypeId} {size : Nat} {v : Value} {n : Nat} {xs : List Value} (h : w.ownsRow base e size v n xs) (hb : base' ≤ base) : w.ownsRow base' e size v n xs := by
  refine ⟨h.1, ?_⟩
  rcases h.2 with h' | ⟨g, cap, cur, rfl, hg, rest⟩
  · exact .inl h'
  · exact .inr ⟨g, cap, cur, rfl, by omega, rest⟩
theorem Own.set_el {w : World} {g k : Nat} {xs : List Int} (h : Own w g xs) (z : Int) : Own (w.setCell ⟨g, k, none⟩ (.int .i64 z)) g (xs.set k z) := h.set z
theorem el_set {xs : List Int} {k i : Nat} {z : Int} (hk : k < xs.length) : el (xs.set k z) i = if i = k then z else el xs i := by
  unfold el
  by_cases e : i = k
  · subst e; rw [List.getElem?_set_self hk, if_pos rfl]; rfl
  · rw [List.getElem?_set_ne (fun q => e q.symm), if_neg e]
namespace Pl
theorem el_out {xs : List Int} {i : Nat} (h : xs.length ≤ i) : el xs i = 0 := by unfold el; rw [List.getElem?_eq_none h]; rfl
end Pl
/-- a row of numbers as an array's cells -/
def cellsOf (xs : List Int) : Array Value := (xs.map (Value.int .i64)).toArray
theorem cellsOf_size (xs : List Int) : (cellsOf xs).size = xs.length := by simp [cellsOf]
theorem cellsOf_one (xs : List Int) : (cellsOf xs).all (·.oneCell') = true := by
  rw [Array.all_eq_true_iff_forall_mem]
  intro v hv
  simp [cellsOf] at hv
  obtain ⟨z, _, rfl⟩ := hv
  rfl
theorem kept_setRow {w w' : World} (h : Kept 0 0 w w') (g : Nat) (cs : Array Value) (hg : w.heap.size ≤ g) : Kept 0 0 w (w'.setRow g cs) :=
  ⟨h.os, h.tape, h.output, by simpa using h.size, fun k hk hn => (setRow_other w' g k cs (by omega)).trans (h.block k hk hn)⟩
theorem Blk.setRow {w : World} {b : Nat} {cs ds : Array Value} {ty : TypeId} (h : Blk w b cs ty) : Blk (w.setRow b ds) b ds ty := setRow_heap w b cs ds ty _ h
theorem Blk.setRowOther {w : World} {b g : Nat} {cs ds : Array Value} {ty : TypeId} (h : Blk w b cs ty) (hn : b ≠ g) : Blk (w.setRow g ds) b cs ty := (setRow_other w g b ds hn).trans h
theorem splice_all {cur cs : List Value} (h : cur.length = cs.length) : splice cur 0 cs = cs := by
  unfold splice
  rw [List.take_zero, List.nil_append, List.drop_eq_nil_of_le (by omega), List.append_nil]
theorem kept_lower {w W w' : World} {B : Nat} (k : Kept 0 0 w W) (h : Below B W w') (hB : w.heap.size ≤ B) : Kept 0 0 w w' :=
  ⟨h.os.trans k.os, h.tape.trans k.tape, h.output.trans k.output, Nat.le_trans k.size h.size, fun i hi hn => (h.block i (by omega)).trans (k.block i hi hn)⟩
theorem blk_of_row {w : World} {base g n : Nat} {vs : List Value} {e : TypeId} {size : Nat} (h : w.ownsRow base e size (.slice (some ⟨g, 0, none⟩) n n) n vs) : Blk w g vs.toArray e := by
  rcases h with ⟨hl, ⟨q, _⟩ | ⟨g', cap', cur, q, _, hgg, _, _, hsz, ht⟩⟩
  · cases q
  · cases q
    rw [List.take_of_length_le (by simp [hsz])] at ht
    rw [← ht]
    exact hgg
theorem own_of_blk {w : World} {g : Nat} {xs : List Int} {e : TypeId} (h : Blk w g (cellsOf xs) e) : Own w g xs := by
  intro i hi
  refine ⟨h.cell (by simp [cellsOf, hi]), h.frozen i⟩
theorem Came.nth {w : World} {a : Option Addr} {xs : List Int} (h : IRow w a xs) (h0 : 0 < xs.length) : ∃ ad, a = some ad ∧ ∀ j v, (xs.map (Value.int .i64))[j]? = some v → w.cell? (ad.add j) = some v := by
  obtain ⟨g, o, rfl, _⟩ := h 0 h0
  exact ⟨_, rfl, news_of h⟩
theorem kept_over {w W W' : World} {lo hi : Nat} (k : Kept 0 0 w W) (h : Kept lo hi W W') (hg : w.heap.size ≤ lo) : Kept 0 0 w W' :=
  ⟨h.os.trans k.os, h.tape.trans k.tape, h.output.trans k.output, Nat.le_trans k.size h.size, fun i hi hn => (h.block i (Nat.lt_of_lt_of_le hi k.size) (by omega)).trans (k.block i hi hn)⟩
/-- a row of numbers copied into a block -/
theorem copy_at (W : World) (g off dLen dCap sCap : Nat) (sp : Option Addr) (cs : List Int) (cur : List Value) (t : TypeId) (hB : Blk W g cur.toArray t) (hr : IRow W sp cs) (hl : cs.length ≤ dLen) (hfit : off + cs.length ≤ cur.length) :
    ∃ W', (Builtin.copy_ #[28, 28] 3 #[.slice (some ⟨g, off, none⟩) dLen dCap, .slice sp cs.length sCap]).run Try.prog W = .ok (.int .i64 cs.length) W' ∧ Blk W' g (splice cur off (cs.map (Value.int .i64))).toArray t ∧ Kept g (g + 1) W W' := by
  have HS : (Try.prog.info? 3).map (·.size) = some 1 := by kernel_rfl
  by_cases h0 : cs.length = 0
  · obtain rfl : cs = [] := List.eq_nil_of_length_eq_zero h0
    refine ⟨W, run_copy_none (P := Try.prog) W 28 28 3 3 _ _ _ _ _ _ Try.underlying28 HS (by simp), ?_, Kept.refl _ _ _⟩
    simpa [splice] using hB
  · obtain ⟨ga, oa, rfl, _⟩ := hr 0 (by omega)
    have h := run_copy_row Try.prog W 28 28 3 3 g off dLen dCap ⟨ga, oa, none⟩ cs.length sCap cur.toArray t (cs.map (Value.int .i64)) Try.underlying28 HS hB (by simp only [List.length_map]; exact (Nat.min_eq_left hl).symm) (news_of hr) (by simpa using hfit) news_one
    refine ⟨_, by rw [h, List.length_map]; rfl, ?_, ?_⟩
    · have := hB.setRow (ds := (List.take off cur.toArray.toList ++ cs.map (Value.int .i64) ++ List.drop (off + (cs.map (Value.int .i64)).length) cur.toArray.toList).toArray)
      simpa [splice] using this
    · exact ⟨rfl, rfl, rfl, by simp, fun k hk hn => setRow_other W g k _ (by omega)⟩
theorem el_append {xs us : List Int} {i : Nat} : el (xs ++ us) i = if i < xs.length then el xs i else el us (i - xs.length) := by
  unfold el
  rw [List.getElem?_append]
  split <;> rfl
theorem kept_by {w w' : World} {b : Nat} (h : Kept b (b + 1) w w') : w.grownBy w' (some b) :=
  ⟨h.os, h.tape, h.output, h.size, fun k hk hn => h.block k hk (fun q => hn (by rw [show k = b by omega]))⟩
theorem kept_down {w X w' : World} {base N : Nat} (h : Kept 0 0 w X) (k : Kept base N X w') : Kept base w.heap.size w w' :=
  ⟨k.os.trans h.os, k.tape.trans h.tape, k.output.trans h.output, Nat.le_trans h.size k.size, fun i hi hn => (k.block i (Nat.lt_of_lt_of_le hi h.size) (by omega)).trans (h.block i hi (by omega))⟩
theorem kept_down2 {w X w' : World} {base N : Nat} (h : Kept base w.heap.size w X) (k : Kept base N X w') : Kept base w.heap.size w w' :=
  ⟨k.os.trans h.os, k.tape.trans h.tape, k.output.trans h.output, Nat.le_trans h.size k.size, fun i hi hn => (k.block i (Nat.lt_of_lt_of_le hi h.size) (by omega)).trans (h.block i hi hn)⟩
theorem results_cell_tmp3 {fn : Func} {p u1 u2 u3 : Tmp} {ty : TypeId} (h : fn.results = #[.cell p ty, .tmp u1, .tmp u2, .tmp u3]) (tmps : Array Value) (P : Program) (w : World) :
    (results fn tmps).run P w = ((asAddr (tmps.getD p undef)).run P w).andThen fun a w₁ => ((loadVar ty a).run P w₁).andThen fun v w₂ => .ok (.tuple #[v, tmps.getD u1 undef, tmps.getD u2 undef, tmps.getD u3 undef]) w₂ := by
  simp only [results, h]
  simp [Sem.run_bind, Result.andThen]
/-- what is left of a measure, or -1 -/
def szB (n m : Nat) (left : Int) : Int := if left - (n : Int) < 0 then -1 else if left - (n : Int) - (m : Int) < 0 then -1 else left - (n : Int) - (m : Int)
theorem szB_neg {n m : Nat} {left : Int} (h : ¬ szB n m left < 0) : (n : Int) + (m : Int) ≤ left := by
  unfold szB at h
  split at h
  · exact absurd (by decide) h
  · split at h
    · exact absurd (by decide) h
    · omega
theorem szB_le {n m : Nat} {left : Int} (l0 : 0 ≤ left) (h : ¬ szB n m left < 0) : 0 ≤ szB n m left ∧ szB n m left ≤ left := by
  unfold szB at h ⊢
  split at h
  · exact absurd (by decide) h
  · split at h
    · exact absurd (by decide) h
    · rename_i h1 h2
      rw [if_neg h1, if_neg h2]; omega
end Go.Proofs.Ytjgcadighogmkaa
