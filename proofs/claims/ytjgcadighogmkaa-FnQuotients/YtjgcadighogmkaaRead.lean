/- Bytes that came in, read by the model's reader: what every draw of a law's arguments leans on. -/
import Derived.Test.YtjgcadighogmkaaPick
namespace Go.Proofs.Ytjgcadighogmkaa
open Go.RowKit
set_option linter.unusedVariables false

theorem Cur.alloc {w : World} {b : Nat} {a : Option Addr} {len cap : Nat} {p : Int} (h : Cur w b a len cap p) (o : Obj) : Cur (w.alloc o) b a len cap p :=
  h.kept (World.grownBy_alloc w o none) (by simp) (by simp)

theorem lits (w : World) (xs : List Int) (lo hi : Int) (h : ∀ x ∈ xs, lo ≤ x ∧ x ≤ hi) (i : Nat) (hl : i < xs.length) :
    ∃ z : Int, (w.alloc (.cells (xs.map (Value.int .i64)).toArray 3)).cell? ⟨w.heap.size, i, none⟩ = some (.int .i64 z) ∧ lo ≤ z ∧ z ≤ hi := by
  refine ⟨xs[i], ?_, h _ (List.getElem_mem hl)⟩
  rw [World.cell?_alloc_new]
  simp [hl]

theorem lits1 (w : World) (o : Obj) (xs : List Int) (lo hi : Int) (h : ∀ x ∈ xs, lo ≤ x ∧ x ≤ hi) (i : Nat) (hl : i < xs.length) :
    ∃ z : Int, ((w.alloc o).alloc (.cells (xs.map (Value.int .i64)).toArray 3)).cell? ⟨w.heap.size + 1, i, none⟩ = some (.int .i64 z) ∧ lo ≤ z ∧ z ≤ hi := by
  have := lits (w.alloc o) xs lo hi h i hl
  rwa [World.size_alloc] at this

theorem Went.alloc {w w' : World} {o : Obj} {b : Nat} {a : Option Addr} {len cap : Nat} {p k : Int} (h : Went (w.alloc o) w' b a len cap p k) : Went w w' b a len cap p k := by
  obtain ⟨g, r⟩ := h
  exact ⟨grownBy_trans (World.grownBy_alloc w o _) g, r⟩

/-- bytes that came in: each of the first len cells holds one -/
def Bytes (w : World) (a : Option Addr) (len : Nat) : Prop :=
  len ≤ maxLen ∧ ∀ i : Nat, i < len → ∃ (g off : Nat) (z : Int), a = some ⟨g, off, none⟩ ∧ w.cell? ⟨g, off + i, none⟩ = some (.int .u8 z) ∧ 0 ≤ z ∧ z ≤ 255

theorem Bytes.cur {w : World} {a : Option Addr} {len : Nat} (h : Bytes w a len) (cap : Nat) : Cur (w.alloc (.cells #[.slice a len cap, .int .i64 0, .int .u64 0] 58)) w.heap.size a len cap 0 := by
  obtain ⟨hl, hr⟩ := h
  refine ⟨by simp, by simp, ⟨0, by simp⟩, by simp, by simp, hl, ?_⟩
  intro i hi
  obtain ⟨g, off, z, ea, hc, z0, z1⟩ := hr i hi
  have hg : g < w.heap.size := World.block_lt_of_cell? _ _ hc
  exact ⟨g, off, z, ea, by omega, by rw [World.cell?_alloc_lt _ _ _ hg]; exact hc, z0, z1⟩

theorem bytesOfRow {w : World} {a : Option Addr} {len cap : Nat} {zs : List Int} (h : (a = none ∧ len = 0 ∧ cap = 0 ∧ zs = []) ∨
    ∃ x, a = some x ∧ len ≤ cap ∧ cap ≤ maxLen ∧ zs.length = cap ∧ (∀ i, i < zs.length → w.cell? (x.add i) = some (.int .u8 (zs.getD i 0))) ∧ ∀ n ∈ zs, (Lit.int .u8 n).wf = true) : Bytes w a len := by
  rcases h with ⟨_, rfl, _, _⟩ | ⟨x, rfl, hl, hm, hz, hcell, hwz⟩
  · exact ⟨Nat.zero_le _, fun i hi => absurd hi (Nat.not_lt_zero i)⟩
  · refine ⟨Nat.le_trans hl hm, fun i hi => ?_⟩
    obtain ⟨g, off, spot⟩ := x
    have hspot : spot = none := by simpa [Addr.add] using World.cell?_spot (hcell 0 (by omega))
    subst hspot
    have hi2 : i < zs.length := by omega
    have hc : w.cell? ⟨g, off + i, none⟩ = some (.int .u8 (zs.getD i 0)) := by
      have hc := hcell i hi2
      by_cases h0 : i = 0
      · subst h0; simpa [Addr.add] using hc
      · simpa [Addr.add, h0] using hc
    have hmem : zs.getD i 0 ∈ zs := by simp [List.getD, hi2]
    have hb := bounds_u8 (hwz _ hmem)
    exact ⟨g, off, zs.getD i 0, rfl, hc, hb.1, hb.2⟩

theorem below_of {w w' : World} {o : Obj} (hg : (w.alloc o).grownBy w' (some w.heap.size)) : Below w.heap.size w w' :=
  ⟨hg.os, hg.tape, hg.output, by have := hg.size; simp at this; omega, fun k hk => (hg.block k (by simp; omega) (by simp; omega)).trans (Below.heap_alloc _ _ _ hk)⟩

theorem Bytes.kept {w w' : World} {a : Option Addr} {len : Nat} (h : Bytes w a len) (hb : Below w.heap.size w w') : Bytes w' a len := by
  refine ⟨h.1, fun i hi => ?_⟩
  obtain ⟨g, off, z, ea, hc, z0, z1⟩ := h.2 i hi
  exact ⟨g, off, z, ea, by rw [hb.cell (World.block_lt_of_cell? _ _ hc)]; exact hc, z0, z1⟩

theorem Cur.kept2 {w w' : World} {b : Nat} {a : Option Addr} {len cap : Nat} {p : Int} {row : Option Nat} (h : Cur w b a len cap p) (hg : w.grownBy w' row) (hb : some b ≠ row) (ha : ∀ g off, 0 < len → a = some ⟨g, off, none⟩ → some g ≠ row) : Cur w' b a len cap p := by
  have hf : ∀ o, w'.frozen? ⟨b, o, none⟩ = w.frozen? ⟨b, o, none⟩ := fun o => World.frozen?_of_block (w := w) (hg.block b h.lt hb)
  obtain ⟨sd, c2⟩ := h.c2
  refine ⟨hg.cell h.c0 hb, hg.cell h.c1 hb, ⟨sd, hg.cell c2 hb⟩, by rw [hf]; exact h.f1, by rw [hf]; exact h.f2, h.hl, ?_⟩
  intro i hi
  obtain ⟨g, off, z, ea, hne, hc, z0, z1⟩ := h.row i hi
  exact ⟨g, off, z, ea, hne, hg.cell hc (ha g off (by omega) ea), z0, z1⟩

end Go.Proofs.Ytjgcadighogmkaa
