/- Draws behind draws: what the reader's calls answer wherever the reading has come to, with boxes of the drawing's own beside it. -/
import Derived.Test.YtlbnllhabdnjjaaDoorDrawVal
import Derived.Test.YtlbnllhabdnjjaaDoorGrA
namespace Go.Proofs.YtlbnllhabdnjjaaDoor
open Go.RowKit
set_option linter.unusedVariables false
theorem grown_new1 {w W : World} {row : Option Nat} (h : w.grownBy W row) (g i : Nat) (v : Value) (hg : w.heap.size ≤ g) : w.grownBy (W.setCell ⟨g, i, none⟩ v) row :=
  ⟨h.os, h.tape, h.output, by simpa using h.size, fun j hj hne => (Below.heap_setCell _ _ _ _ (by simp; omega)).trans (h.block j hj hne)⟩
theorem Cur.setNew {w0 w : World} {b : Nat} {a : Option Addr} {len cap : Nat} {p p' : Int} (h0 : Cur w0 b a len cap p') (h : Cur w b a len cap p) (g i : Nat) (v : Value) (hg : w0.heap.size ≤ g) : Cur (w.setCell ⟨g, i, none⟩ v) b a len cap p := by
  have hb := h0.lt
  refine h.kept2 (row := some g) ⟨rfl, rfl, rfl, by simp, fun k hk hn => Below.heap_setCell _ _ _ _ (fun e => hn (congrArg some e))⟩ (by simp; omega) ?_
  intro g0 off hl e
  obtain ⟨g1, o1, z, ea, _, hc, _⟩ := h0.row 0 hl
  rw [e] at ea
  cases ea
  have := World.block_lt_of_cell? _ _ hc
  simp at this ⊢
  omega
theorem Went.setNew {w W : World} {b : Nat} {a : Option Addr} {len cap : Nat} {p k p' : Int} (h : Went w W b a len cap p k) (h0 : Cur w b a len cap p') (g i : Nat) (v : Value) (hg : w.heap.size ≤ g) : Went w (W.setCell ⟨g, i, none⟩ v) b a len cap p k := by
  obtain ⟨h1, q, h2, h3, h4⟩ := h
  exact ⟨grown_new1 h1 g i v hg, q, h2, h3, h0.setNew h4 g i v hg⟩
theorem Went.allocW {w W : World} {b : Nat} {a : Option Addr} {len cap : Nat} {p k : Int} (h : Went w W b a len cap p k) (o : Obj) : Went w (W.alloc o) b a len cap p k := by
  obtain ⟨h1, q, h2, h3, h4⟩ := h
  exact ⟨grownBy_alloc h1 o, q, h2, h3, h4.alloc o⟩
theorem Went.step {w W w' : World} {b : Nat} {a : Option Addr} {len cap : Nat} {p q k l : Int} (h1 : w.grownBy W (some b)) (h2 : p ≤ q) (h3 : q ≤ p + k) (h : Went W w' b a len cap q l) : Went w w' b a len cap p (k + l) := by
  obtain ⟨g, r, r0, r1, c⟩ := h
  exact ⟨grownBy_trans h1 g, r, by omega, by omega, c⟩
theorem Blk.by2 {w w' : World} {b : Nat} {cs : Array Value} {ty : TypeId} {row : Option Nat} (h : Blk w b cs ty) (k : w.grownBy w' row) (hn : row ≠ some b) : Blk w' b cs ty := (k.block b h.lt (fun e => hn e.symm)).trans h
section
variable {w W : World} {b : Nat} {a : Option Addr} {len cap : Nat} {p k : Int}
theorem pickW (h : Went w W b a len cap p k) (p0 : 0 ≤ p) (p1 : p + k ≤ 800000) (n : Int) (n0 : 1 ≤ n) (n1 : n ≤ 1000000) :
    Calls Tryd.prog 27 #[.pointer (some ⟨b, 0, none⟩), .int .i64 n] W fun e w' => ∃ r : Int, e = .returned (.int .i64 r) ∧ 0 ≤ r ∧ r < n ∧ Went w w' b a len cap p (k + 2) ∧ W.grownBy w' (some b) := by
  obtain ⟨h1, q, h2, h3, h4⟩ := h
  refine (pick W b a len cap q n h4 (by omega) (by omega) n0 n1).mono ?_
  rintro e w' ⟨r, he, r0, r1, hw⟩
  exact ⟨r, he, r0, r1, Went.step h1 h2 h3 hw, hw.1⟩
theorem oneW (h : Went w W b a len cap p k) (p0 : 0 ≤ p) (p1 : p + k ≤ 800000) (n : Int) (n0 : 1 ≤ n) (n1 : n ≤ 1000000) :
    Calls Tryd.prog 25 #[.pointer (some ⟨b, 0, none⟩), .int .i64 n] W fun e w' => ∃ r : Bool, e = .returned (.bool r) ∧ Went w w' b a len cap p (k + 2) ∧ W.grownBy w' (some b) := by
  obtain ⟨h1, q, h2, h3, h4⟩ := h
  refine (one W b a len cap q n h4 (by omega) (by omega) n0 n1).mono ?_
  rintro e w' ⟨r, he, hw⟩
  exact ⟨r, he, Went.step h1 h2 h3 hw, hw.1⟩
theorem amongW (h : Went w W b a len cap p k) (p0 : 0 ≤ p) (p1 : p + k ≤ 800000) (xs : List Int) (lo hi : Int) (hx : ∀ x ∈ xs, lo ≤ x ∧ x ≤ hi) (n c : Nat) (hn : n = xs.length) (k0 : 1 ≤ n) (k1 : n ≤ 1000) :
    Calls Tryd.prog 54 #[.pointer (some ⟨b, 0, none⟩), .slice (some ⟨W.heap.size, 0, none⟩) n c] (W.alloc (.cells (xs.map (Value.int .i64)).toArray 3)) fun e w' => ∃ r : Int, e = .returned (.int .i64 r) ∧ lo ≤ r ∧ r ≤ hi ∧ Went w w' b a len cap p (k + 2) ∧ W.grownBy w' (some b) := by
  obtain ⟨h1, q, h2, h3, h4⟩ := h
  have hb := h4.lt
  subst hn
  refine (among _ b a len cap q W.heap.size xs.length c lo hi (h4.alloc _) (by omega) (by omega) k0 k1 (by omega) (lits W xs lo hi hx)).mono ?_
  rintro e w' ⟨r, he, r0, r1, hw⟩
  exact ⟨r, he, r0, r1, Went.step h1 h2 h3 hw.alloc, (hw.alloc).1⟩
theorem valueW (h : Went w W b a len cap p k) (p0 : 0 ≤ p) (p1 : p + k ≤ 800000) :
    Calls Tryd.prog 26 #[.pointer (some ⟨b, 0, none⟩)] W fun e w' => ∃ r : Int, e = .returned (.int .i64 r) ∧ -1 ≤ r ∧ r ≤ 65536 ∧ Went w w' b a len cap p (k + 8) ∧ W.grownBy w' (some b) := by
  obtain ⟨h1, q, h2, h3, h4⟩ := h
  refine (value W b a len cap q h4 (by omega) (by omega)).mono ?_
  rintro e w' ⟨r, he, r0, r1, hw⟩
  exact ⟨r, he, r0, r1, Went.step h1 h2 h3 hw, hw.1⟩
end
end Go.Proofs.YtlbnllhabdnjjaaDoor
