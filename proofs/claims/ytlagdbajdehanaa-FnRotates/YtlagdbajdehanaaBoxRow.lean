/- A row of bits (the program's struct of five fields), laid in a block of its own: what it holds, and what later worlds leave of it. -/
import Derived.Test.YtlagdbajdehanaaDrawn
import Derived.Laws.Rows
import Derived.Laws.ResultCell
namespace Go.Proofs.Ytlagdbajdehanaa
open Go.RowKit
set_option linter.unusedVariables false
set_option linter.unusedSimpArgs false
theorem store_func (a : Addr) (fn : Fn) (m : Mode) (w : World) : (store a (.func fn #[] #[]) m).run Try.prog w = stored Try.prog w a (.func fn #[] #[]) m := run_store Try.prog w a _ m rfl
theorem undrew {B : Nat} {w wt : World} (h : Below B w.drew wt) : Below B w wt := ⟨h.os, h.tape, h.output, h.size, h.block⟩
/-- a row of bits, laid in block b -/
def Box (w : World) (b : Nat) (v s x f : Int) (t : Bool) : Prop := w.heap[b]? = some (.cells #[.int .i64 v, .int .i64 s, .int .i64 x, .int .i64 f, .bool t] 53)
theorem Box.later {w wt : World} {b : Nat} {v s x f : Int} {t : Bool} (h : Box w b v s x f t) (hb : Below w.heap.size w wt) : Box wt b v s x f t := by
  have lt : b < w.heap.size := by
    unfold Box at h
    rcases Nat.lt_or_ge b w.heap.size with h' | h'
    · exact h'
    · rw [Array.getElem?_eq_none h'] at h; cases h
  exact (hb.block b lt).trans h
theorem Box.cells {w : World} {b : Nat} {v s x f : Int} {t : Bool} (h : Box w b v s x f t) :
    w.cell? ⟨b, 0, none⟩ = some (.int .i64 v) ∧ w.cell? ⟨b, 1, none⟩ = some (.int .i64 s) ∧ w.cell? ⟨b, 2, none⟩ = some (.int .i64 x) ∧ w.cell? ⟨b, 3, none⟩ = some (.int .i64 f) ∧ w.cell? ⟨b, 4, none⟩ = some (.bool t) ∧
    w.frozen? ⟨b, 0, none⟩ = false ∧ w.frozen? ⟨b, 1, none⟩ = false ∧ w.frozen? ⟨b, 2, none⟩ = false ∧ w.frozen? ⟨b, 3, none⟩ = false ∧ w.frozen? ⟨b, 4, none⟩ = false := by
  unfold Box at h
  refine ⟨?_, ?_, ?_, ?_, ?_, ?_, ?_, ?_, ?_, ?_⟩ <;> simp [World.cell?, World.frozen?, h]
theorem results_box {fn : Func} {p : Tmp} (h : fn.results = #[.cell p 53]) (tmps : Array Value) {w : World} {b : Nat} {v s x f : Int} {t : Bool} (hp : tmps.getD p undef = .pointer (some ⟨b, 0, none⟩)) (hB : Box w b v s x f t) :
    (results fn tmps).run Try.prog w = .ok (.agg #[.int .i64 v, .int .i64 s, .int .i64 x, .int .i64 f, .bool t]) w :=
  results_cell_row h tmps w b _ _ _ _ hp hB (Try.underlying53) rfl (by kernel_rfl)
theorem Box.set {w : World} {b : Nat} {v s x f v' s' x' f' : Int} {t t' : Bool} (h : Box w b v s x f t) :
    Box (((((w.setCell ⟨b, 0, none⟩ (.int .i64 v')).setCell ⟨b, 1, none⟩ (.int .i64 s')).setCell ⟨b, 2, none⟩ (.int .i64 x')).setCell ⟨b, 3, none⟩ (.int .i64 f')).setCell ⟨b, 4, none⟩ (.bool t')) b v' s' x' f' t' := by
  unfold Box at h ⊢
  simp [World.setCell, Array.getElem?_modify, h]
theorem Box.new0 (w : World) (v s x f : Int) (t : Bool) : Box (w.alloc (.cells #[.int .i64 v, .int .i64 s, .int .i64 x, .int .i64 f, .bool t] 53)) w.heap.size v s x f t := heap_alloc_new w _
theorem Box.lt {w : World} {b : Nat} {v s x f : Int} {t : Bool} (h : Box w b v s x f t) : b < w.heap.size := World.block_lt_of_cell? _ _ h.cells.1
theorem Box.two {w : World} {b : Nat} {v s x f : Int} {t : Bool} (h : Box w b v s x f t) (o1 o2 : Obj) : Box ((w.alloc o1).alloc o2) b v s x f t :=
  h.later (((Below.refl _ w).alloc (Nat.le_refl _) o1).alloc (by simp) o2)
theorem Box.set4 {w : World} {b : Nat} {v s x f : Int} {t t' : Bool} (h : Box w b v s x f t) : Box (w.setCell ⟨b, 4, none⟩ (.bool t')) b v s x f t' := by
  unfold Box at h ⊢
  simp [World.setCell, Array.getElem?_modify, h]
theorem Below.set5 {B : Nat} {a w : World} (h : Below B a w) {b : Nat} (hb : B ≤ b) (v0 v1 v2 v3 v4 : Value) :
    Below B a (((((w.setCell ⟨b, 0, none⟩ v0).setCell ⟨b, 1, none⟩ v1).setCell ⟨b, 2, none⟩ v2).setCell ⟨b, 3, none⟩ v3).setCell ⟨b, 4, none⟩ v4) :=
  ((((h.setCell hb _).setCell hb _).setCell hb _).setCell hb _).setCell hb _
theorem Box.new1 (w : World) (v s x f : Int) (t : Bool) (o1 : Obj) (o2 : Obj) : Box (((w.alloc (.cells #[.int .i64 v, .int .i64 s, .int .i64 x, .int .i64 f, .bool t] 53)).alloc o1).alloc o2) w.heap.size v s x f t := by
  unfold Box
  rw [Below.heap_alloc _ _ _ (by simp <;> omega), Below.heap_alloc _ _ _ (by simp)]
  exact heap_alloc_new w _
theorem Box.new2 (w : World) (v s x f : Int) (t : Bool) (o1 : Obj) (o2 : Obj) : Box (((w.alloc o1).alloc (.cells #[.int .i64 v, .int .i64 s, .int .i64 x, .int .i64 f, .bool t] 53)).alloc o2) (w.heap.size + 1) v s x f t := by
  unfold Box
  rw [Below.heap_alloc _ _ _ (by simp)]
  exact heap_alloc2_new w _ _

end Go.Proofs.Ytlagdbajdehanaa
