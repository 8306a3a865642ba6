/- What the laws' own functions do that copy a list of whole numbers, mark it, and look for the marks. -/
import Derived.Test.YtjgcadighogmkaaInts
namespace Go.Proofs.Ytjgcadighogmkaa
open Go.RowKit
set_option linter.unusedVariables false

/-- a list of whole numbers that may be written, from the head of block g on -/
def Own (w : World) (g : Nat) (xs : List Int) : Prop :=
  ∀ i : Nat, i < xs.length → w.cell? ⟨g, i, none⟩ = some (.int .i64 (xs[i]?.getD 0)) ∧ w.frozen? ⟨g, i, none⟩ = false

theorem Own.kept {w w' : World} {g : Nat} {xs : List Int} {row : Option Nat} (h : Own w g xs) (hg : w.grownBy w' row) (hne : some g ≠ row) : Own w' g xs := by
  intro i hi
  obtain ⟨hc, hf⟩ := h i hi
  exact ⟨hg.cell hc hne, by rw [World.frozen?_of_block (w := w) (hg.block g (World.block_lt_of_cell? _ _ hc) hne)]; exact hf⟩

theorem Own.row {w : World} {g : Nat} {xs : List Int} (h : Own w g xs) : IRow w (some ⟨g, 0, none⟩) xs := by
  intro i hi
  exact ⟨g, 0, rfl, by simpa using (h i hi).1⟩

theorem Own.set {w : World} {g k : Nat} {xs : List Int} (h : Own w g xs) (z : Int) : Own (w.setCell ⟨g, k, none⟩ (.int .i64 z)) g (xs.set k z) := by
  intro i hi
  rw [List.length_set] at hi
  obtain ⟨hc, hf⟩ := h i hi
  refine ⟨?_, by simpa using hf⟩
  by_cases e : k = i
  · subst e
    rw [World.cell?_setCell_same _ _ _ hc]
    simp [hi]
  · rw [World.cell?_setCell_other _ _ _ _ (fun q => e (congrArg Addr.off q)), hc]
    simp [e]

theorem own_of_row {w : World} {base g n cap : Nat} {xs : List Int} (h : w.ownsRow base 3 1 (.slice (some ⟨g, 0, none⟩) n cap) n (xs.map (Value.int .i64))) : Own w g xs := by
  intro i hi
  have hc := h.cells (g := g) rfl i (.int .i64 (xs[i]?.getD 0)) (by simp [hi])
  have hadd : (⟨g, 0, none⟩ : Addr).add i = ⟨g, i, none⟩ := by unfold Addr.add; split <;> simp_all
  rw [hadd] at hc
  refine ⟨hc, ?_⟩
  rcases h.2 with ⟨e, _⟩ | ⟨g', cap', cur, e, _, hgg, _⟩
  · cases e
  · cases e
    simp [World.frozen?, hgg]

theorem copied {w wr : World} {xs zs : List Int} {k : Nat} (hlt : k < xs.length) (hl : zs.length = xs.length) (hown : Own wr w.heap.size zs) (heq : ∀ i, i < k → zs[i]?.getD 0 = xs[i]?.getD 0) (hsz : w.heap.size < wr.heap.size) (hg : w.grownBy wr none) :
    ∃ (k' : Nat) (zs' : List Int), k' ≤ xs.length ∧ Value.int .i64 ((k : Int) + 1) = .int .i64 k' ∧ zs'.length = xs.length ∧ Own (wr.setCell ⟨w.heap.size, k, none⟩ (.int .i64 xs[k])) w.heap.size zs' ∧ (∀ i, i < k' → zs'[i]?.getD 0 = xs[i]?.getD 0) ∧ w.heap.size < (wr.setCell ⟨w.heap.size, k, none⟩ (.int .i64 xs[k])).heap.size ∧ w.grownBy (wr.setCell ⟨w.heap.size, k, none⟩ (.int .i64 xs[k])) none := by
  refine ⟨k + 1, zs.set k xs[k], by omega, by go_num, by simpa using hl, hown.set _, ?_, by simpa using hsz, ?_⟩
  · intro i hi
    by_cases e : k = i
    · subst e; simp [hl, hlt]
    · rw [List.getElem?_set_ne e]; exact heq i (by omega)
  · exact ⟨hg.os, hg.tape, hg.output, by simpa using hg.size, fun j hj hne => (Below.heap_setCell _ _ _ _ (by simp; omega)).trans (hg.block j hj hne)⟩

theorem Try.info3 : (Try.prog.info? 3).map (fun i => (i.zero, i.size, i.bytes)) = some (some (.int .i64 0), 1, 8) := by kernel_rfl

/-- the marks: from k on, one more each -/
def marks (k : Int) (n : Nat) : List Int := (List.range n).map (fun (i : Nat) => k + (i : Int))
theorem marks_len (k : Int) (n : Nat) : (marks k n).length = n := by simp [marks]
theorem marks_at (k : Int) (n i : Nat) (h : i < n) : (marks k n)[i]?.getD 0 = k + (i : Int) := by simp [marks, h]

theorem marked {w wr : World} {g n : Nat} {q : Int} {zs : List Int} {k : Nat} (hlt : k < n) (hl : zs.length = n) (hown : Own wr g zs) (heq : ∀ i, i < k → zs[i]?.getD 0 = q + (i : Int)) (hg : w.grownBy wr (some g)) :
    ∃ (k' : Nat) (zs' : List Int), k' ≤ n ∧ Value.int .i64 ((k : Int) + 1) = .int .i64 k' ∧ Value.int .i64 (q + (k : Int) + 1) = .int .i64 (q + (k' : Int)) ∧ zs'.length = n ∧ Own (wr.setCell ⟨g, k, none⟩ (.int .i64 (q + (k : Int)))) g zs' ∧ (∀ i, i < k' → zs'[i]?.getD 0 = q + (i : Int)) ∧ w.grownBy (wr.setCell ⟨g, k, none⟩ (.int .i64 (q + (k : Int)))) (some g) := by
  refine ⟨k + 1, zs.set k (q + (k : Int)), by omega, by go_num, by rw [show q + (k : Int) + 1 = q + ((k + 1 : Nat) : Int) from by omega], by simpa using hl, hown.set _, ?_, grownBy_trans hg (grownBy_set _ _ _ _)⟩
  intro i hi
  by_cases e : k = i
  · subst e; simp [hl, hlt]
  · rw [List.getElem?_set_ne e]; exact heq i (by omega)

theorem markIntS (w : World) (g ca : Nat) (xs : List Int) (q : Int) (ha : Own w g xs) (lx : xs.length ≤ 2000000) (q0 : 0 ≤ q) (q1 : q ≤ 100000000) :
    Calls Try.prog 35 #[.slice (some ⟨g, 0, none⟩) xs.length ca, .int .i64 q] w fun e w' => e = .returned (.int .i64 (q + (xs.length : Int))) ∧ Own w' g (marks q xs.length) ∧ w.grownBy w' (some g) := by
  go_enter Try.func35, Try.ntmps35
  go_wp2
  go_loopw [1, 5] (fun m j wr => ∃ (k : Nat) (zs : List Int), k ≤ xs.length ∧ j = .int .i64 k ∧ m = .int .i64 (q + (k : Int)) ∧ zs.length = xs.length ∧ Own wr g zs ∧ (∀ i, i < k → zs[i]?.getD 0 = q + (i : Int)) ∧ w.grownBy wr (some g)) (fun _ j _ => xs.length - (intOf j).toNat)
  case atStart => exact ⟨0, xs, Nat.zero_le _, rfl, by simp, rfl, ha, fun i hi => absurd hi (Nat.not_lt_zero i), World.grownBy.refl _ _⟩
  case round =>
    obtain ⟨k, zs, hk, rfl, rfl, hl, hown, heq, hgr⟩ := hrel
    have HE : Hid (∀ i, i < k → zs[i]?.getD 0 = q + (i : Int)) := heq
    have HL : Hid (zs.length = xs.length) := hl
    by_cases hlt : k < xs.length
    · obtain ⟨hc2, hf2⟩ := hown k (by omega)
      clear heq ha hl
      go_wp2
      go_roundw
      case rel => exact marked hlt HL.out hown HE.out hgr
      case measure => simp [intOf]; omega
    · clear heq hl
      obtain rfl : k = xs.length := by omega
      go_wp2
      go_ret
      have e : zs = marks q xs.length := ext_of (by rw [marks_len]; exact HL.out) (fun i hi => by rw [marks_at q _ i (by have := HL.out; omega)]; exact HE.out i (by have := HL.out; omega))
      exact ⟨rfl, by rw [← e]; exact hown, hgr⟩

theorem heldIntS (w : World) (a : Option Addr) (ca n : Nat) (q : Int) (ha : IRow w a (marks q n)) (lx : n ≤ 2000000) (q0 : 0 ≤ q) (q1 : q ≤ 100000000) :
    Calls Try.prog 36 #[.slice a n ca, .int .i64 q] w fun e w' => e = .returned (.int .i64 (q + (n : Int))) ∧ w.grownBy w' none := by
  go_enter Try.func36, Try.ntmps36
  go_wp2
  go_loopw [1, 5] (fun m j wr => ∃ k : Nat, k ≤ n ∧ j = .int .i64 k ∧ m = .int .i64 (q + (k : Int)) ∧ w.grownBy wr none) (fun _ j _ => n - (intOf j).toNat)
  case atStart => exact ⟨0, Nat.zero_le _, rfl, by simp, World.grownBy.refl _ _⟩
  case round =>
    obtain ⟨k, hk, rfl, rfl, hgr⟩ := hrel
    by_cases hlt : k < n
    · obtain ⟨g1, o1, rfl, hc1⟩ := ha.kept hgr k (by rw [marks_len]; exact hlt)
      rw [marks_at q n k hlt] at hc1
      clear ha
      go_wp2
      go_roundw
      case rel => exact ⟨k + 1, by omega, by go_num, by rw [show q + (k : Int) + 1 = q + ((k + 1 : Nat) : Int) from by omega], hgr⟩
      case measure => simp [intOf]; omega
    · obtain rfl : k = n := by omega
      go_wp2
      go_ret
      exact ⟨rfl, hgr⟩

end Go.Proofs.Ytjgcadighogmkaa
