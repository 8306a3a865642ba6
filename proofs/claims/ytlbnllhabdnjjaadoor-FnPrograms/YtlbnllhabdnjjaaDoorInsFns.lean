/- What the laws' own functions over lists of Ins do (structs of 7 whole numbers, laid one behind the other): compare, copy, mark. A list of n is spoken of as the row of its 7 * n numbers. -/
import Derived.Test.YtlbnllhabdnjjaaDoorGrA
namespace Go.Proofs.YtlbnllhabdnjjaaDoor
open Go.RowKit
set_option linter.unusedVariables false

theorem IRow.at7 {w : World} {a : Option Addr} {xs : List Int} (h : IRow w a xs) {n k : Nat} (hl : xs.length = 7 * n) (hk : k < n) :
    ∃ g off : Nat, a = some ⟨g, off, none⟩ ∧ w.cell? ⟨g, off + k * 7, none⟩ = some (.int .i64 (el xs (k * 7))) ∧ w.cell? ⟨g, off + k * 7 + 1, none⟩ = some (.int .i64 (el xs (k * 7 + 1))) ∧ w.cell? ⟨g, off + k * 7 + 2, none⟩ = some (.int .i64 (el xs (k * 7 + 2))) ∧ w.cell? ⟨g, off + k * 7 + 3, none⟩ = some (.int .i64 (el xs (k * 7 + 3))) ∧ w.cell? ⟨g, off + k * 7 + 4, none⟩ = some (.int .i64 (el xs (k * 7 + 4))) ∧ w.cell? ⟨g, off + k * 7 + 5, none⟩ = some (.int .i64 (el xs (k * 7 + 5))) ∧ w.cell? ⟨g, off + k * 7 + 6, none⟩ = some (.int .i64 (el xs (k * 7 + 6))) := by
  obtain ⟨g, off, ea, c0⟩ := h (k * 7) (by omega)
  have pick : ∀ j, j < 7 → w.cell? ⟨g, off + k * 7 + j, none⟩ = some (.int .i64 (el xs (k * 7 + j))) := by
    intro j hj
    obtain ⟨g', off', ea', c⟩ := h (k * 7 + j) (by omega)
    rw [ea] at ea'
    cases ea'
    rw [Nat.add_assoc]; exact c
  exact ⟨g, off, ea, c0, pick 1 (by decide), pick 2 (by decide), pick 3 (by decide), pick 4 (by decide), pick 5 (by decide), pick 6 (by decide)⟩

theorem Own.at7 {w : World} {g : Nat} {xs : List Int} (h : Own w g xs) {n k : Nat} (hl : xs.length = 7 * n) (hk : k < n) :
    (w.cell? ⟨g, k * 7, none⟩ = some (.int .i64 (el xs (k * 7))) ∧ w.cell? ⟨g, k * 7 + 1, none⟩ = some (.int .i64 (el xs (k * 7 + 1))) ∧ w.cell? ⟨g, k * 7 + 2, none⟩ = some (.int .i64 (el xs (k * 7 + 2))) ∧ w.cell? ⟨g, k * 7 + 3, none⟩ = some (.int .i64 (el xs (k * 7 + 3))) ∧ w.cell? ⟨g, k * 7 + 4, none⟩ = some (.int .i64 (el xs (k * 7 + 4))) ∧ w.cell? ⟨g, k * 7 + 5, none⟩ = some (.int .i64 (el xs (k * 7 + 5))) ∧ w.cell? ⟨g, k * 7 + 6, none⟩ = some (.int .i64 (el xs (k * 7 + 6)))) ∧ w.frozen? ⟨g, k * 7, none⟩ = false ∧ w.frozen? ⟨g, k * 7 + 1, none⟩ = false ∧ w.frozen? ⟨g, k * 7 + 2, none⟩ = false ∧ w.frozen? ⟨g, k * 7 + 3, none⟩ = false ∧ w.frozen? ⟨g, k * 7 + 4, none⟩ = false ∧ w.frozen? ⟨g, k * 7 + 5, none⟩ = false ∧ w.frozen? ⟨g, k * 7 + 6, none⟩ = false :=
  ⟨⟨(h (k * 7) (by omega)).1, (h (k * 7 + 1) (by omega)).1, (h (k * 7 + 2) (by omega)).1, (h (k * 7 + 3) (by omega)).1, (h (k * 7 + 4) (by omega)).1, (h (k * 7 + 5) (by omega)).1, (h (k * 7 + 6) (by omega)).1⟩, (h (k * 7) (by omega)).2, (h (k * 7 + 1) (by omega)).2, (h (k * 7 + 2) (by omega)).2, (h (k * 7 + 3) (by omega)).2, (h (k * 7 + 4) (by omega)).2, (h (k * 7 + 5) (by omega)).2, (h (k * 7 + 6) (by omega)).2⟩

theorem snoc7 {p : Nat → Prop} {k : Nat} (h : ∀ i, i < k * 7 → p i) (h0 : p (k * 7)) (h1 : p (k * 7 + 1)) (h2 : p (k * 7 + 2)) (h3 : p (k * 7 + 3)) (h4 : p (k * 7 + 4)) (h5 : p (k * 7 + 5)) (h6 : p (k * 7 + 6)) : ∀ i, i < (k + 1) * 7 → p i := by
  intro i hi
  by_cases e : i < k * 7
  · exact h i e
  · obtain rfl | rfl | rfl | rfl | rfl | rfl | rfl : i = k * 7 ∨ i = k * 7 + 1 ∨ i = k * 7 + 2 ∨ i = k * 7 + 3 ∨ i = k * 7 + 4 ∨ i = k * 7 + 5 ∨ i = k * 7 + 6 := by omega
    all_goals assumption

/-- 7 places of a row, written -/
def set7 (xs : List Int) (k : Nat) (a b c d e f x : Int) : List Int := (((((((xs.set (k * 7) a).set (k * 7 + 1) b).set (k * 7 + 2) c).set (k * 7 + 3) d).set (k * 7 + 4) e).set (k * 7 + 5) f).set (k * 7 + 6) x)
theorem set7_len (xs : List Int) (k : Nat) (a b c d e f x : Int) : (set7 xs k a b c d e f x).length = xs.length := by simp [set7]
theorem set7_old {xs : List Int} {k : Nat} {a b c d e f x : Int} {i : Nat} (h : i < k * 7) : el (set7 xs k a b c d e f x) i = el xs i := by
  unfold el set7
  rw [List.getElem?_set_ne (by omega), List.getElem?_set_ne (by omega), List.getElem?_set_ne (by omega), List.getElem?_set_ne (by omega), List.getElem?_set_ne (by omega), List.getElem?_set_ne (by omega), List.getElem?_set_ne (by omega)]

theorem set7_new {xs : List Int} {k : Nat} {a b c d e f x : Int} (h : k * 7 + 6 < xs.length) : el (set7 xs k a b c d e f x) (k * 7) = a ∧ el (set7 xs k a b c d e f x) (k * 7 + 1) = b ∧ el (set7 xs k a b c d e f x) (k * 7 + 2) = c ∧ el (set7 xs k a b c d e f x) (k * 7 + 3) = d ∧ el (set7 xs k a b c d e f x) (k * 7 + 4) = e ∧ el (set7 xs k a b c d e f x) (k * 7 + 5) = f ∧ el (set7 xs k a b c d e f x) (k * 7 + 6) = x := by
  unfold el set7
  refine ⟨?_, ?_, ?_, ?_, ?_, ?_, ?_⟩
  · rw [List.getElem?_set_ne (by omega), List.getElem?_set_ne (by omega), List.getElem?_set_ne (by omega), List.getElem?_set_ne (by omega), List.getElem?_set_ne (by omega), List.getElem?_set_ne (by omega), List.getElem?_set_self (by omega)]; rfl
  · rw [List.getElem?_set_ne (by omega), List.getElem?_set_ne (by omega), List.getElem?_set_ne (by omega), List.getElem?_set_ne (by omega), List.getElem?_set_ne (by omega), List.getElem?_set_self (by simp; omega)]; rfl
  · rw [List.getElem?_set_ne (by omega), List.getElem?_set_ne (by omega), List.getElem?_set_ne (by omega), List.getElem?_set_ne (by omega), List.getElem?_set_self (by simp; omega)]; rfl
  · rw [List.getElem?_set_ne (by omega), List.getElem?_set_ne (by omega), List.getElem?_set_ne (by omega), List.getElem?_set_self (by simp; omega)]; rfl
  · rw [List.getElem?_set_ne (by omega), List.getElem?_set_ne (by omega), List.getElem?_set_self (by simp; omega)]; rfl
  · rw [List.getElem?_set_ne (by omega), List.getElem?_set_self (by simp; omega)]; rfl
  · rw [List.getElem?_set_self (by simp; omega)]; rfl

theorem Own.set7 {w : World} {g : Nat} {xs : List Int} (h : Own w g xs) (k : Nat) (a b c d e f x : Int) :
    Own (((((((w.setCell ⟨g, k * 7, none⟩ (.int .i64 a)).setCell ⟨g, k * 7 + 1, none⟩ (.int .i64 b)).setCell ⟨g, k * 7 + 2, none⟩ (.int .i64 c)).setCell ⟨g, k * 7 + 3, none⟩ (.int .i64 d)).setCell ⟨g, k * 7 + 4, none⟩ (.int .i64 e)).setCell ⟨g, k * 7 + 5, none⟩ (.int .i64 f)).setCell ⟨g, k * 7 + 6, none⟩ (.int .i64 x)) g (set7 xs k a b c d e f x) := (((((((h.set a).set b).set c).set d).set e).set f).set x)

theorem grown_set7 {w wr : World} {g : Nat} {row : Option Nat} (h : w.grownBy wr row) (hr : row = some g ∨ w.heap.size ≤ g) (k0 k1 k2 k3 k4 k5 k6 : Nat) (v0 v1 v2 v3 v4 v5 v6 : Value) :
    w.grownBy (((((((wr.setCell ⟨g, k0, none⟩ v0).setCell ⟨g, k1, none⟩ v1).setCell ⟨g, k2, none⟩ v2).setCell ⟨g, k3, none⟩ v3).setCell ⟨g, k4, none⟩ v4).setCell ⟨g, k5, none⟩ v5).setCell ⟨g, k6, none⟩ v6) row := by
  have one : ∀ {wx : World} (k : Nat) (v : Value), w.grownBy wx row → w.grownBy (wx.setCell ⟨g, k, none⟩ v) row := fun {wx} k v hx =>
    ⟨hx.os, hx.tape, hx.output, by simpa using hx.size, fun j hj hne => (Below.heap_setCell _ _ _ _ (by
      rcases hr with rfl | hr
      · intro q; apply hne; rw [q]
      · simp; omega)).trans (hx.block j hj hne)⟩
  exact (one _ _ (one _ _ (one _ _ (one _ _ (one _ _ (one _ _ (one _ _ h)))))))
theorem el_marks7 (q : Int) (n i : Nat) (h : i < n) : el (marks q n) i = q + (i : Int) := marks_at q n i h

theorem toOpnd (d e f : Int) (w : World) :
    Calls Tryd.prog 36 #[.agg #[.int .i64 d, .int .i64 e, .int .i64 f]] w fun r w' => r = .returned (.agg #[.int .i64 d, .int .i64 e, .int .i64 f]) ∧ Kept 0 0 w w' := by
  go_enter Tryd.func36, Tryd.ntmps36
  go_wp2
  refine bodyPost_ret (v := .agg #[.int .i64 d, .int .i64 e, .int .i64 f]) ?_ rfl ⟨rfl, kept_new (kept_new (kept_alloc w _) _) _⟩
  rw [results_one rfl]; go_simp
theorem toIns (a b c d e f x : Int) (w : World) :
    Calls Tryd.prog 18 #[.agg #[.int .i64 a, .int .i64 b, .int .i64 c, .int .i64 d, .int .i64 e, .int .i64 f, .int .i64 x]] w fun r w' => r = .returned (.agg #[.int .i64 a, .int .i64 b, .int .i64 c, .int .i64 d, .int .i64 e, .int .i64 f, .int .i64 x]) ∧ Kept 0 0 w w' := by
  have K0 := hide (kept_new (kept_new (kept_alloc w (.cells #[.int .i64 a, .int .i64 b, .int .i64 c, .int .i64 d, .int .i64 e, .int .i64 f, .int .i64 x] 45)) (.cells #[.int .i64 0, .int .i64 0, .int .i64 0, .int .i64 0, .int .i64 0, .int .i64 0, .int .i64 0] 36)) (.cells #[.int .i64 a, .int .i64 b, .int .i64 c, .int .i64 0, .int .i64 0, .int .i64 0, .int .i64 0] 36))
  have P0 := hide (((Blk.new w #[.int .i64 a, .int .i64 b, .int .i64 c, .int .i64 d, .int .i64 e, .int .i64 f, .int .i64 x] 45).alloc (.cells #[.int .i64 0, .int .i64 0, .int .i64 0, .int .i64 0, .int .i64 0, .int .i64 0, .int .i64 0] 36)).alloc (.cells #[.int .i64 a, .int .i64 b, .int .i64 c, .int .i64 0, .int .i64 0, .int .i64 0, .int .i64 0] 36))
  have R0 := (Blk.new (w.alloc (.cells #[.int .i64 a, .int .i64 b, .int .i64 c, .int .i64 d, .int .i64 e, .int .i64 f, .int .i64 x] 45)) #[.int .i64 0, .int .i64 0, .int .i64 0, .int .i64 0, .int .i64 0, .int .i64 0, .int .i64 0] 36).alloc (.cells #[.int .i64 a, .int .i64 b, .int .i64 c, .int .i64 0, .int .i64 0, .int .i64 0, .int .i64 0] 36)
  have X0 := Blk.new ((w.alloc (.cells #[.int .i64 a, .int .i64 b, .int .i64 c, .int .i64 d, .int .i64 e, .int .i64 f, .int .i64 x] 45)).alloc (.cells #[.int .i64 0, .int .i64 0, .int .i64 0, .int .i64 0, .int .i64 0, .int .i64 0, .int .i64 0] 36)) #[.int .i64 a, .int .i64 b, .int .i64 c, .int .i64 0, .int .i64 0, .int .i64 0, .int .i64 0] 36
  simp only [World.size_alloc] at R0 X0
  replace R0 := hide R0
  replace X0 := hide X0
  go_enter Tryd.func18, Tryd.ntmps18
  go_wp2_with (first | (go_at_call 36; refine (toOpnd d e f _).mono ?_; rintro r9 w2 ⟨rfl, k2⟩; have P2 := hide (P0.out.kept0 k2); have R2 := hide (R0.out.kept0 k2); have X2 := hide (X0.out.kept0 k2); have K2 := hide (K0.out.trans k2); have p0 := P2.out.cell (i := 0) rfl; have p1 := P2.out.cell (i := 1) rfl; have p2 := P2.out.cell (i := 2) rfl; have p3 := P2.out.cell (i := 3) rfl; have p4 := P2.out.cell (i := 4) rfl; have p5 := P2.out.cell (i := 5) rfl; have p6 := P2.out.cell (i := 6) rfl; have r0 := R2.out.cell (i := 0) rfl; have fr0 := R2.out.frozen 0; have r1 := R2.out.cell (i := 1) rfl; have fr1 := R2.out.frozen 1; have r2 := R2.out.cell (i := 2) rfl; have fr2 := R2.out.frozen 2; have r3 := R2.out.cell (i := 3) rfl; have fr3 := R2.out.frozen 3; have r4 := R2.out.cell (i := 4) rfl; have fr4 := R2.out.frozen 4; have r5 := R2.out.cell (i := 5) rfl; have fr5 := R2.out.frozen 5; have r6 := R2.out.cell (i := 6) rfl; have fr6 := R2.out.frozen 6; have y0 := X2.out.cell (i := 0) rfl; have fy0 := X2.out.frozen 0; have y1 := X2.out.cell (i := 1) rfl; have fy1 := X2.out.frozen 1; have y2 := X2.out.cell (i := 2) rfl; have fy2 := X2.out.frozen 2; have y3 := X2.out.cell (i := 3) rfl; have fy3 := X2.out.frozen 3; have y4 := X2.out.cell (i := 4) rfl; have fy4 := X2.out.frozen 4; have y5 := X2.out.cell (i := 5) rfl; have fy5 := X2.out.frozen 5; have y6 := X2.out.cell (i := 6) rfl; have fy6 := X2.out.frozen 6; have s2 := X2.out.lt; clear k2))
  refine bodyPost_ret (v := .agg #[.int .i64 a, .int .i64 b, .int .i64 c, .int .i64 d, .int .i64 e, .int .i64 f, .int .i64 x]) ?_ rfl ⟨rfl, ?_⟩
  · rw [results_one rfl]; go_simp
  · exact (kept_set (kept_set (kept_set (kept_set (kept_set (kept_set (kept_set (kept_set (kept_set (kept_set (kept_set K2.out _ _ _ (.inr (by omega))) _ _ _ (.inr (by omega))) _ _ _ (.inr (by omega))) _ _ _ (.inr (by omega))) _ _ _ (.inr (by omega))) _ _ _ (.inr (by omega))) _ _ _ (.inr (by omega))) _ _ _ (.inr (by omega))) _ _ _ (.inr (by omega))) _ _ _ (.inr (by omega))) _ _ _ (.inr (by omega)))
theorem Tryd.infoIns : (Tryd.prog.info? 36).map (fun i => (i.zero, i.size, i.bytes)) = some (some (.agg #[.int .i64 0, .int .i64 0, .int .i64 0, .int .i64 0, .int .i64 0, .int .i64 0, .int .i64 0]), 7, 56) := by kernel_rfl
theorem made7 (n : Nat) : (madeCells (Value.agg #[.int .i64 0, .int .i64 0, .int .i64 0, .int .i64 0, .int .i64 0, .int .i64 0, .int .i64 0]).cells (n * 7)).toList = (List.replicate (7 * n) (0 : Int)).map (Value.int .i64) := by
  have hz : ∀ j, j < 7 → (Value.agg #[.int .i64 0, .int .i64 0, .int .i64 0, .int .i64 0, .int .i64 0, .int .i64 0, .int .i64 0]).cells[j]! = .int .i64 0 := by
    intro j hj
    obtain rfl | rfl | rfl | rfl | rfl | rfl | rfl : j = 0 ∨ j = 1 ∨ j = 2 ∨ j = 3 ∨ j = 4 ∨ j = 5 ∨ j = 6 := by omega
    all_goals rfl
  have hs : (Value.agg #[.int .i64 0, .int .i64 0, .int .i64 0, .int .i64 0, .int .i64 0, .int .i64 0, .int .i64 0]).cells.size = 7 := rfl
  apply List.ext_getElem
  · simp [size_madeCells]; omega
  · intro i h1 h2
    simp only [madeCells, hs, Array.toList_map, List.getElem_map, List.getElem_replicate]
    exact hz _ (Nat.mod_lt _ (by decide))
theorem own_of_row7 {w : World} {base g n cap : Nat} {xs : List Int} (h : w.ownsRow base 36 7 (.slice (some ⟨g, 0, none⟩) n cap) n (xs.map (Value.int .i64))) : Own w g xs := by
  intro i hi
  rcases h with ⟨hl, ⟨e, _⟩ | ⟨g', cap', cur, e, _, hgg, hn, _, hsz, ht⟩⟩
  · cases e
  · cases e
    simp at hl
    have hc : cur[i]? = some (.int .i64 (xs[i]?.getD 0)) := by
      have : (cur.toList.take (n * 7))[i]? = (xs.map (Value.int .i64))[i]? := by rw [ht]
      rw [List.getElem?_take, if_pos (by omega)] at this
      simpa [hi] using this
    refine ⟨?_, ?_⟩
    · simp [World.cell?, hgg, hc]
    · simp [World.frozen?, hgg]

end Go.Proofs.YtlbnllhabdnjjaaDoor
