/- What the laws' own functions over lists of Ins do (structs of 7 whole numbers, laid one behind the other): compare, copy, mark. A list of n is spoken of as the row of its 7 * n numbers. -/
import Derived.Test.YtlbnllhabdnjjaaFrame
namespace Go.Proofs.Ytlbnllhabdnjjaa
open Go.RowKit
set_option linter.unusedVariables false

theorem IRow.at7 {w : World} {a : Option Addr} {xs : List Int} (h : IRow w a xs) {n k : Nat} (hl : xs.length = 7 * n) (hk : k < n) :
    ∃ g off : Nat, a = some ⟨g, off, none⟩ ∧ w.cell? ⟨g, off + k * 7, none⟩ = some (.int .i64 (el xs (k * 7))) ∧ w.cell? ⟨g, off + k * 7 + 1, none⟩ = some (.int .i64 (el xs (k * 7 + 1))) ∧ w.cell? ⟨g, off + k * 7 + 2, none⟩ = some (.int .i64 (el xs (k * 7 + 2))) ∧ w.cell? ⟨g, off + k * 7 + 3, none⟩ = some (.int .i64 (el xs (k * 7 + 3))) ∧ w.cell? ⟨g, off + k * 7 + 4, none⟩ = some (.int .i64 (el xs (k * 7 + 4))) ∧ w.cell? ⟨g, off + k * 7 + 5, none⟩ = some (.int .i64 (el xs (k * 7 + 5))) ∧ w.cell? ⟨g, off + k * 7 + 6, none⟩ = some (.int .i64 (el xs (k * 7 + 6))) := by
  obtain ⟨g, off, ea, c0⟩ := h (k * 7) (by omega)
  have pick : ∀ j, j < 7 → w.cell? ⟨g, off + k * 7 + j, none⟩ = some (.int .i64 (el xs (k * 7 + j))) := by
    intro j hj
    obtain ⟨g', off', ea', c⟩ := h (k * 7 + j) (by omega)
    rw [ea] at ea'
    cases ea'
    rw [Nat.add_assoc]; exact c
  exact ⟨g, off, ea, c0, pick 1 (by decide), pick 2 (by decide), pick 3 (by decide), pick 4 (by decide), pick 5 (by decide), pick 6 (by decide)⟩

theorem Own.at7 {w : World} {g : Nat} {xs : List Int} (h : Own w g xs) {n k : Nat} (hl : xs.length = 7 * n) (hk : k < n) :
    (w.cell? ⟨g, k * 7, none⟩ = some (.int .i64 (el xs (k * 7))) ∧ w.cell? ⟨g, k * 7 + 1, none⟩ = some (.int .i64 (el xs (k * 7 + 1))) ∧ w.cell? ⟨g, k * 7 + 2, none⟩ = some (.int .i64 (el xs (k * 7 + 2))) ∧ w.cell? ⟨g, k * 7 + 3, none⟩ = some (.int .i64 (el xs (k * 7 + 3))) ∧ w.cell? ⟨g, k * 7 + 4, none⟩ = some (.int .i64 (el xs (k * 7 + 4))) ∧ w.cell? ⟨g, k * 7 + 5, none⟩ = some (.int .i64 (el xs (k * 7 + 5))) ∧ w.cell? ⟨g, k * 7 + 6, none⟩ = some (.int .i64 (el xs (k * 7 + 6)))) ∧ w.frozen? ⟨g, k * 7, none⟩ = false ∧ w.frozen? ⟨g, k * 7 + 1, none⟩ = false ∧ w.frozen? ⟨g, k * 7 + 2, none⟩ = false ∧ w.frozen? ⟨g, k * 7 + 3, none⟩ = false ∧ w.frozen? ⟨g, k * 7 + 4, none⟩ = false ∧ w.frozen? ⟨g, k * 7 + 5, none⟩ = false ∧ w.frozen? ⟨g, k * 7 + 6, none⟩ = false :=
  ⟨⟨(h (k * 7) (by omega)).1, (h (k * 7 + 1) (by omega)).1, (h (k * 7 + 2) (by omega)).1, (h (k * 7 + 3) (by omega)).1, (h (k * 7 + 4) (by omega)).1, (h (k * 7 + 5) (by omega)).1, (h (k * 7 + 6) (by omega)).1⟩, (h (k * 7) (by omega)).2, (h (k * 7 + 1) (by omega)).2, (h (k * 7 + 2) (by omega)).2, (h (k * 7 + 3) (by omega)).2, (h (k * 7 + 4) (by omega)).2, (h (k * 7 + 5) (by omega)).2, (h (k * 7 + 6) (by omega)).2⟩

theorem snoc7 {p : Nat → Prop} {k : Nat} (h : ∀ i, i < k * 7 → p i) (h0 : p (k * 7)) (h1 : p (k * 7 + 1)) (h2 : p (k * 7 + 2)) (h3 : p (k * 7 + 3)) (h4 : p (k * 7 + 4)) (h5 : p (k * 7 + 5)) (h6 : p (k * 7 + 6)) : ∀ i, i < (k + 1) * 7 → p i := by
  intro i hi
  by_cases e : i < k * 7
  · exact h i e
  · obtain rfl | rfl | rfl | rfl | rfl | rfl | rfl : i = k * 7 ∨ i = k * 7 + 1 ∨ i = k * 7 + 2 ∨ i = k * 7 + 3 ∨ i = k * 7 + 4 ∨ i = k * 7 + 5 ∨ i = k * 7 + 6 := by omega
    all_goals assumption

/-- 7 places of a row, written -/
def set7 (xs : List Int) (k : Nat) (a b c d e f x : Int) : List Int := (((((((xs.set (k * 7) a).set (k * 7 + 1) b).set (k * 7 + 2) c).set (k * 7 + 3) d).set (k * 7 + 4) e).set (k * 7 + 5) f).set (k * 7 + 6) x)
theorem set7_len (xs : List Int) (k : Nat) (a b c d e f x : Int) : (set7 xs k a b c d e f x).length = xs.length := by simp [set7]
theorem set7_old {xs : List Int} {k : Nat} {a b c d e f x : Int} {i : Nat} (h : i < k * 7) : el (set7 xs k a b c d e f x) i = el xs i := by
  unfold el set7
  rw [List.getElem?_set_ne (by omega), List.getElem?_set_ne (by omega), List.getElem?_set_ne (by omega), List.getElem?_set_ne (by omega), List.getElem?_set_ne (by omega), List.getElem?_set_ne (by omega), List.getElem?_set_ne (by omega)]

theorem set7_new {xs : List Int} {k : Nat} {a b c d e f x : Int} (h : k * 7 + 6 < xs.length) : el (set7 xs k a b c d e f x) (k * 7) = a ∧ el (set7 xs k a b c d e f x) (k * 7 + 1) = b ∧ el (set7 xs k a b c d e f x) (k * 7 + 2) = c ∧ el (set7 xs k a b c d e f x) (k * 7 + 3) = d ∧ el (set7 xs k a b c d e f x) (k * 7 + 4) = e ∧ el (set7 xs k a b c d e f x) (k * 7 + 5) = f ∧ el (set7 xs k a b c d e f x) (k * 7 + 6) = x := by
  unfold el set7
  refine ⟨?_, ?_, ?_, ?_, ?_, ?_, ?_⟩
  · rw [List.getElem?_set_ne (by omega), List.getElem?_set_ne (by omega), List.getElem?_set_ne (by omega), List.getElem?_set_ne (by omega), List.getElem?_set_ne (by omega), List.getElem?_set_ne (by omega), List.getElem?_set_self (by omega)]; rfl
  · rw [List.getElem?_set_ne (by omega), List.getElem?_set_ne (by omega), List.getElem?_set_ne (by omega), List.getElem?_set_ne (by omega), List.getElem?_set_ne (by omega), List.getElem?_set_self (by simp; omega)]; rfl
  · rw [List.getElem?_set_ne (by omega), List.getElem?_set_ne (by omega), List.getElem?_set_ne (by omega), List.getElem?_set_ne (by omega), List.getElem?_set_self (by simp; omega)]; rfl
  · rw [List.getElem?_set_ne (by omega), List.getElem?_set_ne (by omega), List.getElem?_set_ne (by omega), List.getElem?_set_self (by simp; omega)]; rfl
  · rw [List.getElem?_set_ne (by omega), List.getElem?_set_ne (by omega), List.getElem?_set_self (by simp; omega)]; rfl
  · rw [List.getElem?_set_ne (by omega), List.getElem?_set_self (by simp; omega)]; rfl
  · rw [List.getElem?_set_self (by simp; omega)]; rfl

theorem Own.set7 {w : World} {g : Nat} {xs : List Int} (h : Own w g xs) (k : Nat) (a b c d e f x : Int) :
    Own (((((((w.setCell ⟨g, k * 7, none⟩ (.int .i64 a)).setCell ⟨g, k * 7 + 1, none⟩ (.int .i64 b)).setCell ⟨g, k * 7 + 2, none⟩ (.int .i64 c)).setCell ⟨g, k * 7 + 3, none⟩ (.int .i64 d)).setCell ⟨g, k * 7 + 4, none⟩ (.int .i64 e)).setCell ⟨g, k * 7 + 5, none⟩ (.int .i64 f)).setCell ⟨g, k * 7 + 6, none⟩ (.int .i64 x)) g (set7 xs k a b c d e f x) := (((((((h.set a).set b).set c).set d).set e).set f).set x)

theorem grown_set7 {w wr : World} {g : Nat} {row : Option Nat} (h : w.grownBy wr row) (hr : row = some g ∨ w.heap.size ≤ g) (k0 k1 k2 k3 k4 k5 k6 : Nat) (v0 v1 v2 v3 v4 v5 v6 : Value) :
    w.grownBy (((((((wr.setCell ⟨g, k0, none⟩ v0).setCell ⟨g, k1, none⟩ v1).setCell ⟨g, k2, none⟩ v2).setCell ⟨g, k3, none⟩ v3).setCell ⟨g, k4, none⟩ v4).setCell ⟨g, k5, none⟩ v5).setCell ⟨g, k6, none⟩ v6) row := by
  have one : ∀ {wx : World} (k : Nat) (v : Value), w.grownBy wx row → w.grownBy (wx.setCell ⟨g, k, none⟩ v) row := fun {wx} k v hx =>
    ⟨hx.os, hx.tape, hx.output, by simpa using hx.size, fun j hj hne => (Below.heap_setCell _ _ _ _ (by
      rcases hr with rfl | hr
      · intro q; apply hne; rw [q]
      · simp; omega)).trans (hx.block j hj hne)⟩
  exact (one _ _ (one _ _ (one _ _ (one _ _ (one _ _ (one _ _ (one _ _ h)))))))
theorem el_marks7 (q : Int) (n i : Nat) (h : i < n) : el (marks q n) i = q + (i : Int) := marks_at q n i h

theorem eqOpnd (d e f : Int) (w : World) :
    Calls Try.prog 55 #[.agg #[.int .i64 d, .int .i64 e, .int .i64 f], .agg #[.int .i64 d, .int .i64 e, .int .i64 f]] w fun r w' => r = .returned (.bool true) ∧ ∃ o1 o2, w' = (w.alloc o1).alloc o2 := by
  go_enter Try.func55, Try.ntmps55
  go_wp2
  go_ret
  exact ⟨rfl, _, _, rfl⟩
theorem eqIns (a b c d e f x : Int) (w : World) :
    Calls Try.prog 20 #[.agg #[.int .i64 a, .int .i64 b, .int .i64 c, .int .i64 d, .int .i64 e, .int .i64 f, .int .i64 x], .agg #[.int .i64 a, .int .i64 b, .int .i64 c, .int .i64 d, .int .i64 e, .int .i64 f, .int .i64 x]] w fun r w' => r = .returned (.bool true) ∧ ∃ o1 o2 o3 o4, w' = (((w.alloc o1).alloc o2).alloc o3).alloc o4 := by
  go_enter Try.func20, Try.ntmps20
  go_wp2_with (first | (go_at_call 55; refine (eqOpnd d e f _).mono ?_; rintro r9 w' ⟨rfl, o3, o4, rfl⟩))
  go_ret
  exact ⟨rfl, _, _, _, _, rfl⟩

set_option maxHeartbeats 2000000 in
theorem eqInsS (w : World) (a b : Option Addr) (ca cb n : Nat) (xs : List Int) (ha : IRow w a xs) (hb : IRow w b xs) (lx : xs.length = 7 * n) (bx : n ≤ 2000000) :
    Calls Try.prog 27 #[.slice a n ca, .slice b n cb] w fun e w' => e = .returned (.bool true) ∧ w.grownBy w' none := by
  have HX := hide lx
  clear lx
  go_enter Try.func27, Try.ntmps27
  go_wp2
  go_loopw [5] (fun j wr => ∃ k : Nat, k ≤ n ∧ j = .int .i64 k ∧ w.grownBy wr none) (fun j _ => n - (intOf j).toNat)
  case atStart => exact ⟨0, Nat.zero_le _, rfl, World.grownBy.refl _ _⟩
  case round =>
    obtain ⟨k, hk, rfl, hg⟩ := hrel
    by_cases hlt : k < n
    · obtain ⟨g1, o1, rfl, p0, p1, p2, p3, p4, p5, p6⟩ := (ha.kept hg).at7 HX.out hlt
      obtain ⟨g2, o2, rfl, q0, q1, q2, q3, q4, q5, q6⟩ := (hb.kept hg).at7 HX.out hlt
      clear ha hb
      go_wp2
      go_region_with (go_at_call 20; refine (eqIns _ _ _ _ _ _ _ _).mono ?_; rintro e w' ⟨rfl, o5, o6, o7, o8, rfl⟩)
      all_goals
        go_wp2
        go_roundw
        case rel => exact ⟨k + 1, by omega, by go_num, grownBy_drew (grownBy_alloc (grownBy_alloc (grownBy_alloc (grownBy_alloc hg _) _) _) _)⟩
        case measure => simp [intOf]; omega
    · go_wp2
      go_ret
      exact ⟨rfl, hg⟩
theorem toOpnd (d e f : Int) (w : World) :
    Calls Try.prog 42 #[.agg #[.int .i64 d, .int .i64 e, .int .i64 f]] w fun r w' => r = .returned (.agg #[.int .i64 d, .int .i64 e, .int .i64 f]) ∧ Kept 0 0 w w' := by
  go_enter Try.func42, Try.ntmps42
  go_wp2
  refine bodyPost_ret (v := .agg #[.int .i64 d, .int .i64 e, .int .i64 f]) ?_ rfl ⟨rfl, kept_new (kept_new (kept_alloc w _) _) _⟩
  rw [results_one rfl]; go_simp
theorem toIns (a b c d e f x : Int) (w : World) :
    Calls Try.prog 11 #[.agg #[.int .i64 a, .int .i64 b, .int .i64 c, .int .i64 d, .int .i64 e, .int .i64 f, .int .i64 x]] w fun r w' => r = .returned (.agg #[.int .i64 a, .int .i64 b, .int .i64 c, .int .i64 d, .int .i64 e, .int .i64 f, .int .i64 x]) ∧ Kept 0 0 w w' := by
  have K0 := hide (kept_new (kept_new (kept_alloc w (.cells #[.int .i64 a, .int .i64 b, .int .i64 c, .int .i64 d, .int .i64 e, .int .i64 f, .int .i64 x] 25)) (.cells #[.int .i64 0, .int .i64 0, .int .i64 0, .int .i64 0, .int .i64 0, .int .i64 0, .int .i64 0] 29)) (.cells #[.int .i64 a, .int .i64 b, .int .i64 c, .int .i64 0, .int .i64 0, .int .i64 0, .int .i64 0] 29))
  have P0 := hide (((Blk.new w #[.int .i64 a, .int .i64 b, .int .i64 c, .int .i64 d, .int .i64 e, .int .i64 f, .int .i64 x] 25).alloc (.cells #[.int .i64 0, .int .i64 0, .int .i64 0, .int .i64 0, .int .i64 0, .int .i64 0, .int .i64 0] 29)).alloc (.cells #[.int .i64 a, .int .i64 b, .int .i64 c, .int .i64 0, .int .i64 0, .int .i64 0, .int .i64 0] 29))
  have R0 := (Blk.new (w.alloc (.cells #[.int .i64 a, .int .i64 b, .int .i64 c, .int .i64 d, .int .i64 e, .int .i64 f, .int .i64 x] 25)) #[.int .i64 0, .int .i64 0, .int .i64 0, .int .i64 0, .int .i64 0, .int .i64 0, .int .i64 0] 29).alloc (.cells #[.int .i64 a, .int .i64 b, .int .i64 c, .int .i64 0, .int .i64 0, .int .i64 0, .int .i64 0] 29)
  have X0 := Blk.new ((w.alloc (.cells #[.int .i64 a, .int .i64 b, .int .i64 c, .int .i64 d, .int .i64 e, .int .i64 f, .int .i64 x] 25)).alloc (.cells #[.int .i64 0, .int .i64 0, .int .i64 0, .int .i64 0, .int .i64 0, .int .i64 0, .int .i64 0] 29)) #[.int .i64 a, .int .i64 b, .int .i64 c, .int .i64 0, .int .i64 0, .int .i64 0, .int .i64 0] 29
  simp only [World.size_alloc] at R0 X0
  replace R0 := hide R0
  replace X0 := hide X0
  go_enter Try.func11, Try.ntmps11
  go_wp2_with (first | (go_at_call 42; refine (toOpnd d e f _).mono ?_; rintro r9 w2 ⟨rfl, k2⟩; have P2 := hide (P0.out.kept0 k2); have R2 := hide (R0.out.kept0 k2); have X2 := hide (X0.out.kept0 k2); have K2 := hide (K0.out.trans k2); have p0 := P2.out.cell (i := 0) rfl; have p1 := P2.out.cell (i := 1) rfl; have p2 := P2.out.cell (i := 2) rfl; have p3 := P2.out.cell (i := 3) rfl; have p4 := P2.out.cell (i := 4) rfl; have p5 := P2.out.cell (i := 5) rfl; have p6 := P2.out.cell (i := 6) rfl; have r0 := R2.out.cell (i := 0) rfl; have fr0 := R2.out.frozen 0; have r1 := R2.out.cell (i := 1) rfl; have fr1 := R2.out.frozen 1; have r2 := R2.out.cell (i := 2) rfl; have fr2 := R2.out.frozen 2; have r3 := R2.out.cell (i := 3) rfl; have fr3 := R2.out.frozen 3; have r4 := R2.out.cell (i := 4) rfl; have fr4 := R2.out.frozen 4; have r5 := R2.out.cell (i := 5) rfl; have fr5 := R2.out.frozen 5; have r6 := R2.out.cell (i := 6) rfl; have fr6 := R2.out.frozen 6; have y0 := X2.out.cell (i := 0) rfl; have fy0 := X2.out.frozen 0; have y1 := X2.out.cell (i := 1) rfl; have fy1 := X2.out.frozen 1; have y2 := X2.out.cell (i := 2) rfl; have fy2 := X2.out.frozen 2; have y3 := X2.out.cell (i := 3) rfl; have fy3 := X2.out.frozen 3; have y4 := X2.out.cell (i := 4) rfl; have fy4 := X2.out.frozen 4; have y5 := X2.out.cell (i := 5) rfl; have fy5 := X2.out.frozen 5; have y6 := X2.out.cell (i := 6) rfl; have fy6 := X2.out.frozen 6; have s2 := X2.out.lt; clear k2))
  refine bodyPost_ret (v := .agg #[.int .i64 a, .int .i64 b, .int .i64 c, .int .i64 d, .int .i64 e, .int .i64 f, .int .i64 x]) ?_ rfl ⟨rfl, ?_⟩
  · rw [results_one rfl]; go_simp
  · exact (kept_set (kept_set (kept_set (kept_set (kept_set (kept_set (kept_set (kept_set (kept_set (kept_set (kept_set K2.out _ _ _ (.inr (by omega))) _ _ _ (.inr (by omega))) _ _ _ (.inr (by omega))) _ _ _ (.inr (by omega))) _ _ _ (.inr (by omega))) _ _ _ (.inr (by omega))) _ _ _ (.inr (by omega))) _ _ _ (.inr (by omega))) _ _ _ (.inr (by omega))) _ _ _ (.inr (by omega))) _ _ _ (.inr (by omega)))
theorem Try.infoIns : (Try.prog.info? 29).map (fun i => (i.zero, i.size, i.bytes)) = some (some (.agg #[.int .i64 0, .int .i64 0, .int .i64 0, .int .i64 0, .int .i64 0, .int .i64 0, .int .i64 0]), 7, 56) := by kernel_rfl
theorem made7 (n : Nat) : (madeCells (Value.agg #[.int .i64 0, .int .i64 0, .int .i64 0, .int .i64 0, .int .i64 0, .int .i64 0, .int .i64 0]).cells (n * 7)).toList = (List.replicate (7 * n) (0 : Int)).map (Value.int .i64) := by
  have hz : ∀ j, j < 7 → (Value.agg #[.int .i64 0, .int .i64 0, .int .i64 0, .int .i64 0, .int .i64 0, .int .i64 0, .int .i64 0]).cells[j]! = .int .i64 0 := by
    intro j hj
    obtain rfl | rfl | rfl | rfl | rfl | rfl | rfl : j = 0 ∨ j = 1 ∨ j = 2 ∨ j = 3 ∨ j = 4 ∨ j = 5 ∨ j = 6 := by omega
    all_goals rfl
  have hs : (Value.agg #[.int .i64 0, .int .i64 0, .int .i64 0, .int .i64 0, .int .i64 0, .int .i64 0, .int .i64 0]).cells.size = 7 := rfl
  apply List.ext_getElem
  · simp [size_madeCells]; omega
  · intro i h1 h2
    simp only [madeCells, hs, Array.toList_map, List.getElem_map, List.getElem_replicate]
    exact hz _ (Nat.mod_lt _ (by decide))
theorem own_of_row7 {w : World} {base g n cap : Nat} {xs : List Int} (h : w.ownsRow base 29 7 (.slice (some ⟨g, 0, none⟩) n cap) n (xs.map (Value.int .i64))) : Own w g xs := by
  intro i hi
  rcases h with ⟨hl, ⟨e, _⟩ | ⟨g', cap', cur, e, _, hgg, hn, _, hsz, ht⟩⟩
  · cases e
  · cases e
    simp at hl
    have hc : cur[i]? = some (.int .i64 (xs[i]?.getD 0)) := by
      have : (cur.toList.take (n * 7))[i]? = (xs.map (Value.int .i64))[i]? := by rw [ht]
      rw [List.getElem?_take, if_pos (by omega)] at this
      simpa [hi] using this
    refine ⟨?_, ?_⟩
    · simp [World.cell?, hgg, hc]
    · simp [World.frozen?, hgg]

set_option maxHeartbeats 2000000 in
theorem toInsS (w : World) (a : Option Addr) (ca n : Nat) (xs : List Int) (ha : IRow w a xs) (lx : xs.length = 7 * n) (bx : n ≤ 2000000) :
    Calls Try.prog 25 #[.slice a n ca] w fun e w' => e = .returned (.slice (some ⟨w.heap.size, 0, none⟩) n n) ∧ Own w' w.heap.size xs ∧ w.heap.size < w'.heap.size ∧ w.grownBy w' none := by
  obtain ⟨i, hi, hz0, hz1, hz2⟩ := info_parts Try.infoIns
  have HX := hide lx
  clear lx
  go_enter Try.func25, Try.ntmps25
  go_wp2_with (first | (at_make; refine wpList_make_full _ rfl _ _ 47 rfl w.heap.size 29 i (.agg #[.int .i64 0, .int .i64 0, .int .i64 0, .int .i64 0, .int .i64 0, .int .i64 0, .int .i64 0]) 7 Try.underlying47 hi hz0 hz1 _ _ _ _ n rfl rfl rfl rfl ?c1 ?c2 ?c3 ?_))
  case c1 => rw [hz2]; omega
  case c2 => unfold maxLen; omega
  case c3 => exact Nat.le_refl _
  intro w1 hown hg
  have ho : Own w1 w.heap.size (List.replicate (7 * n) 0) := own_of_row7 (base := w.heap.size) (n := n) (cap := n) (by rw [← made7]; exact hown)
  have hs : w.heap.size < w1.heap.size := (hown.lt _ rfl).2
  clear hown
  go_wp2
  go_loopw [4] (fun j wr => ∃ (k : Nat) (zs : List Int), k ≤ n ∧ j = .int .i64 k ∧ zs.length = 7 * n ∧ Own wr w.heap.size zs ∧ (∀ i, i < k * 7 → el zs i = el xs i) ∧ w.heap.size < wr.heap.size ∧ w.grownBy wr none) (fun j _ => n - (intOf j).toNat)
  case atStart => exact ⟨0, _, Nat.zero_le _, rfl, by simp, ho, fun i hi => absurd hi (by omega), hs, hg⟩
  case round =>
    obtain ⟨k, zs, hk, rfl, hl, hown, heq, hsz, hgr⟩ := hrel
    have HE := hide heq
    have HL := hide hl
    have HO := hide hown
    have HS := hide hsz
    clear heq hl
    by_cases hlt : k < n
    · obtain ⟨g1, o1, rfl, p0, p1, p2, p3, p4, p5, p6⟩ := (ha.kept hgr).at7 HX.out hlt
      clear ha hown hsz
      go_wp2_with fail
      refine (toIns _ _ _ _ _ _ _ _).mono ?_
      rintro e X ⟨rfl, kX⟩
      have hx : wr.grownBy X none := kX.grown
      have HX2 : Hid (w.grownBy X none) := hide (grownBy_trans hgr hx)
      have HO2 := hide (HO.out.kept hx (by simp))
      have HS2 : Hid (w.heap.size < X.heap.size) := hide (Nat.lt_of_lt_of_le HS.out hx.size)
      clear kX hx p0 p1 p2 p3 p4 p5 p6 hgr
      obtain ⟨⟨c0, c1, c2, c3, c4, c5, c6⟩, f0, f1, f2, f3, f4, f5, f6⟩ := HO2.out.at7 HL.out hlt
      go_wp2_with fail
      go_roundw
      case rel =>
        have hk4 : k * 7 + 6 < zs.length := by have := HL.out; omega
        obtain ⟨n0, n1, n2, n3, n4, n5, n6⟩ := set7_new (a := el xs (k * 7)) (b := el xs (k * 7 + 1)) (c := el xs (k * 7 + 2)) (d := el xs (k * 7 + 3)) (e := el xs (k * 7 + 4)) (f := el xs (k * 7 + 5)) (x := el xs (k * 7 + 6)) hk4
        exact ⟨k + 1, set7 zs k _ _ _ _ _ _ _, by omega, by go_num, by rw [set7_len]; exact HL.out, HO2.out.set7 k _ _ _ _ _ _ _, snoc7 (fun i hi => (set7_old hi).trans (HE.out i hi)) n0 n1 n2 n3 n4 n5 n6, by simpa using HS2.out, grown_set7 HX2.out (.inr (Nat.le_refl _)) _ _ _ _ _ _ _ _ _ _ _ _ _ _⟩
      case measure => simp [intOf]; omega
    · clear hown hsz
      go_wp2
      go_ret
      have e : zs = xs := ext_of (HL.out.trans HX.out.symm) (fun i hi => HE.out i (by have := HL.out; omega))
      exact ⟨rfl, by rw [← e]; exact HO.out, HS.out, hgr⟩

set_option maxHeartbeats 2000000 in
theorem markInsS (w : World) (g ca n : Nat) (xs : List Int) (q : Int) (ha : Own w g xs) (lx : xs.length = 7 * n) (bx : n ≤ 2000000) (q0 : 0 ≤ q) (q1 : q ≤ 100000000) :
    Calls Try.prog 28 #[.slice (some ⟨g, 0, none⟩) n ca, .int .i64 q] w fun e w' => e = .returned (.int .i64 (q + 7 * (n : Int))) ∧ Own w' g (marks q (7 * n)) ∧ w.grownBy w' (some g) := by
  have HX := hide lx
  clear lx
  go_enter Try.func28, Try.ntmps28
  go_wp2
  go_loopw [1, 5] (fun m j wr => ∃ (k : Nat) (zs : List Int), k ≤ n ∧ j = .int .i64 k ∧ m = .int .i64 (q + 7 * (k : Int)) ∧ zs.length = 7 * n ∧ Own wr g zs ∧ (∀ i, i < k * 7 → el zs i = q + (i : Int)) ∧ w.grownBy wr (some g)) (fun _ j _ => n - (intOf j).toNat)
  case atStart => exact ⟨0, xs, Nat.zero_le _, rfl, by simp, HX.out, ha, fun i hi => absurd hi (by omega), World.grownBy.refl _ _⟩
  case round =>
    obtain ⟨k, zs, hk, rfl, rfl, hl, hown, heq, hgr⟩ := hrel
    have HE := hide heq
    have HL := hide hl
    have HO := hide hown
    have HG := hide hgr
    clear heq hl hgr ha
    by_cases hlt : k < n
    · obtain ⟨⟨c0, c1, c2, c3, c4, c5, c6⟩, f0, f1, f2, f3, f4, f5, f6⟩ := hown.at7 HL.out hlt
      clear hown
      go_wp2
      go_roundw
      case rel =>
        have hk4 : k * 7 + 6 < zs.length := by have := HL.out; omega
        obtain ⟨n0, n1, n2, n3, n4, n5, n6⟩ := set7_new (a := q + 7 * (k : Int)) (b := q + 7 * (k : Int) + 1) (c := q + 7 * (k : Int) + 1 + 1) (d := q + 7 * (k : Int) + 1 + 1 + 1) (e := q + 7 * (k : Int) + 1 + 1 + 1 + 1) (f := q + 7 * (k : Int) + 1 + 1 + 1 + 1 + 1) (x := q + 7 * (k : Int) + 1 + 1 + 1 + 1 + 1 + 1) hk4
        exact ⟨k + 1, set7 zs k _ _ _ _ _ _ _, by omega, by go_num, by rw [show q + 7 * (k : Int) + 1 + 1 + 1 + 1 + 1 + 1 + 1 = q + 7 * ((k + 1 : Nat) : Int) from by omega], by rw [set7_len]; exact HL.out, HO.out.set7 k _ _ _ _ _ _ _,
          snoc7 (fun i hi => (set7_old hi).trans (HE.out i hi)) (by rw [n0]; omega) (by rw [n1]; omega) (by rw [n2]; omega) (by rw [n3]; omega) (by rw [n4]; omega) (by rw [n5]; omega) (by rw [n6]; omega), grown_set7 HG.out (.inl rfl) _ _ _ _ _ _ _ _ _ _ _ _ _ _⟩
      case measure => simp [intOf]; omega
    · clear hown
      obtain rfl : k = n := by omega
      go_wp2
      go_ret
      have e : zs = marks q (7 * k) := ext_of (by rw [marks_len]; exact HL.out) (fun i hi => by
        have := HL.out
        exact (HE.out i (by omega)).trans (el_marks7 q _ i (by omega)).symm)
      exact ⟨rfl, by rw [← e]; exact HO.out, HG.out⟩
end Go.Proofs.Ytlbnllhabdnjjaa
