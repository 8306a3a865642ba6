/- What the laws' own functions over lists of DevStep do (structs of 3 whole numbers, laid one behind the other): compare, copy, mark. A list of n is spoken of as the row of its 3 * n numbers. -/
import Derived.Test.YtlocilcnmbmikaaFrame
namespace Go.Proofs.Ytlocilcnmbmikaa
open Go.RowKit
set_option linter.unusedVariables false

theorem IRow.at3 {w : World} {a : Option Addr} {xs : List Int} (h : IRow w a xs) {n k : Nat} (hl : xs.length = 3 * n) (hk : k < n) :
    ∃ g off : Nat, a = some ⟨g, off, none⟩ ∧ w.cell? ⟨g, off + k * 3, none⟩ = some (.int .i64 (el xs (k * 3))) ∧ w.cell? ⟨g, off + k * 3 + 1, none⟩ = some (.int .i64 (el xs (k * 3 + 1))) ∧ w.cell? ⟨g, off + k * 3 + 2, none⟩ = some (.int .i64 (el xs (k * 3 + 2))) := by
  obtain ⟨g, off, ea, c0⟩ := h (k * 3) (by omega)
  have pick : ∀ j, j < 3 → w.cell? ⟨g, off + k * 3 + j, none⟩ = some (.int .i64 (el xs (k * 3 + j))) := by
    intro j hj
    obtain ⟨g', off', ea', c⟩ := h (k * 3 + j) (by omega)
    rw [ea] at ea'
    cases ea'
    rw [Nat.add_assoc]; exact c
  exact ⟨g, off, ea, c0, pick 1 (by decide), pick 2 (by decide)⟩

theorem Own.at3 {w : World} {g : Nat} {xs : List Int} (h : Own w g xs) {n k : Nat} (hl : xs.length = 3 * n) (hk : k < n) :
    (w.cell? ⟨g, k * 3, none⟩ = some (.int .i64 (el xs (k * 3))) ∧ w.cell? ⟨g, k * 3 + 1, none⟩ = some (.int .i64 (el xs (k * 3 + 1))) ∧ w.cell? ⟨g, k * 3 + 2, none⟩ = some (.int .i64 (el xs (k * 3 + 2)))) ∧ w.frozen? ⟨g, k * 3, none⟩ = false ∧ w.frozen? ⟨g, k * 3 + 1, none⟩ = false ∧ w.frozen? ⟨g, k * 3 + 2, none⟩ = false :=
  ⟨⟨(h (k * 3) (by omega)).1, (h (k * 3 + 1) (by omega)).1, (h (k * 3 + 2) (by omega)).1⟩, (h (k * 3) (by omega)).2, (h (k * 3 + 1) (by omega)).2, (h (k * 3 + 2) (by omega)).2⟩

theorem snoc3 {p : Nat → Prop} {k : Nat} (h : ∀ i, i < k * 3 → p i) (h0 : p (k * 3)) (h1 : p (k * 3 + 1)) (h2 : p (k * 3 + 2)) : ∀ i, i < (k + 1) * 3 → p i := by
  intro i hi
  by_cases e : i < k * 3
  · exact h i e
  · obtain rfl | rfl | rfl : i = k * 3 ∨ i = k * 3 + 1 ∨ i = k * 3 + 2 := by omega
    all_goals assumption

/-- 3 places of a row, written -/
def set3 (xs : List Int) (k : Nat) (a b c : Int) : List Int := (((xs.set (k * 3) a).set (k * 3 + 1) b).set (k * 3 + 2) c)
theorem set3_len (xs : List Int) (k : Nat) (a b c : Int) : (set3 xs k a b c).length = xs.length := by simp [set3]
theorem set3_old {xs : List Int} {k : Nat} {a b c : Int} {i : Nat} (h : i < k * 3) : el (set3 xs k a b c) i = el xs i := by
  unfold el set3
  rw [List.getElem?_set_ne (by omega), List.getElem?_set_ne (by omega), List.getElem?_set_ne (by omega)]

theorem set3_new {xs : List Int} {k : Nat} {a b c : Int} (h : k * 3 + 2 < xs.length) : el (set3 xs k a b c) (k * 3) = a ∧ el (set3 xs k a b c) (k * 3 + 1) = b ∧ el (set3 xs k a b c) (k * 3 + 2) = c := by
  unfold el set3
  refine ⟨?_, ?_, ?_⟩
  · rw [List.getElem?_set_ne (by omega), List.getElem?_set_ne (by omega), List.getElem?_set_self (by omega)]; rfl
  · rw [List.getElem?_set_ne (by omega), List.getElem?_set_self (by simp; omega)]; rfl
  · rw [List.getElem?_set_self (by simp; omega)]; rfl

theorem Own.set3 {w : World} {g : Nat} {xs : List Int} (h : Own w g xs) (k : Nat) (a b c : Int) :
    Own (((w.setCell ⟨g, k * 3, none⟩ (.int .i64 a)).setCell ⟨g, k * 3 + 1, none⟩ (.int .i64 b)).setCell ⟨g, k * 3 + 2, none⟩ (.int .i64 c)) g (set3 xs k a b c) := (((h.set a).set b).set c)

theorem grown_set3 {w wr : World} {g : Nat} {row : Option Nat} (h : w.grownBy wr row) (hr : row = some g ∨ w.heap.size ≤ g) (k0 k1 k2 : Nat) (v0 v1 v2 : Value) :
    w.grownBy (((wr.setCell ⟨g, k0, none⟩ v0).setCell ⟨g, k1, none⟩ v1).setCell ⟨g, k2, none⟩ v2) row := by
  have one : ∀ {wx : World} (k : Nat) (v : Value), w.grownBy wx row → w.grownBy (wx.setCell ⟨g, k, none⟩ v) row := fun {wx} k v hx =>
    ⟨hx.os, hx.tape, hx.output, by simpa using hx.size, fun j hj hne => (Below.heap_setCell _ _ _ _ (by
      rcases hr with rfl | hr
      · intro q; apply hne; rw [q]
      · simp; omega)).trans (hx.block j hj hne)⟩
  exact (one _ _ (one _ _ (one _ _ h)))
theorem el_marks3 (q : Int) (n i : Nat) (h : i < n) : el (marks q n) i = q + (i : Int) := marks_at q n i h

theorem eqDevStep (a b c : Int) (w : World) :
    Calls Try.prog 51 #[.agg #[.int .i64 a, .int .i64 b, .int .i64 c], .agg #[.int .i64 a, .int .i64 b, .int .i64 c]] w fun r w' => r = .returned (.bool true) ∧ ∃ o1 o2, w' = (w.alloc o1).alloc o2 := by
  go_enter Try.func51, Try.ntmps51
  go_wp2
  go_ret
  exact ⟨rfl, _, _, rfl⟩

set_option maxHeartbeats 2000000 in
theorem eqDevStepS (w : World) (a b : Option Addr) (ca cb n : Nat) (xs : List Int) (ha : IRow w a xs) (hb : IRow w b xs) (lx : xs.length = 3 * n) (bx : n ≤ 2000000) :
    Calls Try.prog 27 #[.slice a n ca, .slice b n cb] w fun e w' => e = .returned (.bool true) ∧ w.grownBy w' none := by
  have HX := hide lx
  clear lx
  go_enter Try.func27, Try.ntmps27
  go_wp2
  go_loopw [5] (fun j wr => ∃ k : Nat, k ≤ n ∧ j = .int .i64 k ∧ w.grownBy wr none) (fun j _ => n - (intOf j).toNat)
  case atStart => exact ⟨0, Nat.zero_le _, rfl, World.grownBy.refl _ _⟩
  case round =>
    obtain ⟨k, hk, rfl, hg⟩ := hrel
    by_cases hlt : k < n
    · obtain ⟨g1, o1, rfl, p0, p1, p2⟩ := (ha.kept hg).at3 HX.out hlt
      obtain ⟨g2, o2, rfl, q0, q1, q2⟩ := (hb.kept hg).at3 HX.out hlt
      clear ha hb
      go_wp2
      go_region_with (go_at_call 51; refine (eqDevStep _ _ _ _).mono ?_; rintro e w' ⟨rfl, o5, o6, rfl⟩)
      all_goals
        go_wp2
        go_roundw
        case rel => exact ⟨k + 1, by omega, by go_num, grownBy_drew (grownBy_alloc (grownBy_alloc hg _) _)⟩
        case measure => simp [intOf]; omega
    · go_wp2
      go_ret
      exact ⟨rfl, hg⟩
theorem toDevStep (a b c : Int) (w : World) :
    Calls Try.prog 20 #[.agg #[.int .i64 a, .int .i64 b, .int .i64 c]] w fun r w' => r = .returned (.agg #[.int .i64 a, .int .i64 b, .int .i64 c]) ∧ ∃ o1 o2 o3, w' = ((w.alloc o1).alloc o2).alloc o3 := by
  go_enter Try.func20, Try.ntmps20
  go_wp2
  refine bodyPost_ret (v := .agg #[.int .i64 a, .int .i64 b, .int .i64 c]) ?_ rfl ⟨rfl, _, _, _, rfl⟩
  rw [results_one rfl]; go_simp
theorem Try.infoDevStep : (Try.prog.info? 38).map (fun i => (i.zero, i.size, i.bytes)) = some (some (.agg #[.int .i64 0, .int .i64 0, .int .i64 0]), 3, 24) := by kernel_rfl
theorem made3 (n : Nat) : (madeCells (Value.agg #[.int .i64 0, .int .i64 0, .int .i64 0]).cells (n * 3)).toList = (List.replicate (3 * n) (0 : Int)).map (Value.int .i64) := by
  have hz : ∀ j, j < 3 → (Value.agg #[.int .i64 0, .int .i64 0, .int .i64 0]).cells[j]! = .int .i64 0 := by
    intro j hj
    obtain rfl | rfl | rfl : j = 0 ∨ j = 1 ∨ j = 2 := by omega
    all_goals rfl
  have hs : (Value.agg #[.int .i64 0, .int .i64 0, .int .i64 0]).cells.size = 3 := rfl
  apply List.ext_getElem
  · simp [size_madeCells]; omega
  · intro i h1 h2
    simp only [madeCells, hs, Array.toList_map, List.getElem_map, List.getElem_replicate]
    exact hz _ (Nat.mod_lt _ (by decide))
theorem own_of_row3 {w : World} {base g n cap : Nat} {xs : List Int} (h : w.ownsRow base 38 3 (.slice (some ⟨g, 0, none⟩) n cap) n (xs.map (Value.int .i64))) : Own w g xs := by
  intro i hi
  rcases h with ⟨hl, ⟨e, _⟩ | ⟨g', cap', cur, e, _, hgg, hn, _, hsz, ht⟩⟩
  · cases e
  · cases e
    simp at hl
    have hc : cur[i]? = some (.int .i64 (xs[i]?.getD 0)) := by
      have : (cur.toList.take (n * 3))[i]? = (xs.map (Value.int .i64))[i]? := by rw [ht]
      rw [List.getElem?_take, if_pos (by omega)] at this
      simpa [hi] using this
    refine ⟨?_, ?_⟩
    · simp [World.cell?, hgg, hc]
    · simp [World.frozen?, hgg]

set_option maxHeartbeats 2000000 in
theorem toDevStepS (w : World) (a : Option Addr) (ca n : Nat) (xs : List Int) (ha : IRow w a xs) (lx : xs.length = 3 * n) (bx : n ≤ 2000000) :
    Calls Try.prog 24 #[.slice a n ca] w fun e w' => e = .returned (.slice (some ⟨w.heap.size, 0, none⟩) n n) ∧ Own w' w.heap.size xs ∧ w.heap.size < w'.heap.size ∧ w.grownBy w' none := by
  obtain ⟨i, hi, hz0, hz1, hz2⟩ := info_parts Try.infoDevStep
  have HX := hide lx
  clear lx
  go_enter Try.func24, Try.ntmps24
  go_wp2_with (first | (at_make; refine wpList_make_full _ rfl _ _ 45 rfl w.heap.size 38 i (.agg #[.int .i64 0, .int .i64 0, .int .i64 0]) 3 Try.underlying45 hi hz0 hz1 _ _ _ _ n rfl rfl rfl rfl ?c1 ?c2 ?c3 ?_))
  case c1 => rw [hz2]; omega
  case c2 => unfold maxLen; omega
  case c3 => exact Nat.le_refl _
  intro w1 hown hg
  have ho : Own w1 w.heap.size (List.replicate (3 * n) 0) := own_of_row3 (base := w.heap.size) (n := n) (cap := n) (by rw [← made3]; exact hown)
  have hs : w.heap.size < w1.heap.size := (hown.lt _ rfl).2
  clear hown
  go_wp2
  go_loopw [4] (fun j wr => ∃ (k : Nat) (zs : List Int), k ≤ n ∧ j = .int .i64 k ∧ zs.length = 3 * n ∧ Own wr w.heap.size zs ∧ (∀ i, i < k * 3 → el zs i = el xs i) ∧ w.heap.size < wr.heap.size ∧ w.grownBy wr none) (fun j _ => n - (intOf j).toNat)
  case atStart => exact ⟨0, _, Nat.zero_le _, rfl, by simp, ho, fun i hi => absurd hi (by omega), hs, hg⟩
  case round =>
    obtain ⟨k, zs, hk, rfl, hl, hown, heq, hsz, hgr⟩ := hrel
    have HE := hide heq
    have HL := hide hl
    have HO := hide hown
    have HS := hide hsz
    clear heq hl
    by_cases hlt : k < n
    · obtain ⟨g1, o1, rfl, p0, p1, p2⟩ := (ha.kept hgr).at3 HX.out hlt
      clear ha hown hsz
      go_wp2_with fail
      refine (toDevStep _ _ _ _).mono ?_
      rintro e w' ⟨rfl, o5, o6, o7, rfl⟩
      obtain ⟨X, hX⟩ : ∃ X : World, X = ((wr.alloc o5).alloc o6).alloc o7 := ⟨_, rfl⟩
      rw [← hX]
      have hx : wr.grownBy X none := by rw [hX]; exact grownBy_alloc (grownBy_alloc (grownBy_alloc (World.grownBy.refl _ _) _) _) _
      have HX2 : Hid (w.grownBy X none) := hide (grownBy_trans hgr hx)
      have HO2 := hide (HO.out.kept hx (by simp))
      have HS2 : Hid (w.heap.size < X.heap.size) := hide (Nat.lt_of_lt_of_le HS.out hx.size)
      clear hX hx p0 p1 p2 hgr
      obtain ⟨⟨c0, c1, c2⟩, f0, f1, f2⟩ := HO2.out.at3 HL.out hlt
      go_wp2_with fail
      go_roundw
      case rel =>
        have hk4 : k * 3 + 2 < zs.length := by have := HL.out; omega
        obtain ⟨n0, n1, n2⟩ := set3_new (a := el xs (k * 3)) (b := el xs (k * 3 + 1)) (c := el xs (k * 3 + 2)) hk4
        exact ⟨k + 1, set3 zs k _ _ _, by omega, by go_num, by rw [set3_len]; exact HL.out, HO2.out.set3 k _ _ _, snoc3 (fun i hi => (set3_old hi).trans (HE.out i hi)) n0 n1 n2, by simpa using HS2.out, grown_set3 HX2.out (.inr (Nat.le_refl _)) _ _ _ _ _ _⟩
      case measure => simp [intOf]; omega
    · clear hown hsz
      go_wp2
      go_ret
      have e : zs = xs := ext_of (HL.out.trans HX.out.symm) (fun i hi => HE.out i (by have := HL.out; omega))
      exact ⟨rfl, by rw [← e]; exact HO.out, HS.out, hgr⟩

set_option maxHeartbeats 2000000 in
theorem markDevStepS (w : World) (g ca n : Nat) (xs : List Int) (q : Int) (ha : Own w g xs) (lx : xs.length = 3 * n) (bx : n ≤ 2000000) (q0 : 0 ≤ q) (q1 : q ≤ 100000000) :
    Calls Try.prog 28 #[.slice (some ⟨g, 0, none⟩) n ca, .int .i64 q] w fun e w' => e = .returned (.int .i64 (q + 3 * (n : Int))) ∧ Own w' g (marks q (3 * n)) ∧ w.grownBy w' (some g) := by
  have HX := hide lx
  clear lx
  go_enter Try.func28, Try.ntmps28
  go_wp2
  go_loopw [1, 5] (fun m j wr => ∃ (k : Nat) (zs : List Int), k ≤ n ∧ j = .int .i64 k ∧ m = .int .i64 (q + 3 * (k : Int)) ∧ zs.length = 3 * n ∧ Own wr g zs ∧ (∀ i, i < k * 3 → el zs i = q + (i : Int)) ∧ w.grownBy wr (some g)) (fun _ j _ => n - (intOf j).toNat)
  case atStart => exact ⟨0, xs, Nat.zero_le _, rfl, by simp, HX.out, ha, fun i hi => absurd hi (by omega), World.grownBy.refl _ _⟩
  case round =>
    obtain ⟨k, zs, hk, rfl, rfl, hl, hown, heq, hgr⟩ := hrel
    have HE := hide heq
    have HL := hide hl
    have HO := hide hown
    have HG := hide hgr
    clear heq hl hgr ha
    by_cases hlt : k < n
    · obtain ⟨⟨c0, c1, c2⟩, f0, f1, f2⟩ := hown.at3 HL.out hlt
      clear hown
      go_wp2
      go_roundw
      case rel =>
        have hk4 : k * 3 + 2 < zs.length := by have := HL.out; omega
        obtain ⟨n0, n1, n2⟩ := set3_new (a := q + 3 * (k : Int)) (b := q + 3 * (k : Int) + 1) (c := q + 3 * (k : Int) + 1 + 1) hk4
        exact ⟨k + 1, set3 zs k _ _ _, by omega, by go_num, by rw [show q + 3 * (k : Int) + 1 + 1 + 1 = q + 3 * ((k + 1 : Nat) : Int) from by omega], by rw [set3_len]; exact HL.out, HO.out.set3 k _ _ _,
          snoc3 (fun i hi => (set3_old hi).trans (HE.out i hi)) (by rw [n0]; omega) (by rw [n1]; omega) (by rw [n2]; omega), grown_set3 HG.out (.inl rfl) _ _ _ _ _ _⟩
      case measure => simp [intOf]; omega
    · clear hown
      obtain rfl : k = n := by omega
      go_wp2
      go_ret
      have e : zs = marks q (3 * k) := ext_of (by rw [marks_len]; exact HL.out) (fun i hi => by
        have := HL.out
        exact (HE.out i (by omega)).trans (el_marks3 q _ i (by omega)).symm)
      exact ⟨rfl, by rw [← e]; exact HO.out, HG.out⟩
end Go.Proofs.Ytlocilcnmbmikaa
