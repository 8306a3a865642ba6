/- What the laws' own functions do that copy a list of accesses, mark it, and look for the marks. -/
import Derived.Test.YtbkafdphagmgpaaAccs
namespace Go.Proofs.Ytbkafdphagmgpaa
open Go.RowKit
set_option linter.unusedVariables false

theorem toAccess (a b c d e : Int) (w : World) :
    Calls Try.prog 64 #[.agg #[.int .i64 a, .int .i64 b, .int .i64 c, .int .i64 d, .int .i64 e]] w fun r w' => r = .returned (.agg #[.int .i64 a, .int .i64 b, .int .i64 c, .int .i64 d, .int .i64 e]) ∧ ∃ o1 o2 o3, w' = ((w.alloc o1).alloc o2).alloc o3 := by
  go_enter Try.func64, Try.ntmps64
  go_wp2
  refine bodyPost_ret (v := .agg #[.int .i64 a, .int .i64 b, .int .i64 c, .int .i64 d, .int .i64 e]) ?_ rfl ⟨rfl, _, _, _, rfl⟩
  rw [results_one rfl]; go_simp

theorem Try.infoAcc : (Try.prog.info? 61).map (fun i => (i.zero, i.size, i.bytes)) = some (some (.agg #[.int .i64 0, .int .i64 0, .int .i64 0, .int .i64 0, .int .i64 0]), 5, 40) := by kernel_rfl

theorem made5 (n : Nat) : (madeCells (Value.agg #[.int .i64 0, .int .i64 0, .int .i64 0, .int .i64 0, .int .i64 0]).cells (n * 5)).toList = (List.replicate (5 * n) (0 : Int)).map (Value.int .i64) := by
  have hz : ∀ j, j < 5 → (Value.agg #[.int .i64 0, .int .i64 0, .int .i64 0, .int .i64 0, .int .i64 0]).cells[j]! = .int .i64 0 := by
    intro j hj
    obtain rfl | rfl | rfl | rfl | rfl : j = 0 ∨ j = 1 ∨ j = 2 ∨ j = 3 ∨ j = 4 := by omega
    all_goals rfl
  have hs : (Value.agg #[.int .i64 0, .int .i64 0, .int .i64 0, .int .i64 0, .int .i64 0]).cells.size = 5 := rfl
  apply List.ext_getElem
  · simp [size_madeCells]; omega
  · intro i h1 h2
    simp only [madeCells, hs, Array.toList_map, List.getElem_map, List.getElem_replicate]
    exact hz _ (Nat.mod_lt _ (by decide))

theorem own_of_row5 {w : World} {base g n cap : Nat} {xs : List Int} (h : w.ownsRow base 61 5 (.slice (some ⟨g, 0, none⟩) n cap) n (xs.map (Value.int .i64))) : Own w g xs := by
  intro i hi
  rcases h with ⟨hl, ⟨e, _⟩ | ⟨g', cap', cur, e, _, hgg, hn, _, hsz, ht⟩⟩
  · cases e
  · cases e
    simp at hl
    have hc : cur[i]? = some (.int .i64 (xs[i]?.getD 0)) := by
      have : (cur.toList.take (n * 5))[i]? = (xs.map (Value.int .i64))[i]? := by rw [ht]
      rw [List.getElem?_take, if_pos (by omega)] at this
      simpa [hi] using this
    refine ⟨?_, ?_⟩
    · simp [World.cell?, hgg, hc]
    · simp [World.frozen?, hgg]

/-- five places of a row, written -/
def set5 (xs : List Int) (k : Nat) (a b c d e : Int) : List Int := ((((xs.set (k * 5) a).set (k * 5 + 1) b).set (k * 5 + 2) c).set (k * 5 + 3) d).set (k * 5 + 4) e
theorem set5_len (xs : List Int) (k : Nat) (a b c d e : Int) : (set5 xs k a b c d e).length = xs.length := by simp [set5]
theorem set5_old {xs : List Int} {k : Nat} {a b c d e : Int} {i : Nat} (h : i < k * 5) : el (set5 xs k a b c d e) i = el xs i := by
  unfold el set5
  rw [List.getElem?_set_ne (by omega), List.getElem?_set_ne (by omega), List.getElem?_set_ne (by omega), List.getElem?_set_ne (by omega), List.getElem?_set_ne (by omega)]
theorem set5_new {xs : List Int} {k : Nat} {a b c d e : Int} (h : k * 5 + 4 < xs.length) : el (set5 xs k a b c d e) (k * 5) = a ∧ el (set5 xs k a b c d e) (k * 5 + 1) = b ∧ el (set5 xs k a b c d e) (k * 5 + 2) = c ∧ el (set5 xs k a b c d e) (k * 5 + 3) = d ∧ el (set5 xs k a b c d e) (k * 5 + 4) = e := by
  unfold el set5
  refine ⟨?_, ?_, ?_, ?_, ?_⟩
  · rw [List.getElem?_set_ne (by omega), List.getElem?_set_ne (by omega), List.getElem?_set_ne (by omega), List.getElem?_set_ne (by omega), List.getElem?_set_self (by omega)]; rfl
  · rw [List.getElem?_set_ne (by omega), List.getElem?_set_ne (by omega), List.getElem?_set_ne (by omega), List.getElem?_set_self (by simp; omega)]; rfl
  · rw [List.getElem?_set_ne (by omega), List.getElem?_set_ne (by omega), List.getElem?_set_self (by simp; omega)]; rfl
  · rw [List.getElem?_set_ne (by omega), List.getElem?_set_self (by simp; omega)]; rfl
  · rw [List.getElem?_set_self (by simp; omega)]; rfl
theorem Own.set5 {w : World} {g : Nat} {xs : List Int} (h : Own w g xs) (k : Nat) (a b c d e : Int) :
    Own (((((w.setCell ⟨g, k * 5, none⟩ (.int .i64 a)).setCell ⟨g, k * 5 + 1, none⟩ (.int .i64 b)).setCell ⟨g, k * 5 + 2, none⟩ (.int .i64 c)).setCell ⟨g, k * 5 + 3, none⟩ (.int .i64 d)).setCell ⟨g, k * 5 + 4, none⟩ (.int .i64 e)) g (set5 xs k a b c d e) :=
  ((((h.set a).set b).set c).set d).set e
theorem grown_set5 {w wr : World} {g : Nat} {row : Option Nat} (h : w.grownBy wr row) (hr : row = some g ∨ w.heap.size ≤ g) (k0 k1 k2 k3 k4 : Nat) (a b c d e : Value) :
    w.grownBy (((((wr.setCell ⟨g, k0, none⟩ a).setCell ⟨g, k1, none⟩ b).setCell ⟨g, k2, none⟩ c).setCell ⟨g, k3, none⟩ d).setCell ⟨g, k4, none⟩ e) row := by
  have one : ∀ {wx : World} (k : Nat) (v : Value), w.grownBy wx row → w.grownBy (wx.setCell ⟨g, k, none⟩ v) row := fun {wx} k v hx =>
    ⟨hx.os, hx.tape, hx.output, by simpa using hx.size, fun j hj hne => (Below.heap_setCell _ _ _ _ (by
      rcases hr with rfl | hr
      · intro q; apply hne; rw [q]
      · simp; omega)).trans (hx.block j hj hne)⟩
  exact one _ _ (one _ _ (one _ _ (one _ _ (one _ _ h))))

set_option maxHeartbeats 2000000 in
theorem toAccessS (w : World) (a : Option Addr) (ca n : Nat) (xs : List Int) (ha : IRow w a xs) (lx : xs.length = 5 * n) (bx : n ≤ 2000000) :
    Calls Try.prog 42 #[.slice a n ca] w fun e w' => e = .returned (.slice (some ⟨w.heap.size, 0, none⟩) n n) ∧ Own w' w.heap.size xs ∧ w.heap.size < w'.heap.size ∧ w.grownBy w' none := by
  obtain ⟨i, hi, hz0, hz1, hz2⟩ := info_parts Try.infoAcc
  have HX := hide lx
  clear lx
  go_enter Try.func42, Try.ntmps42
  go_wp2_with (first | (at_make; refine wpList_make_full _ rfl _ _ 23 rfl w.heap.size 61 i (.agg #[.int .i64 0, .int .i64 0, .int .i64 0, .int .i64 0, .int .i64 0]) 5 Try.underlying23 hi hz0 hz1 _ _ _ _ n rfl rfl rfl rfl ?c1 ?c2 ?c3 ?_))
  case c1 => rw [hz2]; omega
  case c2 => unfold maxLen; omega
  case c3 => exact Nat.le_refl _
  intro w1 hown hg
  have ho : Own w1 w.heap.size (List.replicate (5 * n) 0) := own_of_row5 (base := w.heap.size) (n := n) (cap := n) (by rw [← made5]; exact hown)
  have hs : w.heap.size < w1.heap.size := (hown.lt _ rfl).2
  clear hown
  go_wp2
  go_loopw [4] (fun j wr => ∃ (k : Nat) (zs : List Int), k ≤ n ∧ j = .int .i64 k ∧ zs.length = 5 * n ∧ Own wr w.heap.size zs ∧ (∀ i, i < k * 5 → el zs i = el xs i) ∧ w.heap.size < wr.heap.size ∧ w.grownBy wr none) (fun j _ => n - (intOf j).toNat)
  case atStart => exact ⟨0, _, Nat.zero_le _, rfl, by simp, ho, fun i hi => absurd hi (by omega), hs, hg⟩
  case round =>
    obtain ⟨k, zs, hk, rfl, hl, hown, heq, hsz, hgr⟩ := hrel
    have HE := hide heq
    have HL := hide hl
    have HO := hide hown
    have HS := hide hsz
    clear heq hl
    by_cases hlt : k < n
    · obtain ⟨g1, o1, rfl, p0, p1, p2, p3, p4⟩ := (ha.kept hgr).five HX.out hlt
      clear ha hown hsz
      go_wp2_with fail
      refine (toAccess _ _ _ _ _ _).mono ?_
      rintro e w' ⟨rfl, o5, o6, o7, rfl⟩
      obtain ⟨X, hX⟩ : ∃ X : World, X = ((wr.alloc o5).alloc o6).alloc o7 := ⟨_, rfl⟩
      rw [← hX]
      have hx : wr.grownBy X none := by rw [hX]; exact grownBy_alloc (grownBy_alloc (grownBy_alloc (World.grownBy.refl _ _) _) _) _
      have HX2 : Hid (w.grownBy X none) := hide (grownBy_trans hgr hx)
      have HO2 := hide (HO.out.kept hx (by simp))
      have HS2 : Hid (w.heap.size < X.heap.size) := hide (Nat.lt_of_lt_of_le HS.out hx.size)
      clear hX hx p0 p1 p2 p3 p4 hgr
      obtain ⟨⟨c0, c1, c2, c3, c4⟩, g0, g1', g2, g3, g4⟩ := HO2.out.five HL.out hlt
      go_wp2_with fail
      go_roundw
      case rel =>
        have hk4 : k * 5 + 4 < zs.length := by have := HL.out; omega
        obtain ⟨n0, n1, n2, n3, n4⟩ := set5_new (a := el xs (k * 5)) (b := el xs (k * 5 + 1)) (c := el xs (k * 5 + 2)) (d := el xs (k * 5 + 3)) (e := el xs (k * 5 + 4)) hk4
        exact ⟨k + 1, set5 zs k _ _ _ _ _, by omega, by go_num, by rw [set5_len]; exact HL.out, HO2.out.set5 k _ _ _ _ _, snoc5 (fun i hi => (set5_old hi).trans (HE.out i hi)) n0 n1 n2 n3 n4, by simpa using HS2.out, grown_set5 HX2.out (.inr (Nat.le_refl _)) _ _ _ _ _ _ _ _ _ _⟩
      case measure => simp [intOf]; omega
    · clear hown hsz
      go_wp2
      go_ret
      have e : zs = xs := ext_of (HL.out.trans HX.out.symm) (fun i hi => HE.out i (by have := HL.out; omega))
      exact ⟨rfl, by rw [← e]; exact HO.out, HS.out, hgr⟩

theorem el_marks (q : Int) (n i : Nat) (h : i < n) : el (marks q n) i = q + (i : Int) := marks_at q n i h

set_option maxHeartbeats 2000000 in
theorem markAccessS (w : World) (g ca n : Nat) (xs : List Int) (q : Int) (ha : Own w g xs) (lx : xs.length = 5 * n) (bx : n ≤ 2000000) (q0 : 0 ≤ q) (q1 : q ≤ 100000000) :
    Calls Try.prog 31 #[.slice (some ⟨g, 0, none⟩) n ca, .int .i64 q] w fun e w' => e = .returned (.int .i64 (q + 5 * (n : Int))) ∧ Own w' g (marks q (5 * n)) ∧ w.grownBy w' (some g) := by
  have HX := hide lx
  clear lx
  go_enter Try.func31, Try.ntmps31
  go_wp2
  go_loopw [1, 5] (fun m j wr => ∃ (k : Nat) (zs : List Int), k ≤ n ∧ j = .int .i64 k ∧ m = .int .i64 (q + 5 * (k : Int)) ∧ zs.length = 5 * n ∧ Own wr g zs ∧ (∀ i, i < k * 5 → el zs i = q + (i : Int)) ∧ w.grownBy wr (some g)) (fun _ j _ => n - (intOf j).toNat)
  case atStart => exact ⟨0, xs, Nat.zero_le _, rfl, by simp, HX.out, ha, fun i hi => absurd hi (by omega), World.grownBy.refl _ _⟩
  case round =>
    obtain ⟨k, zs, hk, rfl, rfl, hl, hown, heq, hgr⟩ := hrel
    have HE := hide heq
    have HL := hide hl
    have HO := hide hown
    have HG := hide hgr
    clear heq hl hgr ha
    by_cases hlt : k < n
    · obtain ⟨⟨c0, c1, c2, c3, c4⟩, g0, g1, g2, g3, g4⟩ := hown.five HL.out hlt
      clear hown
      go_wp2
      go_roundw
      case rel =>
        have hk4 : k * 5 + 4 < zs.length := by have := HL.out; omega
        obtain ⟨n0, n1, n2, n3, n4⟩ := set5_new (a := q + 5 * (k : Int)) (b := q + 5 * (k : Int) + 1) (c := q + 5 * (k : Int) + 1 + 1) (d := q + 5 * (k : Int) + 1 + 1 + 1) (e := q + 5 * (k : Int) + 1 + 1 + 1 + 1) hk4
        exact ⟨k + 1, set5 zs k _ _ _ _ _, by omega, by go_num, by rw [show q + 5 * (k : Int) + 1 + 1 + 1 + 1 + 1 = q + 5 * ((k + 1 : Nat) : Int) from by omega], by rw [set5_len]; exact HL.out, HO.out.set5 k _ _ _ _ _,
          snoc5 (fun i hi => (set5_old hi).trans (HE.out i hi)) (by rw [n0]; omega) (by rw [n1]; omega) (by rw [n2]; omega) (by rw [n3]; omega) (by rw [n4]; omega), grown_set5 HG.out (.inl rfl) _ _ _ _ _ _ _ _ _ _⟩
      case measure => simp [intOf]; omega
    · clear hown
      obtain rfl : k = n := by omega
      go_wp2
      go_ret
      have e : zs = marks q (5 * k) := ext_of (by rw [marks_len]; exact HL.out) (fun i hi => by
        have := HL.out
        exact (HE.out i (by omega)).trans (el_marks q _ i (by omega)).symm)
      exact ⟨rfl, by rw [← e]; exact HO.out, HG.out⟩

set_option maxHeartbeats 2000000 in
theorem heldAccessS (w : World) (a : Option Addr) (ca n : Nat) (q : Int) (ha : IRow w a (marks q (5 * n))) (bx : n ≤ 2000000) (q0 : 0 ≤ q) (q1 : q ≤ 100000000) :
    Calls Try.prog 32 #[.slice a n ca, .int .i64 q] w fun e w' => e = .returned (.int .i64 (q + 5 * (n : Int))) ∧ w.grownBy w' none := by
  go_enter Try.func32, Try.ntmps32
  go_wp2
  go_loopw [1, 5] (fun m j wr => ∃ k : Nat, k ≤ n ∧ j = .int .i64 k ∧ m = .int .i64 (q + 5 * (k : Int)) ∧ w.grownBy wr none) (fun _ j _ => n - (intOf j).toNat)
  case atStart => exact ⟨0, Nat.zero_le _, rfl, by simp, World.grownBy.refl _ _⟩
  case round =>
    obtain ⟨k, hk, rfl, rfl, hgr⟩ := hrel
    by_cases hlt : k < n
    · obtain ⟨g1, o1, rfl, p0, p1, p2, p3, p4⟩ := (ha.kept hgr).five (marks_len q (5 * n)) hlt
      rw [show el (marks q (5 * n)) (k * 5) = q + 5 * (k : Int) from by rw [el_marks _ _ _ (by omega)]; omega] at p0
      rw [show el (marks q (5 * n)) (k * 5 + 1) = q + 5 * (k : Int) + 1 from by rw [el_marks _ _ _ (by omega)]; omega] at p1
      rw [show el (marks q (5 * n)) (k * 5 + 2) = q + 5 * (k : Int) + 1 + 1 from by rw [el_marks _ _ _ (by omega)]; omega] at p2
      rw [show el (marks q (5 * n)) (k * 5 + 3) = q + 5 * (k : Int) + 1 + 1 + 1 from by rw [el_marks _ _ _ (by omega)]; omega] at p3
      rw [show el (marks q (5 * n)) (k * 5 + 4) = q + 5 * (k : Int) + 1 + 1 + 1 + 1 from by rw [el_marks _ _ _ (by omega)]; omega] at p4
      clear ha
      go_wp2
      go_roundw
      case rel => exact ⟨k + 1, by omega, by go_num, by rw [show q + 5 * (k : Int) + 1 + 1 + 1 + 1 + 1 = q + 5 * ((k + 1 : Nat) : Int) from by omega], hgr⟩
      case measure => simp [intOf]; omega
    · obtain rfl : k = n := by omega
      go_wp2
      go_ret
      exact ⟨rfl, hgr⟩

theorem markNilA (w : World) (ca : Nat) (q : Int) : Calls Try.prog 31 #[.slice none 0 ca, .int .i64 q] w fun e w' => e = .returned (.int .i64 q) ∧ w' = w := by
  go_enter Try.func31, Try.ntmps31
  go_wp2
  go_loop [1, 5] (fun m j => m = .int .i64 q ∧ j = .int .i64 0) (fun _ _ => 0)
  case atStart => exact ⟨rfl, rfl⟩
  case round =>
    obtain ⟨rfl, rfl⟩ := hrel
    go_wp2
    go_ret
    exact ⟨rfl, rfl⟩

theorem markSlotA (w : World) (base ca n : Nat) (a : Option Addr) (xs : List Int) (q : Int) (h : Slot w base a xs) (lx : xs.length = 5 * n) (bx : n ≤ 2000000) (q0 : 0 ≤ q) (q1 : q ≤ 100000000) :
    Calls Try.prog 31 #[.slice a n ca, .int .i64 q] w fun e w' => e = .returned (.int .i64 (q + 5 * (n : Int))) ∧ Slot w' base a (marks q (5 * n)) ∧ w.grownBy w' (blk a) := by
  rcases h with ⟨rfl, rfl⟩ | ⟨g, rfl, hb, hlt, ho⟩
  · obtain rfl : n = 0 := by simp at lx; omega
    refine (markNilA w ca q).mono ?_
    rintro e w' ⟨rfl, rfl⟩
    exact ⟨by simp, .inl ⟨rfl, by simp [marks]⟩, World.grownBy.refl _ _⟩
  · refine (markAccessS w g ca n xs q ho lx bx q0 q1).mono ?_
    rintro e w' ⟨rfl, ho', hg⟩
    exact ⟨rfl, .inr ⟨g, rfl, hb, Nat.lt_of_lt_of_le hlt hg.size, ho'⟩, hg⟩
end Go.Proofs.Ytbkafdphagmgpaa
