/- Lists of bools: rows, lists in blocks of their own, and what the laws' own functions over them answer. -/
import Derived.Test.YtceipklpbnmggaaFrame
namespace Go.Proofs.Ytceipklpbnmggaa
open Go.RowKit
set_option linter.unusedVariables false
def BRow (w : World) (a : Option Addr) (xs : List Bool) : Prop :=
  ∀ i : Nat, i < xs.length → ∃ g off : Nat, a = some ⟨g, off, none⟩ ∧ w.cell? ⟨g, off + i, none⟩ = some (.bool (xs[i]?.getD false))
def BOwn (w : World) (g : Nat) (xs : List Bool) : Prop :=
  ∀ i : Nat, i < xs.length → w.cell? ⟨g, i, none⟩ = some (.bool (xs[i]?.getD false)) ∧ w.frozen? ⟨g, i, none⟩ = false
def BSlot (w : World) (lo hi : Nat) (a : Option Addr) (xs : List Bool) : Prop :=
  (a = none ∧ xs = []) ∨ ∃ g : Nat, a = some ⟨g, 0, none⟩ ∧ lo ≤ g ∧ g < hi ∧ BOwn w g xs
theorem BRow.kept {w w' : World} {a : Option Addr} {xs : List Bool} (h : BRow w a xs) (hg : w.grownBy w' none) : BRow w' a xs := by
  intro i hi
  obtain ⟨g, off, ea, hc⟩ := h i hi
  refine ⟨g, off, ea, ?_⟩
  rw [World.cell?_of_block (w := w) (hg.block g (World.block_lt_of_cell? _ _ hc) (by simp))]
  exact hc
theorem BOwn.keptS {w w' : World} {g : Nat} {xs : List Bool} {lo hi : Nat} (h : BOwn w g xs) (k : Kept lo hi w w') (hn : ¬ (lo ≤ g ∧ g < hi)) : BOwn w' g xs := by
  intro i hi'
  obtain ⟨hc, hf⟩ := h i hi'
  have e := k.block g (World.block_lt_of_cell? _ _ hc) hn
  exact ⟨by rw [World.cell?_of_block (w := w) e]; exact hc, by rw [World.frozen?_of_block (w := w) e]; exact hf⟩
theorem BOwn.row {w : World} {g : Nat} {xs : List Bool} (h : BOwn w g xs) : BRow w (some ⟨g, 0, none⟩) xs := by
  intro i hi
  exact ⟨g, 0, rfl, by rw [Nat.zero_add]; exact (h i hi).1⟩
theorem BSlot.row {w : World} {l h : Nat} {a : Option Addr} {xs : List Bool} (s : BSlot w l h a xs) : BRow w a xs := by
  rcases s with ⟨_, rfl⟩ | ⟨g, rfl, _, _, ho⟩
  · intro i hi; exact absurd hi (Nat.not_lt_zero i)
  · exact ho.row
theorem BSlot.kept {w w' : World} {l h lo hi : Nat} {a : Option Addr} {xs : List Bool} (s : BSlot w l h a xs) (k : Kept lo hi w w') (hd : h ≤ lo ∨ hi ≤ l ∨ hi ≤ lo) : BSlot w' l h a xs := by
  rcases s with s | ⟨g, ea, g0, g1, ho⟩
  · exact .inl s
  · exact .inr ⟨g, ea, g0, g1, ho.keptS k (by omega)⟩
theorem BOwn.set {w : World} {g k : Nat} {xs : List Bool} (h : BOwn w g xs) (z : Bool) : BOwn (w.setCell ⟨g, k, none⟩ (.bool z)) g (xs.set k z) := by
  intro i hi
  rw [List.length_set] at hi
  obtain ⟨hc, hf⟩ := h i hi
  refine ⟨?_, by simpa using hf⟩
  by_cases e : k = i
  · subst e
    rw [World.cell?_setCell_same _ _ _ hc]
    simp [hi]
  · rw [World.cell?_setCell_other _ _ _ _ (fun q => e (congrArg Addr.off q)), hc]
    simp [e]
theorem extB {xs ys : List Bool} (hl : xs.length = ys.length) (h : ∀ i, i < xs.length → xs[i]?.getD false = ys[i]?.getD false) : xs = ys := by
  apply List.ext_getElem hl
  intro i h1 h2
  have := h i h1
  simpa [h1, h2] using this
theorem bown_of_row {w : World} {base g n cap : Nat} {xs : List Bool} (h : w.ownsRow base 4 1 (.slice (some ⟨g, 0, none⟩) n cap) n (xs.map Value.bool)) : BOwn w g xs := by
  intro i hi
  have hc := h.cells (g := g) rfl i (.bool (xs[i]?.getD false)) (by simp [hi])
  have hadd : (⟨g, 0, none⟩ : Addr).add i = ⟨g, i, none⟩ := by unfold Addr.add; split <;> simp_all
  rw [hadd] at hc
  refine ⟨hc, ?_⟩
  rcases h.2 with ⟨e, _⟩ | ⟨g', cap', cur, e, _, hgg, _⟩
  · cases e
  · cases e
    simp [World.frozen?, hgg]
theorem bslot_row {w : World} {base n : Nat} {v : Value} {xs : List Bool} (h : w.ownsRow base 4 1 v n (xs.map Value.bool)) : ∃ (b : Option Addr) (cb : Nat), v = .slice b n cb ∧ BSlot w base w.heap.size b xs := by
  have h9 := h
  rcases h with ⟨hl, ⟨rfl, e⟩ | ⟨g, cap, cur, e, hb, hgg, hn, _, hsz, ht⟩⟩
  · subst e
    exact ⟨none, 0, rfl, .inl ⟨rfl, by simpa using hl⟩⟩
  · subst e
    exact ⟨some ⟨g, 0, none⟩, cap, rfl, .inr ⟨g, rfl, (h9.lt g rfl).1, (h9.lt g rfl).2, bown_of_row h9⟩⟩
def bmarks (q : Int) (n : Nat) : List Bool := (List.range n).map fun (i : Nat) => (q + (i : Int)) % 3 == 0
theorem bmarks_len (q : Int) (n : Nat) : (bmarks q n).length = n := by simp [bmarks]
theorem bmarks_at (q : Int) (n i : Nat) (h : i < n) : (bmarks q n)[i]?.getD false = ((q + (i : Int)) % 3 == 0) := by simp [bmarks, h]
theorem eqBoolS (w : World) (a b : Option Addr) (ca cb : Nat) (xs ys : List Bool) (ha : BRow w a xs) (hb : BRow w b ys) (lx : xs.length ≤ 2000000) (ly : ys.length ≤ 2000000) :
    Calls Try.prog 27 #[.slice a xs.length ca, .slice b ys.length cb] w fun e w' => e = .returned (.bool (decide (xs = ys))) ∧ w.grownBy w' none := by
  by_cases hl : xs.length = ys.length
  · have kl : (((xs.length : Nat) : Int) != ((ys.length : Nat) : Int)) = false := by simp [hl]
    have HL : Hid (xs.length = ys.length) := hl
    clear hl
    go_enter Try.func27, Try.ntmps27
    go_wp2
    go_loopw [5] (fun j wr => ∃ k : Nat, k ≤ xs.length ∧ j = .int .i64 k ∧ (∀ i, i < k → xs[i]?.getD false = ys[i]?.getD false) ∧ w.grownBy wr none) (fun j _ => xs.length - (intOf j).toNat)
    case atStart => exact ⟨0, Nat.zero_le _, rfl, fun i hi => absurd hi (Nat.not_lt_zero i), World.grownBy.refl _ _⟩
    case round =>
      obtain ⟨k, hk, rfl, heq, hg⟩ := hrel
      by_cases hlt : k < xs.length
      · obtain ⟨g1, o1, rfl, hc1⟩ := ha.kept hg k hlt
        obtain ⟨g2, o2, rfl, hc2⟩ := hb.kept hg k (by have := HL.out; omega)
        have hlt2 : k < ys.length := by have := HL.out; omega
        have HE : Hid (∀ i, i < k → xs[i]?.getD false = ys[i]?.getD false) := heq
        clear heq ha hb
        generalize hp : xs[k]?.getD false = p at hc1
        generalize hq : ys[k]?.getD false = q at hc2
        have HP := hide hp
        have HQ := hide hq
        clear hp hq
        cases p <;> cases q
        · go_wp2
          go_region
          go_wp2
          go_roundw
          case rel => exact ⟨k + 1, by omega, by go_num, snoc_all HE.out (by rw [HP.out, HQ.out]), grownBy_drew hg⟩
          case measure => simp [intOf]; omega
        · go_wp2
          go_region
          go_wp2
          go_ret
          exact ⟨rB (by symm; rw [decide_eq_false_iff_not]; intro e; have h1 := HP.out; rw [e, HQ.out] at h1; cases h1), grownBy_drew hg⟩
        · go_wp2
          go_region
          go_wp2
          go_ret
          exact ⟨rB (by symm; rw [decide_eq_false_iff_not]; intro e; have h1 := HP.out; rw [e, HQ.out] at h1; cases h1), grownBy_drew hg⟩
        · go_wp2
          go_region
          go_wp2
          go_roundw
          case rel => exact ⟨k + 1, by omega, by go_num, snoc_all HE.out (by rw [HP.out, HQ.out]), grownBy_drew hg⟩
          case measure => simp [intOf]; omega
      · have HE : Hid (∀ i, i < k → xs[i]?.getD false = ys[i]?.getD false) := heq
        clear heq
        go_wp2
        go_ret
        exact ⟨rB (by symm; rw [decide_eq_true_iff]; exact extB HL.out (fun i hi => HE.out i (by omega))), hg⟩
  · have kl : (((xs.length : Nat) : Int) != ((ys.length : Nat) : Int)) = true := by rw [bne_iff_ne]; omega
    have HL : Hid (¬ xs.length = ys.length) := hl
    clear hl
    go_enter Try.func27, Try.ntmps27
    go_wp2
    go_ret
    exact ⟨rB (by symm; rw [decide_eq_false_iff_not]; intro e; apply HL.out; rw [e]), World.grownBy.refl _ _⟩
theorem markBoolS (w : World) (g ca : Nat) (xs : List Bool) (q : Int) (ha : BOwn w g xs) (lx : xs.length ≤ 2000000) (q0 : 0 ≤ q) (q1 : q ≤ 100000000) :
    Calls Try.prog 28 #[.slice (some ⟨g, 0, none⟩) xs.length ca, .int .i64 q] w fun e w' => e = .returned (.int .i64 (q + (xs.length : Int))) ∧ BOwn w' g (bmarks q xs.length) ∧ w.grownBy w' (some g) := by
  go_enter Try.func28, Try.ntmps28
  go_wp2
  go_loopw [1, 5] (fun m j wr => ∃ (k : Nat) (zs : List Bool), k ≤ xs.length ∧ j = .int .i64 k ∧ m = .int .i64 (q + (k : Int)) ∧ zs.length = xs.length ∧ BOwn wr g zs ∧ (∀ i, i < k → zs[i]?.getD false = ((q + (i : Int)) % 3 == 0)) ∧ w.grownBy wr (some g)) (fun _ j _ => xs.length - (intOf j).toNat)
  case atStart => exact ⟨0, xs, Nat.zero_le _, rfl, by simp, rfl, ha, fun i hi => absurd hi (Nat.not_lt_zero i), World.grownBy.refl _ _⟩
  case round =>
    obtain ⟨k, zs, hk, rfl, rfl, hl, hown, heq, hgr⟩ := hrel
    have HE : Hid (∀ i, i < k → zs[i]?.getD false = ((q + (i : Int)) % 3 == 0)) := heq
    have HL : Hid (zs.length = xs.length) := hl
    by_cases hlt : k < xs.length
    · obtain ⟨hc2, hf2⟩ := hown k (by omega)
      have hm : (q + (k : Int)).tmod 3 = (q + (k : Int)) % 3 := Int.tmod_eq_emod_of_nonneg (by omega)
      clear heq ha hl
      go_wp2
      go_roundw
      case rel => exact ⟨k + 1, zs.set k ((q + (k : Int)) % 3 == 0), by omega, by go_num, by rw [show q + (k : Int) + 1 = q + ((k + 1 : Nat) : Int) from by omega], by rw [List.length_set]; exact HL.out, hown.set _, (fun i hi => by
        by_cases e : k = i
        · subst e; have := HL.out; simp [show k < zs.length by omega]
        · rw [List.getElem?_set_ne e]; exact HE.out i (by omega)), grownBy_trans hgr (grownBy_set _ _ _ _)⟩
      case measure => simp [intOf]; omega
    · clear heq hl
      obtain rfl : k = xs.length := by omega
      go_wp2
      go_ret
      have e : zs = bmarks q xs.length := extB (by rw [bmarks_len]; exact HL.out) (fun i hi => by rw [bmarks_at q _ i (by have := HL.out; omega)]; exact HE.out i (by have := HL.out; omega))
      exact ⟨rfl, by rw [← e]; exact hown, hgr⟩
theorem heldBoolS (w : World) (a : Option Addr) (ca n : Nat) (q : Int) (ha : BRow w a (bmarks q n)) (lx : n ≤ 2000000) (q0 : 0 ≤ q) (q1 : q ≤ 100000000) :
    Calls Try.prog 29 #[.slice a n ca, .int .i64 q] w fun e w' => e = .returned (.int .i64 (q + (n : Int))) ∧ w.grownBy w' none := by
  go_enter Try.func29, Try.ntmps29
  go_wp2
  go_loopw [1, 5] (fun m j wr => ∃ k : Nat, k ≤ n ∧ j = .int .i64 k ∧ m = .int .i64 (q + (k : Int)) ∧ w.grownBy wr none) (fun _ j _ => n - (intOf j).toNat)
  case atStart => exact ⟨0, Nat.zero_le _, rfl, by simp, World.grownBy.refl _ _⟩
  case round =>
    obtain ⟨k, hk, rfl, rfl, hgr⟩ := hrel
    by_cases hlt : k < n
    · obtain ⟨g1, o1, rfl, hc1⟩ := ha.kept hgr k (by rw [bmarks_len]; exact hlt)
      rw [bmarks_at q n k hlt] at hc1
      have hm : (q + (k : Int)).tmod 3 = (q + (k : Int)) % 3 := Int.tmod_eq_emod_of_nonneg (by omega)
      obtain ⟨B, hB⟩ : ∃ B, ((q + (k : Int)) % 3 == 0) = B := ⟨_, rfl⟩
      have hbb : (B != B) = false := by simp
      clear ha
      go_wp2
      go_roundw
      case rel => exact ⟨k + 1, by omega, by go_num, by rw [show q + (k : Int) + 1 = q + ((k + 1 : Nat) : Int) from by omega], hgr⟩
      case measure => simp [intOf]; omega
    · obtain rfl : k = n := by omega
      go_wp2
      go_ret
      exact ⟨rfl, hgr⟩
end Go.Proofs.Ytceipklpbnmggaa
