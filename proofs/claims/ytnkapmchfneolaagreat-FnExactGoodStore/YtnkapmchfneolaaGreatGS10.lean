/- Lists that rise: in numbers, and what the program's isRising, isRoom, isCached answer. What the program's areUnits answers, at every list. Which flags of a row are dead, as the model tells it. What the model does with a unit's list: its instructions, how many are straight, its skips. -/
import Derived.Test.YtnkapmchfneolaaGreatGS2
import Derived.Test.YtnkapmchfneolaaGreatGS9
import Derived.Sort.OwnSortedInts
import Derived.Test.YtnkapmchfneolaaGreatGS8
import Derived.Test.YtnkapmchfneolaaGreatGS1
namespace Go.Proofs.YtnkapmchfneolaaGreat
open Go.RowKit
set_option linter.unusedVariables false
/-- each number of a list is above the one ahead of it -/
def Pl.Rises (xs : List Int) : Prop := ∀ i, i + 1 < xs.length → el xs i < el xs (i + 1)
noncomputable def Pl.rises (xs : List Int) : Bool := @decide (Pl.Rises xs) (Classical.propDecidable _)
theorem Pl.rises_yes {xs : List Int} (h : Pl.Rises xs) : Pl.rises xs = true := @decide_eq_true _ (Classical.propDecidable _) h
theorem Pl.rises_no {xs : List Int} (h : ¬ Pl.Rises xs) : Pl.rises xs = false := @decide_eq_false _ (Classical.propDecidable _) h
theorem Pl.rises_of {xs : List Int} (h : Pl.rises xs = true) : Pl.Rises xs := @of_decide_eq_true _ (Classical.propDecidable _) h
theorem Pl.Rises.lt {xs : List Int} (h : Pl.Rises xs) {i j : Nat} (hij : i < j) (hj : j < xs.length) : el xs i < el xs j := by
  induction j with
  | zero => omega
  | succ j ih =>
    have h1 := h j hj
    rcases Nat.lt_or_ge i j with q | q
    · have := ih q (by omega); omega
    · obtain rfl : i = j := by omega
      exact h1
theorem el_get {xs : List Int} {i : Nat} (h : i < xs.length) : el xs i = xs[i] := by unfold el; simp [h]
/-- a sorted list rises just where no two of it are alike -/
theorem Pl.rises_sorted (xs : List Int) : Pl.Rises (xs.mergeSort fun x y => decide (x ≤ y)) ↔ xs.Nodup := by
  have hp : (xs.mergeSort fun x y => decide (x ≤ y)).Perm xs := List.mergeSort_perm _ _
  have hs : (xs.mergeSort fun x y => decide (x ≤ y)).Pairwise (fun x y => x ≤ y) := by
    have := List.pairwise_mergeSort (le := fun x y : Int => decide (x ≤ y)) (by intro a b c; simp; omega) (by intro a b; simp; omega) xs
    simpa using this
  rw [← hp.nodup_iff]
  obtain ⟨ys, hy⟩ : ∃ ys, ys = xs.mergeSort fun x y => decide (x ≤ y) := ⟨_, rfl⟩
  rw [← hy] at hs ⊢
  constructor
  · intro h
    rw [List.nodup_iff_pairwise_ne, List.pairwise_iff_getElem]
    intro i j hi hj hij
    have := h.lt hij hj
    rw [el_get hi, el_get hj] at this
    omega
  · intro h i hi
    rw [List.nodup_iff_pairwise_ne, List.pairwise_iff_getElem] at h
    rw [List.pairwise_iff_getElem] at hs
    have h1 := h i (i + 1) (by omega) hi (by omega)
    have h2 := hs i (i + 1) (by omega) hi (by omega)
    rw [el_get (show i < ys.length by omega), el_get hi]
    omega
theorem Pl.nodup_el {xs : List Int} : xs.Nodup ↔ ∀ k, k < xs.length → ∀ j, j < k → el xs j ≠ el xs k := by
  rw [List.nodup_iff_pairwise_ne, List.pairwise_iff_getElem]
  constructor
  · intro h k hk j hj
    rw [el_get (show j < xs.length by omega), el_get hk]
    exact h j k (by omega) hk hj
  · intro h i j hi hj hij
    have := h j hj i hij
    rwa [el_get hi, el_get hj] at this
set_option maxHeartbeats 2000000 in
theorem implRising (w : World) (a : Option Addr) (ca : Nat) (xs : List Int) (ha : IRow w a xs) (bx : xs.length ≤ 2000000) :
    Calls Tryz.prog 65 #[.slice a xs.length ca] w fun e w' => e = .returned (.bool (Pl.rises xs)) ∧ Kept 0 0 w w' := by
  obtain ⟨n, hn⟩ : ∃ n, n = xs.length := ⟨_, rfl⟩
  have HA := hide ha
  have HN := hide hn
  rw [← hn] at bx ⊢
  clear ha hn
  go_enter Tryz.func65, Tryz.ntmps65
  go_wp2
  go_loopw [3] (fun v wr => ∃ k : Nat, 1 ≤ k ∧ k ≤ n + 1 ∧ v = .int .i64 k ∧ (∀ i, i + 1 < k → i + 1 < n → el xs i < el xs (i + 1)) ∧ Kept 0 0 w wr) (fun v _ => n + 1 - (intOf v).toNat)
  case atStart => exact ⟨1, Nat.le_refl _, by omega, rfl, fun i hi => absurd hi (by omega), Kept.refl _ _ _⟩
  case round =>
    obtain ⟨k, hk1, hk, rfl, hall, hg⟩ := hrel
    have HL := hide hall
    have HG := hide hg
    clear hall
    by_cases hlt : k < n
    · obtain ⟨m, rfl⟩ : ∃ m, k = m + 1 := ⟨k - 1, by omega⟩
      obtain ⟨g1, o1, rfl, p0⟩ := (HA.out.keptS hg) m (by have := HN.out; omega)
      obtain ⟨g2, o2, e2, p1⟩ := (HA.out.keptS hg) (m + 1) (by have := HN.out; omega)
      cases e2
      rw [show xs[m]?.getD 0 = el xs m from rfl] at p0
      rw [show xs[m + 1]?.getD 0 = el xs (m + 1) from rfl] at p1
      have ew : IntKind.i64.wrap (m : Int) = (m : Int) := by rw [IntKind.wrap_i64]; omega
      clear hg
      cases hc : decide (el xs (m + 1) ≤ el xs m)
      · go_wp2
        go_region
        go_wp2
        go_roundw
        case rel => exact ⟨m + 1 + 1, by omega, by omega, by go_num, fun i hi hin => (if e : i = m then by subst e; simp at hc; exact hc else HL.out i (by omega) hin), kept_drew HG.out⟩
        case measure => simp [intOf]; omega
      · have E : Hid (Pl.rises xs = false) := hide (Pl.rises_no fun h => by have := h m (by have := HN.out; omega); simp at hc; omega)
        go_wp2
        go_region
        go_wp2
        go_ret
        exact ⟨rB E.out.symm, kept_drew HG.out⟩
    · have E : Hid (Pl.rises xs = true) := hide (Pl.rises_yes fun i hi => HL.out i (by have := HN.out; omega) (by have := HN.out; omega))
      go_wp2
      go_ret
      exact ⟨rB E.out.symm, HG.out⟩
theorem implRoom (w : World) (r : Int) : Calls Tryz.prog 29 #[iv r] w fun e w' => e = .returned (.bool (decide (1 ≤ r) && decide (r ≤ 8))) ∧ w' = w := by
  cases h1 : decide (1 ≤ r) <;> cases h2 : decide (r ≤ 8)
  all_goals
    go_enter Tryz.func29, Tryz.ntmps29
    go_wp2_with fail
    go_ret
    exact ⟨rB (by simp), rfl⟩
set_option maxHeartbeats 2000000 in
theorem implCached (w : World) (x : Pl.Ck) (a : Option Addr) (ca : Nat) (c : Int) (ha : MRow w a x.n x.ys x.ts x.sk) (ok : Pl.CkOk x) (bx : x.n ≤ 2000000) :
    Calls Tryz.prog 63 #[.agg #[iv x.f, iv x.t, .slice a x.n ca, iv x.u], iv c] w fun e w' => e = .returned (.bool (Pl.goodC c x)) ∧ Kept 0 0 w w' := by
  obtain ⟨ly, _, _, wy, _, _, _, _, _⟩ := ok
  obtain ⟨f, t, n, ys, ts, sk, u⟩ := x
  simp only at ha bx ly wy ⊢
  have K0 := hide (kept_alloc w (.cells #[iv f, iv t, .slice a n ca, iv u] 55))
  have P0 := hide (Blk.new w #[iv f, iv t, .slice a n ca, iv u] 55)
  have HA := hide (ha.keptS K0.out)
  have LY := hide ly
  have WY := hide wy
  clear ha ly wy
  cases hG : Pl.goodU f t n ys ts sk
  · have E : Hid (Pl.goodC c ⟨f, t, n, ys, ts, sk, u⟩ = false) := hide (by unfold Pl.goodC; simp only; rw [hG]; rfl)
    go_enter Tryz.func63, Tryz.ntmps63
    go_wp2_with (first | (go_at_call 46; refine (implGoodUnit _ f t a ca n ys ts sk HA.out LY.out WY.out bx).mono ?_; rw [hG]; rintro e9 w2 ⟨rfl, k2⟩; have K2 := hide (K0.out.trans k2); have p2 := (P0.out.kept0 k2).all; clear k2))
    go_ret
    exact ⟨rB E.out.symm, K2.out⟩
  · cases h1 : decide (0 ≤ u) <;> cases h2 : decide (u ≤ c)
    all_goals
      obtain ⟨V, hV⟩ : ∃ V, V = (decide (0 ≤ u) && decide (u ≤ c)) := ⟨_, rfl⟩
      have E : Hid (Pl.goodC c ⟨f, t, n, ys, ts, sk, u⟩ = V) := hide (by unfold Pl.goodC; simp only; rw [hG, hV]; rfl)
      rw [h1, h2] at hV
      go_enter Tryz.func63, Tryz.ntmps63
      go_wp2_with (first | (go_at_call 46; refine (implGoodUnit _ f t a ca n ys ts sk HA.out LY.out WY.out bx).mono ?_; rw [hG]; rintro e9 w2 ⟨rfl, k2⟩; have K2 := hide (K0.out.trans k2); have p2 := (P0.out.kept0 k2).all; clear k2))
      go_ret
      exact ⟨rB (by rw [E.out, hV]; rfl), K2.out⟩
end Go.Proofs.YtnkapmchfneolaaGreat

namespace Go.Proofs.YtnkapmchfneolaaGreat
open Go.RowKit
set_option linter.unusedVariables false
/-- where the first k of a list begin, and when they were used -/
def Pl.froms (us : List Pl.Ck) (k : Nat) : List Int := (List.range k).map fun i => (Pl.ck us i).f
def Pl.uses (us : List Pl.Ck) (k : Nat) : List Int := (List.range k).map fun i => (Pl.ck us i).u
theorem Pl.froms_len (us : List Pl.Ck) (k : Nat) : (Pl.froms us k).length = k := by simp [Pl.froms]
theorem Pl.uses_len (us : List Pl.Ck) (k : Nat) : (Pl.uses us k).length = k := by simp [Pl.uses]
theorem Pl.froms_s (us : List Pl.Ck) (k : Nat) : Pl.froms us (k + 1) = Pl.froms us k ++ [(Pl.ck us k).f] := by simp [Pl.froms, List.range_succ]
theorem Pl.uses_s (us : List Pl.Ck) (k : Nat) : Pl.uses us (k + 1) = Pl.uses us k ++ [(Pl.ck us k).u] := by simp [Pl.uses, List.range_succ]
theorem Pl.froms_el (us : List Pl.Ck) {k i : Nat} (h : i < k) : el (Pl.froms us k) i = (Pl.ck us i).f := by unfold el Pl.froms; simp [h]
theorem Pl.uses_el (us : List Pl.Ck) {k i : Nat} (h : i < k) : el (Pl.uses us k) i = (Pl.ck us i).u := by unfold el Pl.uses; simp [h]
theorem Twin.kept0 {c : Nat} {w w' : World} {va vb : Value} {xs ys : List Int} (h : Twin c w va vb xs ys) (k : Kept 0 0 w w') : Twin c w' va vb xs ys := ⟨h.oa.kept k.grown (Classical.em _), h.ob.kept k.grown (Classical.em _), h.ne⟩
theorem Twin.keptW {c : Nat} {w w1 w' : World} {va vb : Value} {xs ys : List Int} (h : Twin c w va vb xs ys) (k : Kept 0 0 w w1) (k2 : Kept 0 0 w1 w') : Twin c w' va vb xs ys := h.kept0 (k.trans k2)
/-- what areUnits tells -/
noncomputable def Pl.areU (c : Int) (us : List Pl.Ck) : Bool := @decide ((∀ k, k < us.length → Pl.goodC c (Pl.ck us k) = true) ∧ Pl.Rises (Pl.froms us us.length) ∧ (Pl.uses us us.length).Nodup) (Classical.propDecidable _)
theorem Pl.areU_yes {c : Int} {us : List Pl.Ck} (h : (∀ k, k < us.length → Pl.goodC c (Pl.ck us k) = true) ∧ Pl.Rises (Pl.froms us us.length) ∧ (Pl.uses us us.length).Nodup) : Pl.areU c us = true := @decide_eq_true _ (Classical.propDecidable _) h
theorem Pl.areU_no {c : Int} {us : List Pl.Ck} (h : ¬ ((∀ k, k < us.length → Pl.goodC c (Pl.ck us k) = true) ∧ Pl.Rises (Pl.froms us us.length) ∧ (Pl.uses us us.length).Nodup)) : Pl.areU c us = false := @decide_eq_false _ (Classical.propDecidable _) h
/-- a list of the call's own, sorted -/
theorem sortOwn (w : World) (base : Nat) (v : Value) (U : List Int) (h : w.ownsRow base 3 1 v U.length (U.map (Value.int .i64))) (lu : U.length ≤ 2000000) :
    Calls Tryz.prog 64 #[v] w fun e w' => e = .returned (.tuple #[]) ∧ w'.ownsRow base 3 1 v U.length ((U.mergeSort fun x y => decide (x ≤ y)).map (Value.int .i64)) ∧ w.grownBy w' v.ownBlock := by
  have h9 := h
  rcases h.2 with ⟨rfl, n0⟩ | ⟨g, cap, cur, rfl, hb, hgg, hn, hc, hsz, ht⟩
  · obtain rfl : U = [] := List.length_eq_zero_iff.1 n0
    refine (Tryz.slices_Sort_int_none none 0 w).mono ?_
    rintro e w' ⟨rfl, rfl⟩
    exact ⟨rfl, by simpa using h9, World.grownBy.refl _ _⟩
  · rw [Nat.mul_one] at ht
    refine (Tryz.slices_Sort_int g 0 cap U w (holds_of_blockI hgg ht) (h9.lt g rfl).2 (by omega)).mono ?_
    rintro e w' ⟨rfl, n, os, rfl⟩
    exact ⟨rfl, ownsRow_sortedI (by simp) hb hgg hn hc hsz, grownBy_sortedI _⟩
theorem irow_owns {w : World} {base n : Nat} {v : Value} {xs : List Int} (h : w.ownsRow base 3 1 v n (xs.map (Value.int .i64))) : ∃ (b : Option Addr) (cb : Nat), v = .slice b n cb ∧ IRow w b xs := by
  have hl : xs.length = n := by simpa using h.1
  subst hl
  obtain ⟨b, cb, e, hs⟩ := slotIn_row h
  exact ⟨b, cb, e, hs.row⟩
set_option maxRecDepth 100000 in
set_option maxHeartbeats 8000000 in
theorem implAreUnits (w : World) (c : Int) (a : Option Addr) (ca : Nat) (us : List Pl.Ck) (ha : CRow w a us) (hok : ∀ k, k < us.length → Pl.CkOk (Pl.ck us k)) (bx : us.length ≤ 2000000) (bn : ∀ k, k < us.length → (Pl.ck us k).n ≤ 2000000) :
    Calls Tryz.prog 30 #[.slice a us.length ca, iv c] w fun e w' => e = .returned (.bool (Pl.areU c us)) ∧ Kept 0 0 w w' := by
  obtain ⟨ti, hi0, hz0, hz1, hz2⟩ := info_parts Tryz.info3
  obtain ⟨n, hn⟩ : ∃ n, n = us.length := ⟨_, rfl⟩
  have HA := hide ha
  have HN := hide hn
  have HO := hide hok
  rw [← hn] at bx ⊢
  clear ha hn hok
  go_enter Tryz.func30, Tryz.ntmps30
  go_wp2
  go_loopw [5, 6, 11] (fun va vb j wr => ∃ k : Nat, k ≤ n ∧ j = .int .i64 k ∧ Twin w.heap.size wr va vb (Pl.froms us k) (Pl.uses us k) ∧ (∀ i, i < k → Pl.goodC c (Pl.ck us i) = true) ∧ Kept 0 0 w wr) (fun _ _ j _ => n - (intOf j).toNat)
  case atStart => exact ⟨0, Nat.zero_le _, rfl, ⟨World.ownsRow_nil _ _ _ _, World.ownsRow_nil _ _ _ _, .inl rfl⟩, fun i hi => absurd hi (Nat.not_lt_zero i), Kept.refl _ _ _⟩
  case round =>
    obtain ⟨k, hk, rfl, htw, hall, hkept⟩ := hrel
    have HT := hide htw
    have HL := hide hall
    have HK := hide hkept
    clear htw hall
    by_cases hlt : k < n
    · have hlu : k < us.length := by rw [← HN.out]; exact hlt
      obtain ⟨g9, of9, b1, cb1, rfl, p0, p1, p2, p3, pm⟩ := (HA.out.keptS hkept).at4 hlu
      have bk := bn k hlu
      have ok1 := HO.out k hlu
      have PM := hide (pm.keptS (kept_alloc wr (.cells #[iv (Pl.ck us k).f, iv (Pl.ck us k).t, .slice b1 (Pl.ck us k).n cb1, iv (Pl.ck us k).u] 55)))
      have BX := hide (Blk.new wr #[iv (Pl.ck us k).f, iv (Pl.ck us k).t, .slice b1 (Pl.ck us k).n cb1, iv (Pl.ck us k).u] 55)
      have HKX := hide (kept_new HK.out (.cells #[iv (Pl.ck us k).f, iv (Pl.ck us k).t, .slice b1 (Pl.ck us k).n cb1, iv (Pl.ck us k).u] 55))
      clear pm hkept
      cases hG : Pl.goodC c (Pl.ck us k)
      · have E : Hid (Pl.areU c us = false) := hide (Pl.areU_no fun h => by have := h.1 k hlu; rw [hG] at this; cases this)
        go_wp2_with (first | (go_at_call 63; refine (implCached _ (Pl.ck us k) b1 cb1 c PM.out ok1 bk).mono ?_; rw [hG]; rintro e9 W5 ⟨rfl, k5⟩; have K5 := hide (HKX.out.trans k5); have BX5 := hide (BX.out.kept0 k5); have HT5 := hide (HT.out.keptW (kept_new (Kept.refl 0 0 wr) (.cells #[iv (Pl.ck us k).f, iv (Pl.ck us k).t, .slice b1 (Pl.ck us k).n cb1, iv (Pl.ck us k).u] 55)) k5); clear k5))
        go_ret
        exact ⟨rB E.out.symm, K5.out⟩
      · go_wp2_with (first | (go_at_call 63; refine (implCached _ (Pl.ck us k) b1 cb1 c PM.out ok1 bk).mono ?_; rw [hG]; rintro e9 W5 ⟨rfl, k5⟩; have K5 := hide (HKX.out.trans k5); have BX5 := hide (BX.out.kept0 k5); have HT5 := hide (HT.out.keptW (kept_new (Kept.refl 0 0 wr) (.cells #[iv (Pl.ck us k).f, iv (Pl.ck us k).t, .slice b1 (Pl.ck us k).n cb1, iv (Pl.ck us k).u] 55)) k5); clear k5))
        have HLN : Hid ((Pl.froms us k).length = k ∧ (Pl.uses us k).length = k ∧ k ≤ 2000000) := hide ⟨Pl.froms_len us k, Pl.uses_len us k, by omega⟩
        have TW0 : Hid (Two w w.heap.size wr.heap.size #[iv (Pl.ck us k).f, iv (Pl.ck us k).t, .slice b1 (Pl.ck us k).n cb1, iv (Pl.ck us k).u] 55 u5 u6 (Pl.froms us k) (Pl.uses us k) (Pl.ck us k).f (Pl.ck us k).u (Array.replicate 13 false) W5.drew 0 0 u5 u6) := hide ⟨fun q => absurd q (by decide), fun q => absurd q (by decide), fun _ => ⟨HT5.out.oa, HT5.out.ob, HT5.out.ne⟩, fun q => absurd q (by decide), fun q => absurd q (by decide), fun q => absurd q (by decide), fun q => absurd q (by decide), fun q => absurd q (by decide), BX5.out, fun g q => (HT.out.oa.lt g q).2, fun g q => (HT.out.ob.lt g q).2, kept_drew K5.out, HK.out.size, by omega⟩
        refine wp_region_inv2 (fun A0 l A W => ∃ (g1 g2 : Nat) (x5 x6 : Value), FR [19, 20, 21, 22, 23, 24, 25, 26, 27, 28, 29, 5, 6] A0 A ∧ Once l 0 (A.tmps[19]? = some (u5)) ∧ Once l 1 (A.tmps[20]? = some (.pointer (some ⟨wr.heap.size, 0, none⟩))) ∧ Once l 2 (A.tmps[21]? = some (.pointer (some ⟨wr.heap.size, 0, none⟩))) ∧ Once l 3 (A.tmps[22]? = some (iv (Pl.ck us k).f)) ∧ Once l 4 (A.tmps[23]? = some (.slice (some ⟨g1, 0, none⟩) 1 1)) ∧ Once l 5 (A.tmps[24]? = some (x5)) ∧ Once l 6 (A.tmps[25]? = some (u6)) ∧ Once l 7 (A.tmps[26]? = some (.pointer (some ⟨wr.heap.size, 3, none⟩))) ∧ Once l 8 (A.tmps[27]? = some (iv (Pl.ck us k).u)) ∧ Once l 9 (A.tmps[28]? = some (.slice (some ⟨g2, 0, none⟩) 1 1)) ∧ Once l 10 (A.tmps[29]? = some (x6)) ∧ Once l 11 (A.tmps[5]? = some (x5)) ∧ Once l 12 (A.tmps[6]? = some (x6)) ∧ (l.getD 0 true = false → A.tmps[5]? = some u5) ∧ (l.getD 6 true = false → A.tmps[6]? = some u6) ∧ Two w w.heap.size wr.heap.size #[iv (Pl.ck us k).f, iv (Pl.ck us k).t, .slice b1 (Pl.ck us k).n cb1, iv (Pl.ck us k).u] 55 u5 u6 (Pl.froms us k) (Pl.uses us k) (Pl.ck us k).f (Pl.ck us k).u l W g1 g2 x5 x6) (by kernel_rfl) (by kernel_rfl) ?start ?fin ?step
        case start => exact ⟨0, 0, u5, u6, FR.refl _ _, once_start (by decide), once_start (by decide), once_start (by decide), once_start (by decide), once_start (by decide), once_start (by decide), once_start (by decide), once_start (by decide), once_start (by decide), once_start (by decide), once_start (by decide), once_start (by decide), once_start (by decide), fun _ => rfl, fun _ => rfl, TW0.out⟩
        case fin =>
          intro l A W h hl
          obtain ⟨g1, g2, x5, x6, hFR, o0, o1, o2, o3, o4, o5, o6, o7, o8, o9, o10, o11, o12, q5, q6, tw⟩ := h
          have T5 := tw.tt (hl 10 (by decide))
          have TK := tw.kw
          have TZ := tw.bx.lt
          have g11 := o11 (hl 11 (by decide))
          have g12 := o12 (hl 12 (by decide))
          have hc9 := hFR.chain
          simp only [List.foldl] at hc9
          rw [getD_of g11, getD_of g12] at hc9
          clear hl hFR tw q5 q6 g11 g12 o0 o1 o2 o3 o4 o5 o6 o7 o8 o9 o10 o11 o12
          generalize A.tmps.getD 19 undef = s19 at hc9
          generalize A.tmps.getD 20 undef = s20 at hc9
          generalize A.tmps.getD 21 undef = s21 at hc9
          generalize A.tmps.getD 22 undef = s22 at hc9
          generalize A.tmps.getD 23 undef = s23 at hc9
          generalize A.tmps.getD 24 undef = s24 at hc9
          generalize A.tmps.getD 25 undef = s25 at hc9
          generalize A.tmps.getD 26 undef = s26 at hc9
          generalize A.tmps.getD 27 undef = s27 at hc9
          generalize A.tmps.getD 28 undef = s28 at hc9
          generalize A.tmps.getD 29 undef = s29 at hc9
          subst hc9
          go_simp
          go_wp2_with fail
          go_roundw
          case rel => exact ⟨k + 1, by omega, by go_num, by rw [Pl.froms_s, Pl.uses_s]; exact T5, snoc_all HL.out hG, TK⟩
          case measure => simp [intOf]; omega
        case step =>
          intro l A W i hI hm
          obtain ⟨g1, g2, x5, x6, hFR, o0, o1, o2, o3, o4, o5, o6, o7, o8, o9, o10, o11, o12, q5, q6, tw⟩ := hI
          obtain ⟨hi1, hi2⟩ := ready_new hm
          have hsz : Hid (29 < A.tmps.size) := hide (by rw [hFR.size]; simp)
          have m8 : A.tmps[8]? = some (.pointer (some ⟨wr.heap.size, 0, none⟩)) := (hFR.out 8 (by decide)).trans rfl
          rcases i with _ | _ | _ | _ | _ | _ | _ | _ | _ | _ | _ | _ | _ | i
          · have a5 := q5 hi2
            refine wpOp_step rfl (fun KK hK2 => ?_)
            go_simp
            exact hK2 (A.put (some 19) (u5)) W ⟨g1, g2, x5, x6, hFR.put (by decide) _, .now (put_eq (by have hz := hsz.out; omega)), o1.q, o2.q, o3.q, o4.q, o5.q, o6.q, o7.q, o8.q, o9.q, o10.q, o11.q, o12.q, keepA q5 (by decide), keepA q6 (by decide), tw.other (by decide)⟩
          · refine wpOp_step rfl (fun KK hK2 => ?_)
            go_simp
            exact hK2 (A.put (some 20) (.pointer (some ⟨wr.heap.size, 0, none⟩))) W ⟨g1, g2, x5, x6, hFR.put (by decide) _, o0.q, .now (put_eq (by have hz := hsz.out; omega)), o2.q, o3.q, o4.q, o5.q, o6.q, o7.q, o8.q, o9.q, o10.q, o11.q, o12.q, keepA q5 (by decide), keepA q6 (by decide), tw.other (by decide)⟩
          · have e1 := o1 (ready_dep hm 1 (by kernel_rfl))
            refine wpOp_step rfl (fun KK hK2 => ?_)
            go_simp
            exact hK2 (A.put (some 21) (.pointer (some ⟨wr.heap.size, 0, none⟩))) W ⟨g1, g2, x5, x6, hFR.put (by decide) _, o0.q, o1.q, .now (put_eq (by have hz := hsz.out; omega)), o3.q, o4.q, o5.q, o6.q, o7.q, o8.q, o9.q, o10.q, o11.q, o12.q, keepA q5 (by decide), keepA q6 (by decide), tw.other (by decide)⟩
          · have e2 := o2 (ready_dep hm 2 (by kernel_rfl))
            have x0 := tw.bx.all
            refine wpOp_step rfl (fun KK hK2 => ?_)
            go_simp
            exact hK2 (A.put (some 22) (iv (Pl.ck us k).f)) W ⟨g1, g2, x5, x6, hFR.put (by decide) _, o0.q, o1.q, o2.q, .now (put_eq (by have hz := hsz.out; omega)), o4.q, o5.q, o6.q, o7.q, o8.q, o9.q, o10.q, o11.q, o12.q, keepA q5 (by decide), keepA q6 (by decide), tw.other (by decide)⟩
          · have e3 := o3 (ready_dep hm 3 (by kernel_rfl))
            refine wpOp_step rfl (fun KK hK2 => ?_)
            go_simp
            exact hK2 (A.put (some 23) (.slice (some ⟨W.heap.size, 0, none⟩) 1 1)) _ ⟨W.heap.size, g2, x5, x6, hFR.put (by decide) _, o0.q, o1.q, o2.q, o3.q, .now (put_eq (by have hz := hsz.out; omega)), o5.q, o6.q, o7.q, o8.q, o9.q, o10.q, o11.q, o12.q, keepA q5 (by decide), keepA q6 (by decide), tw.op4 _⟩
          · have e0 := o0 (ready_dep hm 0 (by kernel_rfl))
            have e4 := o4 (ready_dep hm 4 (by kernel_rfl))
            obtain ⟨d0, _, _⟩ := tw.c4 (ready_dep hm 4 (by kernel_rfl))
            refine wpOp_step rfl (fun KK hK2 => ?_)
            refine wp_append_at (.tmp 19) (.tmp 23) 91 rfl (w.heap.size + 1) 3 ti (iv 0) 1 8 Tryz.underlying91 hi0 hz0 hz1 hz2 rfl (by decide) u5 (Pl.froms us k).length ((Pl.froms us k).map (Value.int .i64)) (getD_of e0) (tw.t0 hi2).oa ⟨g1, 0, none⟩ 1 1 [iv (Pl.ck us k).f] (getD_of e4) rfl (news_at d0) (by intro u hu; simp at hu; subst hu; rfl) (by unfold maxLen; have := HLN.out; omega) (by have := HLN.out; omega) tw.sz ?_
            intro v' W' hown hgr hat
            exact hK2 (A.put (some 24) (v')) _ ⟨g1, g2, v', x6, hFR.put (by decide) _, o0.q, o1.q, o2.q, o3.q, o4.q, .now (put_eq (by have hz := hsz.out; omega)), o6.q, o7.q, o8.q, o9.q, o10.q, fun e => absurd (tw.k11 ((getD_set_ne (by decide)).symm.trans e)) (by rw [hi2]; decide), o12.q, keepA q5 (by decide), keepA q6 (by decide), tw.op5 hi2 hown hgr hat⟩
          · have a6 := q6 hi2
            refine wpOp_step rfl (fun KK hK2 => ?_)
            go_simp
            exact hK2 (A.put (some 25) (u6)) W ⟨g1, g2, x5, x6, hFR.put (by decide) _, o0.q, o1.q, o2.q, o3.q, o4.q, o5.q, .now (put_eq (by have hz := hsz.out; omega)), o7.q, o8.q, o9.q, o10.q, o11.q, o12.q, keepA q5 (by decide), keepA q6 (by decide), tw.other (by decide)⟩
          · refine wpOp_step rfl (fun KK hK2 => ?_)
            go_simp
            exact hK2 (A.put (some 26) (.pointer (some ⟨wr.heap.size, 3, none⟩))) W ⟨g1, g2, x5, x6, hFR.put (by decide) _, o0.q, o1.q, o2.q, o3.q, o4.q, o5.q, o6.q, .now (put_eq (by have hz := hsz.out; omega)), o8.q, o9.q, o10.q, o11.q, o12.q, keepA q5 (by decide), keepA q6 (by decide), tw.other (by decide)⟩
          · have e7 := o7 (ready_dep hm 7 (by kernel_rfl))
            have x0 := tw.bx.all
            refine wpOp_step rfl (fun KK hK2 => ?_)
            go_simp
            exact hK2 (A.put (some 27) (iv (Pl.ck us k).u)) W ⟨g1, g2, x5, x6, hFR.put (by decide) _, o0.q, o1.q, o2.q, o3.q, o4.q, o5.q, o6.q, o7.q, .now (put_eq (by have hz := hsz.out; omega)), o9.q, o10.q, o11.q, o12.q, keepA q5 (by decide), keepA q6 (by decide), tw.other (by decide)⟩
          · have e8 := o8 (ready_dep hm 8 (by kernel_rfl))
            refine wpOp_step rfl (fun KK hK2 => ?_)
            go_simp
            exact hK2 (A.put (some 28) (.slice (some ⟨W.heap.size, 0, none⟩) 1 1)) _ ⟨g1, W.heap.size, x5, x6, hFR.put (by decide) _, o0.q, o1.q, o2.q, o3.q, o4.q, o5.q, o6.q, o7.q, o8.q, .now (put_eq (by have hz := hsz.out; omega)), o10.q, o11.q, o12.q, keepA q5 (by decide), keepA q6 (by decide), tw.op9 _⟩
          · have e6 := o6 (ready_dep hm 6 (by kernel_rfl))
            have e9 := o9 (ready_dep hm 9 (by kernel_rfl))
            obtain ⟨d0, _, _⟩ := tw.c9 (ready_dep hm 9 (by kernel_rfl))
            refine wpOp_step rfl (fun KK hK2 => ?_)
            refine wp_append_at (.tmp 25) (.tmp 28) 91 rfl (w.heap.size + 1) 3 ti (iv 0) 1 8 Tryz.underlying91 hi0 hz0 hz1 hz2 rfl (by decide) u6 (Pl.uses us k).length ((Pl.uses us k).map (Value.int .i64)) (getD_of e6) (tw.t5 (ready_dep hm 5 (by kernel_rfl)) hi2).ob ⟨g2, 0, none⟩ 1 1 [iv (Pl.ck us k).u] (getD_of e9) rfl (news_at d0) (by intro u hu; simp at hu; subst hu; rfl) (by unfold maxLen; have := HLN.out; omega) (by have := HLN.out; omega) tw.sz ?_
            intro v' W' hown hgr hat
            exact hK2 (A.put (some 29) (v')) _ ⟨g1, g2, x5, v', hFR.put (by decide) _, o0.q, o1.q, o2.q, o3.q, o4.q, o5.q, o6.q, o7.q, o8.q, o9.q, .now (put_eq (by have hz := hsz.out; omega)), o11.q, fun e => absurd (tw.k12 ((getD_set_ne (by decide)).symm.trans e)) (by rw [hi2]; decide), keepA q5 (by decide), keepA q6 (by decide), tw.op10 (ready_dep hm 5 (by kernel_rfl)) hi2 hown hgr hat⟩
          · have e5 := o5 (ready_dep hm 5 (by kernel_rfl))
            refine wpOp_step rfl (fun KK hK2 => ?_)
            go_simp
            exact hK2 (A.put (some 5) (x5)) W ⟨g1, g2, x5, x6, hFR.put (by decide) _, o0.q, o1.q, o2.q, o3.q, o4.q, o5.q, o6.q, o7.q, o8.q, o9.q, o10.q, .now (put_eq (by have hz := hsz.out; omega)), o12.q, fun e => absurd ((getD_set_ne (by decide)).symm.trans e) (by rw [ready_dep hm 0 (by kernel_rfl)]; decide), keepA q6 (by decide), tw.op11 (ready_dep hm 5 (by kernel_rfl))⟩
          · have e10 := o10 (ready_dep hm 10 (by kernel_rfl))
            refine wpOp_step rfl (fun KK hK2 => ?_)
            go_simp
            exact hK2 (A.put (some 6) (x6)) W ⟨g1, g2, x5, x6, hFR.put (by decide) _, o0.q, o1.q, o2.q, o3.q, o4.q, o5.q, o6.q, o7.q, o8.q, o9.q, o10.q, o11.q, .now (put_eq (by have hz := hsz.out; omega)), keepA q5 (by decide), fun e => absurd ((getD_set_ne (by decide)).symm.trans e) (by rw [ready_dep hm 6 (by kernel_rfl)]; decide), tw.op12 (ready_dep hm 10 (by kernel_rfl))⟩
          · simp at hi1
            omega
    · obtain rfl : k = n := by omega
      have T := HT.out
      obtain ⟨F, hF⟩ : ∃ F, F = Pl.froms us k := ⟨_, rfl⟩
      obtain ⟨U, hU⟩ : ∃ U, U = Pl.uses us k := ⟨_, rfl⟩
      obtain ⟨S, hS⟩ : ∃ S, S = U.mergeSort fun x y => decide (x ≤ y) := ⟨_, rfl⟩
      have E : Hid (Pl.areU c us = (Pl.rises F && Pl.rises S)) := hide (by
        have hn := HN.out
        cases h1 : Pl.rises F
        · exact Pl.areU_no fun h => by have h2 := Pl.rises_yes h.2.1; rw [← hn, ← hF, h1] at h2; cases h2
        · cases h2 : Pl.rises S
          · exact Pl.areU_no fun h => by have h3 := Pl.rises_yes ((Pl.rises_sorted _).2 h.2.2); rw [← hn, ← hU, ← hS, h2] at h3; cases h3
          · exact Pl.areU_yes ⟨fun i hi => HL.out i (by omega), by rw [← hn, ← hF]; exact Pl.rises_of h1, by rw [← hn, ← hU]; exact (Pl.rises_sorted _).1 (by rw [← hS]; exact Pl.rises_of h2)⟩)
      have LF : Hid (F.length ≤ 2000000) := hide (by rw [hF, Pl.froms_len]; omega)
      have LU : Hid (U.length ≤ 2000000) := hide (by rw [hU, Pl.uses_len]; omega)
      have LS : Hid (S.length = U.length) := hide (by rw [hS]; simp)
      have HS := hide hS
      rw [← hF, ← hU] at T
      have TO := hide T
      obtain ⟨a5, c5, rfl, s5⟩ := irow_owns T.oa
      obtain ⟨a6, c6, rfl, s6⟩ := irow_owns T.ob
      clear T hF hU hS s5 s6 hkept
      cases h1 : Pl.rises F <;> cases h2 : Pl.rises S
      all_goals
        go_wp2_with (first
          | (go_at_call 64; refine (sortOwn _ (w.heap.size + 1) _ U TO.out.ob LU.out).mono ?_; rintro e9 w7 ⟨rfl, o7, gr7⟩; have SO : Hid (IRow w7 a6 S) := hide (by obtain ⟨b, cb, e, hr⟩ := irow_owns o7; cases e; rw [HS.out]; exact hr); have FO : Hid (IRow w7 a5 F) := hide (by obtain ⟨b, cb, e, hr⟩ := irow_owns (TO.out.oa.kept gr7 TO.out.ne); cases e; exact hr); have K7 := hide (kept_over HK.out (kept_row (lo := w.heap.size) (hi := wr.heap.size) gr7 (fun g q => ⟨by have := (TO.out.ob.lt g q).1; omega, (TO.out.ob.lt g q).2⟩)) (Nat.le_refl _)); clear o7 gr7)
          | (go_at_call 65; refine (implRising _ a5 c5 F FO.out LF.out).mono ?_; rw [h1]; rintro e9 w8 ⟨rfl, k8⟩; have K8 := hide (K7.out.trans k8); have SO8 := hide (SO.out.keptS k8); clear k8 FO)
          | (go_at_call 65; rw [← LS.out]; refine (implRising _ a6 c6 S SO8.out (by rw [LS.out]; exact LU.out)).mono ?_; rw [h2]; rintro e9 w9 ⟨rfl, k9⟩; have K9 := hide (K8.out.trans k9); clear k9))
        go_ret
        exact ⟨rB (by rw [E.out, h1, h2]; rfl), by first | exact K9.out | exact K8.out⟩
end Go.Proofs.YtnkapmchfneolaaGreat

namespace Go.Proofs.YtnkapmchfneolaaGreat
open Go.RowKit
set_option linter.unusedVariables false
set_option maxRecDepth 20000 in
set_option maxHeartbeats 8000000 in
theorem specDead (w : World) (a : Option Addr) (ca n : Nat) (ys : List Int) (ha : IRow w a ys) (ly : ys.length = 7 * n) (hn : n ≤ 16) (hr : Pl.rowS ys n = true) : Calls Tryz.prog 89 #[.slice a n ca] w fun e' w' => e' = .returned (.slice (some ⟨w.heap.size, 0, none⟩) n n) ∧ BBk w' w.heap.size (Pl.deads ys n n) ∧ Kept 0 0 w w' ∧ w.heap.size < w'.heap.size := by
  have HA := hide ha
  have HY := hide ly
  have HR := hide hr
  clear ha ly hr
  have mk := mkB n hn
  have B := bbk_newN w n
  rw [← Pl.deads_zero ys n] at B
  have K : Kept 0 0 w (w.alloc (.cells (Array.replicate n (.bool false)) 4)) := kept_alloc _ _
  have S : w.heap.size < (w.alloc (.cells (Array.replicate n (.bool false)) 4)).heap.size := by rw [World.size_alloc]; omega
  have ewn : IntKind.i64.wrap ((n : Int) - 1) = (n : Int) - 1 := by rw [IntKind.wrap_i64]; omega
  go_enter Tryz.func89, Tryz.ntmps89
  go_wp2_with fail
  clear mk ewn
  generalize w.alloc (.cells (Array.replicate n (.bool false)) 4) = W0 at *
  go_loopw [4, 5] (fun nd jj wr => ∃ q : Nat, q ≤ n ∧ jj = .int .i64 ((q : Int) - 1) ∧ nd = iv (Pl.needs ys n (n - q)) ∧ BBk wr w.heap.size (Pl.deads ys n (n - q)) ∧ Kept 0 0 w wr ∧ w.heap.size < wr.heap.size) (fun _ jj _ => (intOf jj + 1).toNat)
  case atStart => exact ⟨n, Nat.le_refl _, rfl, by rw [Nat.sub_self]; rfl, by rw [Nat.sub_self]; exact B, K, S⟩
  case round =>
    obtain ⟨q, hq, rfl, rfl, hown, hK, hS⟩ := hrel
    have HO := hide hown
    have HK := hide hK
    have HS := hide hS
    clear hown hK hS B K S
    cases q with
    | zero =>
      have h0 : ¬ ((0 : Int) ≤ ((0 : Nat) : Int) - 1) := by omega
      go_wp2_with fail
      go_ret
      exact ⟨rfl, by rw [Nat.sub_zero] at HO; exact HO.out, HK.out, HS.out⟩
    | succ k =>
      have hk : k < n := by omega
      have hki0 : (0 : Int) ≤ (k : Int) := by omega
      have hki : (k : Int) < (n : Int) := by omega
      have e0 : ((k + 1 : Nat) : Int) - 1 = (k : Int) := by omega
      rw [e0]
      have ewk : IntKind.i64.wrap ((k : Int) - 1) = (k : Int) - 1 := by rw [IntKind.wrap_i64]; omega
      obtain ⟨g1, o1, rfl, p0, p1, p2, p3, p4, p5, p6⟩ := (HA.out.keptS HK.out).at7 HY.out hk
      have B0 := hide (Blk.new wr #[iv (el ys (k * 7)), iv (el ys (k * 7 + 1)), iv (el ys (k * 7 + 2)), iv (el ys (k * 7 + 3)), iv (el ys (k * 7 + 4)), iv (el ys (k * 7 + 5)), iv (el ys (k * 7 + 6))] 87)
      have D0 := hide (Pl.inD_of (Pl.rowS_at HR.out hk))
      have F0 := hide (Pl.needs_in (i := n - (k + 1)) HR.out (by omega))
      have NB : Hid (Pl.needs ys n (n - k) = Pl.needB (Pl.inAt ys k) (Pl.needs ys n (n - (k + 1)))) := hide (by
        rw [show n - k = (n - (k + 1)) + 1 from by omega]
        show Pl.needB (Pl.inAt ys (n - (n - (k + 1) + 1))) _ = _
        rw [show n - (n - (k + 1) + 1) = k from by omega])
      have DS : Hid ((Pl.deads ys n (n - (k + 1))).set k (Pl.deadB (Pl.inAt ys k) (Pl.needs ys n (n - (k + 1)))) = Pl.deads ys n (n - k)) := hide (by
        have q := Pl.deads_set ys n (n - (k + 1)) (by omega)
        rw [show n - (n - (k + 1) + 1) = k from by omega, show n - (k + 1) + 1 = n - k from by omega] at q
        exact q)
      obtain ⟨SS, hSS⟩ : ∃ SS, SS = Pl.sets (Pl.inAt ys k) := ⟨_, rfl⟩
      obtain ⟨N, hN⟩ : ∃ N, N = Pl.needs ys n (n - (k + 1)) := ⟨_, rfl⟩
      rw [← hN] at NB DS F0 ⊢
      obtain ⟨DD, hDD⟩ : ∃ DD, DD = Pl.deadB (Pl.inAt ys k) N := ⟨_, rfl⟩
      rw [← hDD] at DS
      have hne : wr.heap.size ≠ w.heap.size := by have := HS.out; omega
      have NBX : Hid (Pl.needs ys n (n - k) = bits .or .i64 (bits .or .i64 (bits .andNot .i64 N SS) (Pl.reads (Pl.inAt ys k))) (Pl.fl (Pl.mayF (Pl.inAt ys k)) 31)) := hide (by rw [NB.out, hSS]; rfl)
      obtain ⟨MB, hMB⟩ : ∃ MB, MB = Pl.mayW (Pl.inAt ys k) := ⟨_, rfl⟩
      have HDX : Hid (DD = (((SS != 0) && (bits .and .i64 SS N == 0)) && !MB)) := hide (by rw [hDD, hMB, hSS]; rfl)
      have HSS := hide hSS
      have HMB := hide hMB
      clear hSS hN hDD hMB
      cases q1 : (SS != 0) <;> cases q2 : (bits .and .i64 SS N == 0) <;> rw [q1, q2] at HDX
      all_goals
        simp only [Bool.false_and, Bool.true_and, Bool.and_false, Bool.and_true] at HDX
        go_wp2_with (first | (go_at_call 106; refine (specSets _ (el ys (k * 7)) (el ys (k * 7 + 1)) (el ys (k * 7 + 2)) (el ys (k * 7 + 3)) (el ys (k * 7 + 4)) (el ys (k * 7 + 5)) (el ys (k * 7 + 6)) D0.out).mono ?_; rw [show Pl.sets ⟨el ys (k * 7), el ys (k * 7 + 1), el ys (k * 7 + 2), el ys (k * 7 + 3), el ys (k * 7 + 4), el ys (k * 7 + 5), el ys (k * 7 + 6)⟩ = Pl.sets (Pl.inAt ys k) from rfl, ← HSS.out]; rintro e9 w2 ⟨rfl, k2⟩; have B2 := hide (B0.out.kept0 k2); have K2 := hide ((kept_new HK.out _).trans k2); have p2 := B2.out.all; have O2 := hide (HO.out.keptS ((kept_alloc wr _).trans k2) (by omega)); obtain ⟨hc2, hf2⟩ := O2.out.own k (by rw [Pl.deads_len]; omega); have s2 : wr.heap.size < w2.heap.size := B2.out.lt; clear k2) | (go_at_call 107; refine (specMayW _ (el ys (k * 7)) (el ys (k * 7 + 1)) (el ys (k * 7 + 2)) (el ys (k * 7 + 3)) (el ys (k * 7 + 4)) (el ys (k * 7 + 5)) (el ys (k * 7 + 6)) D0.out).mono ?_; rw [show Pl.mayW ⟨el ys (k * 7), el ys (k * 7 + 1), el ys (k * 7 + 2), el ys (k * 7 + 3), el ys (k * 7 + 4), el ys (k * 7 + 5), el ys (k * 7 + 6)⟩ = Pl.mayW (Pl.inAt ys k) from rfl, ← HMB.out]; rintro e9 w3 ⟨rfl, k3⟩; have B3 := hide (B2.out.kept0 k3); have K3 := hide (K2.out.trans k3); clear p2 hc2 hf2; have O3 := hide (O2.out.keptS k3 (by omega)); obtain ⟨hc2, hf2⟩ := O3.out.own k (by rw [Pl.deads_len]; omega); have s3 : wr.heap.size < w3.heap.size := B3.out.lt; clear k3))
        first
        | have z9 := B3
          obtain ⟨WY, hWY⟩ : ∃ WY : World, WY = w3.setCell ⟨w.heap.size, k, none⟩ (.bool (!MB)) := ⟨_, rfl⟩
        | obtain ⟨WY, hWY⟩ : ∃ WY : World, WY = w2.setCell ⟨w.heap.size, k, none⟩ (.bool false) := ⟨_, rfl⟩
        have B5 : Hid (Blk WY wr.heap.size #[iv (el ys (k * 7)), iv (el ys (k * 7 + 1)), iv (el ys (k * 7 + 2)), iv (el ys (k * 7 + 3)), iv (el ys (k * 7 + 4)), iv (el ys (k * 7 + 5)), iv (el ys (k * 7 + 6))] 87) := hide (by rw [hWY]; first | exact B3.out.other _ _ _ hne | exact B2.out.other _ _ _ hne)
        have K5 : Hid (Kept 0 0 w WY) := hide (by rw [hWY]; first | exact kept_set K3.out _ _ _ (.inr (Nat.le_refl _)) | exact kept_set K2.out _ _ _ (.inr (Nat.le_refl _)))
        have O5 : Hid (BBk WY w.heap.size (Pl.deads ys n (n - k))) := hide (by rw [hWY, ← DS.out, HDX.out]; first | exact O3.out.set _ | exact O2.out.set _)
        rw [← hWY]
        clear hWY p2 hc2 hf2
        go_region_held3 (fun w' => w'.cell? ⟨wr.heap.size, 0, none⟩ = some (iv (el ys (k * 7))) ∧ w'.cell? ⟨wr.heap.size, 1, none⟩ = some (iv (el ys (k * 7 + 1))) ∧ w'.cell? ⟨wr.heap.size, 2, none⟩ = some (iv (el ys (k * 7 + 2))) ∧ w'.cell? ⟨wr.heap.size, 3, none⟩ = some (iv (el ys (k * 7 + 3))) ∧ w'.cell? ⟨wr.heap.size, 4, none⟩ = some (iv (el ys (k * 7 + 4))) ∧ w'.cell? ⟨wr.heap.size, 5, none⟩ = some (iv (el ys (k * 7 + 5))) ∧ w'.cell? ⟨wr.heap.size, 6, none⟩ = some (iv (el ys (k * 7 + 6)))) (first | with_reducible exact B7.out.c7 | with_reducible exact B6.out.c7 | exact (show Blk _ _ _ _ from B5.out).c7) (first | (go_at_call 109; refine st (l1Flag _ _ _) ?_) | (go_at_call 110; have z9 := B6; refine (specMayF _ (el ys (k * 7)) (el ys (k * 7 + 1)) (el ys (k * 7 + 2)) (el ys (k * 7 + 3)) (el ys (k * 7 + 4)) (el ys (k * 7 + 5)) (el ys (k * 7 + 6)) D0.out).mono ?_; rw [show Pl.mayF ⟨el ys (k * 7), el ys (k * 7 + 1), el ys (k * 7 + 2), el ys (k * 7 + 3), el ys (k * 7 + 4), el ys (k * 7 + 5), el ys (k * 7 + 6)⟩ = Pl.mayF (Pl.inAt ys k) from rfl]; rintro e9 w7 ⟨rfl, k7⟩; have B7 := hide (B6.out.kept0 k7); have K7 := hide (K6.out.trans k7); have O7 := hide (O6.out.keptS k7 (by omega)); clear k7) | (go_at_call 108; refine (specReads _ (el ys (k * 7)) (el ys (k * 7 + 1)) (el ys (k * 7 + 2)) (el ys (k * 7 + 3)) (el ys (k * 7 + 4)) (el ys (k * 7 + 5)) (el ys (k * 7 + 6)) D0.out).mono ?_; rw [show Pl.reads ⟨el ys (k * 7), el ys (k * 7 + 1), el ys (k * 7 + 2), el ys (k * 7 + 3), el ys (k * 7 + 4), el ys (k * 7 + 5), el ys (k * 7 + 6)⟩ = Pl.reads (Pl.inAt ys k) from rfl]; rintro e9 w6 ⟨rfl, kd⟩; have k6 := undrewK kd; have B6 := hide (B5.out.kept0 k6); have K6 := hide (K5.out.trans k6); have O6 := hide (O5.out.keptS k6 (by omega)); clear kd k6))
        go_wp2_with fail
        go_roundw
        case rel => exact ⟨k, by omega, by first | rfl | go_num, by rw [NBX.out], O7.out, K7.out, by have := B7.out.lt; have := HS.out; omega⟩
        case measure => first | (simp [intOf]; done) | (simp [intOf]; omega)
end Go.Proofs.YtnkapmchfneolaaGreat

namespace Go.Proofs.YtnkapmchfneolaaGreat
open Go.RowKit
set_option linter.unusedVariables false
set_option linter.unusedSimpArgs false
theorem specStrW (w : World) (op z r m k e s : Int) : Calls Tryz.prog 60 #[.agg (inA op z r m k e s)] w fun e' w' => e' = .returned (.bool (Pl.straight ⟨op, z, r, m, k, e, s⟩)) ∧ Kept 0 0 w w' := by
  have K0 := hide (kept_alloc w (.cells (inA op z r m k e s) 87))
  cases h13 : (op == 13)
  · cases h14 : (op == 14)
    · cases h15 : (op == 15)
      · cases h19 : (op == 19)
        · go_enter Tryz.func60, Tryz.ntmps60
          go_wp2_with fail
          go_ret
          exact ⟨rB (by simp [Pl.straight, h13, h14, h15, h19]), K0.out⟩
        · cases h0 : (s == 0)
          all_goals
            go_enter Tryz.func60, Tryz.ntmps60
            go_wp2_with fail
            go_ret
            exact ⟨rB (by simp [Pl.straight, h13, h14, h15, h19, h0, bne]), K0.out⟩
      · cases h2 : (s == 2) <;> cases h5 : (s == 5) <;> cases h6 : (s == 6)
        all_goals
          go_enter Tryz.func60, Tryz.ntmps60
          go_wp2_with fail
          go_ret
          exact ⟨rB (by simp [Pl.straight, h13, h14, h15, h2, h5, h6]), K0.out⟩
    · go_enter Tryz.func60, Tryz.ntmps60
      go_wp2_with fail
      go_ret
      exact ⟨rB (by simp [Pl.straight, h13, h14]), K0.out⟩
  · go_enter Tryz.func60, Tryz.ntmps60
    go_wp2_with fail
    go_ret
    exact ⟨rB (by simp [Pl.straight, h13]), K0.out⟩
theorem take7 {ys : List Int} {n k : Nat} (hl : ys.length = 7 * n) (hk : k < n) : ys.take (7 * (k + 1)) = ys.take (7 * k) ++ [el ys (k * 7), el ys (k * 7 + 1), el ys (k * 7 + 2), el ys (k * 7 + 3), el ys (k * 7 + 4), el ys (k * 7 + 5), el ys (k * 7 + 6)] := by
  have one : ∀ j, j < 7 * n → ys.take (j + 1) = ys.take j ++ [el ys j] := by
    intro j hj
    rw [List.take_add_one, List.getElem?_eq_getElem (by omega)]
    simp [el, List.getElem?_eq_getElem (show j < ys.length from by omega)]
  rw [show 7 * (k + 1) = k * 7 + 6 + 1 from by omega, one (k * 7 + 6) (by omega), one (k * 7 + 5) (by omega), one (k * 7 + 4) (by omega), one (k * 7 + 3) (by omega), one (k * 7 + 2) (by omega), one (k * 7 + 1) (by omega), one (k * 7) (by omega), show 7 * k = k * 7 from by omega]
  simp
theorem slotIn_row7c {w : World} {base n : Nat} {v : Value} {xs : List Int} (h : w.ownsRow base 87 7 v n (xs.map (Value.int .i64))) : ∃ (b : Option Addr) (cb : Nat), v = .slice b n cb ∧ n ≤ cb ∧ SlotIn w base w.heap.size b xs := by
  have h9 := h
  rcases h with ⟨hl, ⟨rfl, e⟩ | ⟨g, cap, cur, e, hb, hgg, hn, _, hsz, ht⟩⟩
  · subst e
    exact ⟨none, 0, rfl, Nat.le_refl _, .inl ⟨rfl, by simpa using hl⟩⟩
  · subst e
    exact ⟨some ⟨g, 0, none⟩, cap, rfl, hn, .inr ⟨g, rfl, (h9.lt g rfl).1, (h9.lt g rfl).2, own_of_row7 h9⟩⟩
set_option maxRecDepth 20000 in
set_option maxHeartbeats 8000000 in
theorem specUList (w : World) (f t : Int) (a : Option Addr) (ca n : Nat) (ys ts : List Int) (sk : List Bool) (ha : MRow w a n ys ts sk) (ly : ys.length = 7 * n) (bx : n ≤ 2000000) :
    Calls Tryz.prog 57 #[.agg #[iv f, iv t, .slice a n ca]] w fun e w' => ∃ (b : Option Addr) (c : Nat), e = .returned (.tuple #[.slice b n c, iv (Pl.strN ys n : Nat)]) ∧ n ≤ c ∧ SlotIn w' w.heap.size w'.heap.size b ys ∧ Kept 0 0 w w' := by
  obtain ⟨i, hi, hz0, hz1, hz2⟩ := info_parts Tryz.infoIns
  have K0 := hide (kept_alloc w (.cells #[iv f, iv t, .slice a n ca] 35))
  have HA := hide ha
  have HY := hide ly
  clear ha ly
  go_enter Tryz.func57, Tryz.ntmps57
  go_wp2_with fail
  go_loopw [4, 5, 11] (fun v c j wr => ∃ k : Nat, k ≤ n ∧ j = .int .i64 k ∧ c = iv (Pl.strN ys k : Nat) ∧ wr.ownsRow w.heap.size 87 7 v k ((ys.take (7 * k)).map (Value.int .i64)) ∧ Kept 0 0 w wr) (fun _ _ j _ => n - (intOf j).toNat)
  case atStart => exact ⟨0, Nat.zero_le _, rfl, rfl, World.ownsRow_nil _ _ _ _, K0.out⟩
  case round =>
    obtain ⟨k, hk, rfl, rfl, hown, hkept⟩ := hrel
    have HK := hide hkept
    have HO := hide hown
    clear hkept hown
    by_cases hlt : k < n
    · obtain ⟨g1, o1, rfl, p0, p1, p2, p3, p4, p5, p6, p7, p8⟩ := (HA.out.keptS HK.out).at9 hlt
      have B0 := hide ((Blk.new wr #[iv (el ys (k * 7)), iv (el ys (k * 7 + 1)), iv (el ys (k * 7 + 2)), iv (el ys (k * 7 + 3)), iv (el ys (k * 7 + 4)), iv (el ys (k * 7 + 5)), iv (el ys (k * 7 + 6)), iv (el ts k), .bool (bl sk k)] 89).alloc (.cells #[iv (el ys (k * 7)), iv (el ys (k * 7 + 1)), iv (el ys (k * 7 + 2)), iv (el ys (k * 7 + 3)), iv (el ys (k * 7 + 4)), iv (el ys (k * 7 + 5)), iv (el ys (k * 7 + 6))] 87))
      have BN := Blk.new (wr.alloc (.cells #[iv (el ys (k * 7)), iv (el ys (k * 7 + 1)), iv (el ys (k * 7 + 2)), iv (el ys (k * 7 + 3)), iv (el ys (k * 7 + 4)), iv (el ys (k * 7 + 5)), iv (el ys (k * 7 + 6)), iv (el ts k), .bool (bl sk k)] 89)) #[iv (el ys (k * 7)), iv (el ys (k * 7 + 1)), iv (el ys (k * 7 + 2)), iv (el ys (k * 7 + 3)), iv (el ys (k * 7 + 4)), iv (el ys (k * 7 + 5)), iv (el ys (k * 7 + 6))] 87
      simp only [World.size_alloc] at BN
      replace BN := hide BN
      have O2 := hide ((HO.out.alloc (.cells #[iv (el ys (k * 7)), iv (el ys (k * 7 + 1)), iv (el ys (k * 7 + 2)), iv (el ys (k * 7 + 3)), iv (el ys (k * 7 + 4)), iv (el ys (k * 7 + 5)), iv (el ys (k * 7 + 6)), iv (el ts k), .bool (bl sk k)] 89)).alloc (.cells #[iv (el ys (k * 7)), iv (el ys (k * 7 + 1)), iv (el ys (k * 7 + 2)), iv (el ys (k * 7 + 3)), iv (el ys (k * 7 + 4)), iv (el ys (k * 7 + 5)), iv (el ys (k * 7 + 6))] 87))
      have HT := take7 HY.out hlt
      have hks := HK.out.size
      go_wp2_with (at_builtin; refine wpList_append_own _ rfl _ _ 81 rfl w.heap.size 87 i (.agg #[iv 0, iv 0, iv 0, iv 0, iv 0, iv 0, iv 0]) 7 56 Tryz.underlying81 hi hz0 hz1 hz2 rfl (by decide) _ _ _ rfl O2.out ⟨wr.heap.size + 1, 0, none⟩ 1 1 [iv (el ys (k * 7)), iv (el ys (k * 7 + 1)), iv (el ys (k * 7 + 2)), iv (el ys (k * 7 + 3)), iv (el ys (k * 7 + 4)), iv (el ys (k * 7 + 5)), iv (el ys (k * 7 + 6))] rfl rfl ?c1 ?c2 ?c3 ?c4 ?c5 ?_)
      case c1 => exact World.news_of_block (cs := #[iv (el ys (k * 7)), iv (el ys (k * 7 + 1)), iv (el ys (k * 7 + 2)), iv (el ys (k * 7 + 3)), iv (el ys (k * 7 + 4)), iv (el ys (k * 7 + 5)), iv (el ys (k * 7 + 6))]) (t := 87) (fr := (0, 0)) BN.out
      case c2 => intro u hu; simp at hu; rcases hu with rfl | rfl | rfl | rfl | rfl | rfl | rfl <;> rfl
      case c3 => unfold maxLen; omega
      case c4 => omega
      case c5 => simp; omega
      intro v' w4 hown' hgr _
      have HO4 := hide hown'
      have kr := kept_row (lo := w.heap.size) (hi := wr.heap.size) hgr (fun g hg => by have q := HO.out.lt g hg; omega)
      have B4 := hide (B0.out.kept kr (by omega))
      have K4 := hide (kept_over (kept_new (kept_new HK.out (.cells #[iv (el ys (k * 7)), iv (el ys (k * 7 + 1)), iv (el ys (k * 7 + 2)), iv (el ys (k * 7 + 3)), iv (el ys (k * 7 + 4)), iv (el ys (k * 7 + 5)), iv (el ys (k * 7 + 6)), iv (el ts k), .bool (bl sk k)] 89)) (.cells #[iv (el ys (k * 7)), iv (el ys (k * 7 + 1)), iv (el ys (k * 7 + 2)), iv (el ys (k * 7 + 3)), iv (el ys (k * 7 + 4)), iv (el ys (k * 7 + 5)), iv (el ys (k * 7 + 6))] 87)) kr (Nat.le_refl _))
      have p4 := B4.out.all
      have hsl := Pl.strN_le ys k
      clear hown' hgr kr p0 p1 p2 p3 p5 p6 p7 p8 BN
      cases hs : Pl.straight (Pl.inAt ys k)
      all_goals
        go_wp2_with (first | (go_at_call 60; refine (specStrW _ (el ys (k * 7)) (el ys (k * 7 + 1)) (el ys (k * 7 + 2)) (el ys (k * 7 + 3)) (el ys (k * 7 + 4)) (el ys (k * 7 + 5)) (el ys (k * 7 + 6))).mono ?_; rintro e9 w5 ⟨rfl, k5⟩; rw [show Pl.straight ⟨el ys (k * 7), el ys (k * 7 + 1), el ys (k * 7 + 2), el ys (k * 7 + 3), el ys (k * 7 + 4), el ys (k * 7 + 5), el ys (k * 7 + 6)⟩ = Pl.straight (Pl.inAt ys k) from rfl, hs]; have K5 := hide (K4.out.trans k5); have O5 := hide (HO4.out.kept k5.grown (Classical.em _)); clear k5))
        go_roundw
        case rel => exact ⟨k + 1, by omega, by go_num, by rw [Pl.strN_s, hs]; first | rfl | go_num, by rw [HT]; simp only [List.map_append, List.map_take, List.map_cons, List.map_nil]; exact O5.out, K5.out⟩
        case measure => simp [intOf]; omega
    · obtain rfl : k = n := by omega
      obtain ⟨b, cb, rfl, hcb, hS⟩ := slotIn_row7c HO.out
      rw [List.take_of_length_le (by have := HY.out; omega)] at hS
      go_wp2_with fail
      go_ret2
      exact ⟨b, cb, rfl, hcb, hS, HK.out⟩
theorem IRow.take {w : World} {a : Option Addr} {xs : List Int} (h : IRow w a xs) (m : Nat) : IRow w a (xs.take m) := by
  intro i hi
  have hi2 : i < m ∧ i < xs.length := by rw [List.length_take] at hi; omega
  obtain ⟨g, o, e, c⟩ := h i hi2.2
  refine ⟨g, o, e, ?_⟩
  rw [List.getElem?_take, if_pos hi2.1]
  exact c
set_option maxRecDepth 20000 in
set_option maxHeartbeats 8000000 in
theorem specSkips (w : World) (a : Option Addr) (ca n : Nat) (ys : List Int) (ha : IRow w a ys) (ly : ys.length = 7 * n) (hc : n ≤ ca) (n1 : 1 ≤ n) (n8 : n ≤ 8) (hr : Pl.rowS ys (Pl.headN ys n) = true) :
    Calls Tryz.prog 61 #[.slice a n ca] w fun e w' => ∃ (g c : Nat), e = .returned (.slice (some ⟨g, 0, none⟩) n c) ∧ w.heap.size ≤ g ∧ g < w'.heap.size ∧ BOwn w' g (Pl.skV ys n) ∧ Kept 0 0 w w' := by
  have HA := hide ha
  have HY := hide ly
  obtain ⟨m, rfl⟩ : ∃ m, n = m + 1 := ⟨n - 1, by omega⟩
  obtain ⟨g1, o1, rfl, p0, p1, p2, p3, p4, p5, p6⟩ := HA.out.at7 HY.out (show m < m + 1 by omega)
  clear ha ly
  cases hs : Pl.straight (Pl.inAt ys m)
  · have hh : Pl.headN ys (m + 1) = m := by unfold Pl.headN; rw [Nat.add_sub_cancel, hs]; simp
    rw [hh] at hr
    have HR := hide hr
    have ES : Hid (Pl.skV ys (m + 1) = Pl.deads ys m m ++ [false]) := hide (by unfold Pl.skV; rw [hh, Nat.add_sub_cancel_left]; rfl)
    have EW : Hid (Pl.deads (ys.take (7 * m)) m m = Pl.deads ys m m) := hide (Pl.deads_of fun k hk => Pl.inAt_take hk)
    have ER : Hid (Pl.rowS (ys.take (7 * m)) m = true) := hide ((Pl.rowS_eq fun k hk => Pl.inAt_take hk).trans hr)
    have EL : Hid ((ys.take (7 * m)).length = 7 * m) := hide (by have := HY.out; simp; omega)
    obtain ⟨i, hi, hz0, hz1, hz2⟩ := info_parts Tryz.infoBool
    clear hr hh
    go_enter Tryz.func61, Tryz.ntmps61
    go_wp2_with (first | (go_at_call 60; refine (specStrW _ (el ys (m * 7)) (el ys (m * 7 + 1)) (el ys (m * 7 + 2)) (el ys (m * 7 + 3)) (el ys (m * 7 + 4)) (el ys (m * 7 + 5)) (el ys (m * 7 + 6))).mono ?_; rintro e9 w5 ⟨rfl, k5⟩; rw [show Pl.straight ⟨el ys (m * 7), el ys (m * 7 + 1), el ys (m * 7 + 2), el ys (m * 7 + 3), el ys (m * 7 + 4), el ys (m * 7 + 5), el ys (m * 7 + 6)⟩ = Pl.straight (Pl.inAt ys m) from rfl, hs]; have K5 := hide k5; clear k5) | (go_at_call 89; refine (specDead _ _ _ m (ys.take (7 * m)) ((HA.out.keptS K5.out).take _) EL.out (by omega) ER.out).mono ?_; rw [EW.out]; rintro e9 w6 ⟨rfl, o6, k6, s6⟩; have K6 := hide (K5.out.trans k6); have O6 := hide o6; have S6 := hide s6; have R6 := hide (o6.rows (base := w5.heap.size) (Nat.le_refl _) (by rw [Pl.deads_len]; unfold maxLen; omega)); rw [Pl.deads_len] at R6; have BN := hide (Blk.new w6 #[.bool false] 4); clear o6 k6 s6) | (at_builtin; refine wpList_append_own _ rfl _ _ 93 rfl w5.heap.size 4 i (.bool false) 1 1 Tryz.underlying93 hi hz0 hz1 hz2 rfl (by decide) _ _ _ rfl (R6.out.alloc (.cells #[.bool false] 4)) ⟨w6.heap.size, 0, none⟩ 1 1 [.bool false] rfl rfl ?c1 ?c2 ?c3 ?c4 ?c5 ?_))
    case c1 => exact World.news_of_block (cs := #[.bool false]) (t := 4) (fr := (0, 0)) BN.out
    case c2 => intro u hu; simp at hu; rcases hu with rfl; rfl
    case c3 => unfold maxLen; omega
    case c4 => omega
    case c5 => have := S6.out; simp; omega
    intro v' w7 hown' hgr _
    have q5 := S6.out
    have q6 := K5.out.size
    have kr := kept_row (lo := w5.heap.size) (hi := w6.heap.size) hgr (fun g hg => by have q : w5.heap.size = g := Option.some.inj hg; omega)
    have K7 := hide (kept_over (kept_new K6.out (.cells #[.bool false] 4)) kr (by omega))
    have hE : (Pl.deads ys m m).map Value.bool ++ [.bool false] = (Pl.skV ys (m + 1)).map Value.bool := by rw [ES.out, List.map_append]; rfl
    rw [hE] at hown'
    obtain ⟨b, cb, rfl, hS⟩ := bslot_row hown'
    have HS := hide hS
    clear hown' hgr kr hS
    go_wp2_with fail
    go_ret
    rcases HS.out with ⟨rfl, e0⟩ | ⟨g, rfl, g0, g1, ho⟩
    · have := Pl.skV_len ys (m + 1); rw [e0] at this; simp at this
    · exact ⟨g, cb, rfl, by omega, g1, ho, K7.out⟩
  · have hh : Pl.headN ys (m + 1) = m + 1 := by unfold Pl.headN; rw [Nat.add_sub_cancel, hs]; simp
    rw [hh] at hr
    have HR := hide hr
    have ES : Hid (Pl.skV ys (m + 1) = Pl.deads ys (m + 1) (m + 1)) := hide (by unfold Pl.skV; rw [hh, Nat.sub_self]; simp)
    clear hr hh
    go_enter Tryz.func61, Tryz.ntmps61
    go_wp2_with (first | (go_at_call 60; refine (specStrW _ (el ys (m * 7)) (el ys (m * 7 + 1)) (el ys (m * 7 + 2)) (el ys (m * 7 + 3)) (el ys (m * 7 + 4)) (el ys (m * 7 + 5)) (el ys (m * 7 + 6))).mono ?_; rintro e9 w5 ⟨rfl, k5⟩; rw [show Pl.straight ⟨el ys (m * 7), el ys (m * 7 + 1), el ys (m * 7 + 2), el ys (m * 7 + 3), el ys (m * 7 + 4), el ys (m * 7 + 5), el ys (m * 7 + 6)⟩ = Pl.straight (Pl.inAt ys m) from rfl, hs]; have K5 := hide k5; clear k5) | (go_at_call 89; refine (specDead _ _ _ (m + 1) ys (HA.out.keptS K5.out) HY.out (by omega) HR.out).mono ?_; rintro e9 w6 ⟨rfl, o6, k6, s6⟩; have K6 := hide (K5.out.trans k6); have O6 := hide o6; have S6 := hide s6; clear o6 k6 s6))
    have hs5 := K5.out.size
    go_ret
    exact ⟨_, _, rfl, hs5, S6.out, by rw [ES.out]; exact O6.out.own, K6.out⟩
end Go.Proofs.YtnkapmchfneolaaGreat

