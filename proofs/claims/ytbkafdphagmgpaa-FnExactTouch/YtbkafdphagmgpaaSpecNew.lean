/- What the model of NewBus answers, for every two lists. -/
import Derived.Test.YtbkafdphagmgpaaSpecPeek
namespace Go.Proofs.Ytbkafdphagmgpaa
open Go.RowKit
set_option linter.unusedVariables false

namespace Pl
def newOk (xs us : List Int) : Bool := bytesOk xs && (bytesOk us && (decide (xs.length ≤ 384) && decide (us.length ≤ 64)))
def newAt (xs us : List Int) (i : Nat) : Int := if i < 384 then el xs i else el us (i - 384)
def newB (xs us : List Int) : List Int := if newOk xs us = true then (List.range 512).map (newAt xs us) else []
theorem newB_ok {xs us : List Int} (h : newOk xs us = true) : newB xs us = (List.range 512).map (newAt xs us) := by simp [newB, h]
theorem newB_eq {xs us zs : List Int} (h : newOk xs us = true) (hl : zs.length = 512) (hz : ∀ i, i < 512 → el zs i = newAt xs us i) : zs = newB xs us := by
  rw [newB_ok h]
  refine ext_of (by simp [hl]) (fun i hi => ?_)
  have hi' : i < 512 := by omega
  have := hz i hi'
  unfold el at this
  rw [this]
  simp [hi']
end Pl
theorem specNewBus_good (w : World) (a c : Option Addr) (ca cc : Nat) (xs us : List Int) (ha : IRow w a xs) (hc : IRow w c us) (lx : xs.length ≤ 2000000) (lu : us.length ≤ 2000000) (h1 : Pl.bytesOk xs = true) (h2 : Pl.bytesOk us = true) (h3 : xs.length ≤ 384) (h4 : us.length ≤ 64) :
    Calls Try.prog 10 #[.slice a xs.length ca, .slice c us.length cc] w fun e w' => ∃ (b : Option Addr) (cb : Nat), e = .returned (.tuple #[.agg #[.slice b (Pl.newB xs us).length cb, .slice none 0 0], .bool (Pl.newOk xs us)]) ∧ SlotIn w' w.heap.size w'.heap.size b (Pl.newB xs us) ∧ Kept 0 0 w w' := by
  have HA := hide ha
  have HC := hide hc
  clear ha hc
  have d3 : decide ((384 : Int) < (xs.length : Int)) = false := by simp; omega
  have d4 : decide ((64 : Int) < (us.length : Int)) = false := by simp; omega
  obtain ⟨i, hi, hz0, hz1, hz2⟩ := info_parts Try.info3
  have k0 := kept_alloc w (.cells #[.slice none 0 0, .slice none 0 0] 25)
  have HK0 := hide k0
  clear k0
  go_enter Try.func10, Try.ntmps10
  go_wp2_with fail
  refine (l4Bytes _ a ca xs (HA.out.keptS HK0.out) lx).mono ?_
  rintro e w' ⟨rfl, rfl⟩
  rw [h1]
  go_wp2_with fail
  refine (l4Bytes _ c cc us (HC.out.keptS HK0.out) lu).mono ?_
  rintro e w' ⟨rfl, rfl⟩
  rw [h2]
  go_wp2_with (first | (at_make; refine wpList_make_full _ rfl _ _ 22 rfl w.heap.size 3 i (.int .i64 0) 1 Try.underlying22 hi hz0 hz1 _ _ _ _ 512 rfl rfl rfl rfl ?c1 ?c2 ?c3 ?_))
  case c1 => rw [hz2]; decide
  case c2 => unfold maxLen; decide
  case c3 => simp
  intro w1 hown hg
  have ho : Own w1 (w.heap.size + 1) (List.replicate 512 0) := own_of_row (base := w.heap.size) (n := 512) (cap := 512) (by
    have e : (madeCells #[Value.int .i64 0] 512).toList = (List.replicate 512 (0 : Int)).map (Value.int .i64) := by
      rw [toList_madeCells_one, List.map_replicate]
    rw [← e]; exact hown)
  have hs : w.heap.size + 1 < w1.heap.size := (hown.lt _ rfl).2
  have HK1 := hide (HK0.out.trans (kept_grown hg))
  have HR1 := hide ((Blk.new w #[.slice none 0 0, .slice none 0 0] 25).kept0 (kept_grown hg))
  have HO := hide ho
  have HS := hide hs
  clear hown hg ho hs HK0
  go_wp2_with fail
  go_loopw [7, 8, 34] (fun _ _ j wr => ∃ (k : Nat) (zs : List Int), k ≤ xs.length ∧ j = .int .i64 k ∧ zs.length = 512 ∧ Own wr (w.heap.size + 1) zs ∧ (∀ i, i < 512 → el zs i = if i < k then el xs i else 0) ∧ Blk wr w1.heap.size #[.slice (some ⟨w.heap.size + 1, 0, none⟩) 512 512, .slice none 0 0] 25 ∧ Blk wr w.heap.size #[.slice none 0 0, .slice none 0 0] 25 ∧ Kept 0 0 w wr) (fun _ _ j _ => xs.length - (intOf j).toNat)
  case atStart =>
    have h512 : ∀ i, i < 512 → el (List.replicate 512 (0 : Int)) i = if i < 0 then el xs i else 0 := by
      intro i hi
      unfold el
      rw [if_neg (Nat.not_lt_zero i), List.getElem?_replicate, if_pos hi]; rfl
    exact ⟨0, _, Nat.zero_le _, rfl, List.length_replicate .., HO.out.keptS (kept_alloc _ _) (by omega), h512, Blk.new _ _ _, HR1.out.alloc _, kept_new HK1.out _⟩
  case round =>
    obtain ⟨k, zs, hk, rfl, hl, hown, heq, hB, hR, hkept⟩ := hrel
    have HE := hide heq
    have HL := hide hl
    have HO1 := hide hown
    have HB1 := hide hB
    have HR := hide hR
    have HK := hide hkept
    clear heq hl hkept hR
    have b0 := hB.cell (i := 0) rfl
    clear hB
    by_cases hlt : k < xs.length
    · obtain ⟨g1, o1, rfl, p0⟩ := (HA.out.keptS HK.out) k hlt
      rw [show xs[k]?.getD 0 = el xs k from rfl] at p0
      obtain ⟨q0, q1⟩ := hown k (by have := HL.out; omega)
      have hk5 : k < 512 := by omega
      clear hown
      go_wp2
      go_roundw
      case rel =>
        have hz : k < zs.length := by have := HL.out; omega
        have hS := HS.out
        refine ⟨k + 1, zs.set k (el xs k), by omega, by go_num, by rw [List.length_set]; exact HL.out, HO1.out.set _, ?_, HB1.out.other _ _ _ (by omega), HR.out.other _ _ _ (by omega), kept_set HK.out _ _ _ (.inr (by omega))⟩
        intro i hi
        rw [el_set hz, HE.out i hi]
        by_cases e : i = k
        · subst e; simp
        · simp only [e, if_false]
          by_cases e2 : i < k
          · simp [e2, show i < k + 1 from by omega]
          · simp [e2, show ¬ i < k + 1 from by omega]
      case measure => simp [intOf]; omega
    · clear hown
      have HE2 : Hid (∀ i, i < 512 → el zs i = if i < 384 then el xs i else 0) := hide (by
        intro i hi
        rw [HE.out i hi]
        by_cases e : i < k
        · rw [if_pos e, if_pos (by omega)]
        · rw [if_neg e]
          by_cases e2 : i < 384
          · rw [if_pos e2, Pl.el_out (by omega)]
          · rw [if_neg e2])
      clear HE
      go_wp2_with fail
      go_loopw [9, 10, 47] (fun _ _ j wx => ∃ (n : Nat) (ts : List Int), n ≤ us.length ∧ j = .int .i64 n ∧ ts.length = 512 ∧ Own wx (w.heap.size + 1) ts ∧ (∀ i, i < 512 → el ts i = if i < 384 then el xs i else if i < 384 + n then el us (i - 384) else 0) ∧ Blk wx w1.heap.size #[.slice (some ⟨w.heap.size + 1, 0, none⟩) 512 512, .slice none 0 0] 25 ∧ Blk wx w.heap.size #[.slice none 0 0, .slice none 0 0] 25 ∧ Kept 0 0 w wx) (fun _ _ j _ => us.length - (intOf j).toNat)
      case atStart =>
        refine ⟨0, zs, Nat.zero_le _, rfl, HL.out, HO1.out, ?_, HB1.out, HR.out, HK.out⟩
        intro i hi
        rw [HE2.out i hi]
        by_cases e : i < 384
        · rw [if_pos e, if_pos e]
        · rw [if_neg e, if_neg e, if_neg (by omega)]
      case round =>
        obtain ⟨n, ts, hn, rfl, hl, hown, heq, hB, hR, hkept⟩ := hrel
        have HE3 := hide heq
        have HL3 := hide hl
        have HO3 := hide hown
        have HB3 := hide hB
        have HR3 := hide hR
        have HK3 := hide hkept
        have b1 := hB.cell (i := 0) rfl
        have b2 := hB.cell (i := 1) rfl
        have r0 := hR.cell (i := 0) rfl
        have r1 := hR.cell (i := 1) rfl
        have f0 := hR.frozen 0
        have f1 := hR.frozen 1
        clear heq hl hkept hR hB b0
        by_cases hlt2 : n < us.length
        · obtain ⟨g1, o1, rfl, p0⟩ := (HC.out.keptS HK3.out) n hlt2
          rw [show us[n]?.getD 0 = el us n from rfl] at p0
          obtain ⟨q0, q1⟩ := hown (384 + n) (by have := HL3.out; omega)
          have hk5 : n < 64 := by omega
          clear hown
          go_wp2
          go_roundw
          case rel =>
            have hz : 384 + n < ts.length := by have := HL3.out; omega
            have hS := HS.out
            refine ⟨n + 1, ts.set (384 + n) (el us n), by omega, by go_num, by rw [List.length_set]; exact HL3.out, HO3.out.set _, ?_, HB3.out.other _ _ _ (by omega), HR3.out.other _ _ _ (by omega), kept_set HK3.out _ _ _ (.inr (by omega))⟩
            intro i hi
            rw [el_set hz, HE3.out i hi]
            by_cases e : i = 384 + n
            · subst e
              rw [if_pos rfl, if_neg (by omega), if_pos (by omega), show 384 + n - 384 = n from by omega]
            · rw [if_neg e]
              by_cases e2 : i < 384
              · rw [if_pos e2, if_pos e2]
              · rw [if_neg e2, if_neg e2]
                by_cases e3 : i < 384 + n
                · rw [if_pos e3, if_pos (by omega)]
                · rw [if_neg e3, if_neg (by omega)]
          case measure => simp [intOf]; omega
        · clear hown
          have hok : Pl.newOk xs us = true := by simp [Pl.newOk, h1, h2, h3, h4]
          have HT : Hid (ts = Pl.newB xs us) := hide (Pl.newB_eq hok HL3.out (fun i hi => by
            rw [HE3.out i hi]
            unfold Pl.newAt
            by_cases e : i < 384
            · rw [if_pos e, if_pos e]
            · rw [if_neg e, if_neg e]
              by_cases e3 : i < 384 + n
              · rw [if_pos e3]
              · rw [if_neg e3, Pl.el_out (by omega)]))
          have HOK := hide hok
          clear hok
          go_wp2_with fail
          have hT := HT.out
          have hL := HL3.out
          have hS := HS.out
          refine bodyPost_ret (v := .tuple #[.agg #[.slice (some ⟨w.heap.size + 1, 0, none⟩) 512 512, .slice none 0 0], .bool true]) ?_ rfl ⟨some ⟨w.heap.size + 1, 0, none⟩, 512, ?_, ?_, ?_⟩
          · rw [results_cell_tmp rfl]; go_simp
          · rw [← hT, hL, HOK.out]
          · rw [← hT]
            exact .inr ⟨_, rfl, by omega, by have := HK3.out.size; have := HB3.out.lt; simp; omega, (HO3.out.setOther _ _ _ (by omega)).setOther _ _ _ (by omega)⟩
          · exact kept_set (kept_set HK3.out _ _ _ (.inr (by omega))) _ _ _ (.inr (by omega))

theorem specNewBus (w : World) (a c : Option Addr) (ca cc : Nat) (xs us : List Int) (ha : IRow w a xs) (hc : IRow w c us) (lx : xs.length ≤ 2000000) (lu : us.length ≤ 2000000) :
    Calls Try.prog 10 #[.slice a xs.length ca, .slice c us.length cc] w fun e w' => ∃ (b : Option Addr) (cb : Nat), e = .returned (.tuple #[.agg #[.slice b (Pl.newB xs us).length cb, .slice none 0 0], .bool (Pl.newOk xs us)]) ∧ SlotIn w' w.heap.size w'.heap.size b (Pl.newB xs us) ∧ Kept 0 0 w w' := by
  cases hok : Pl.newOk xs us
  · have K : Hid (Pl.newOk xs us = false ∧ Pl.newB xs us = []) := hide (by simp [Pl.newB, hok])
    have HA := hide ha
    have HC := hide hc
    clear ha hc
    have HK0 := hide (kept_alloc w (.cells #[.slice none 0 0, .slice none 0 0] 25))
    have H : Pl.bytesOk xs = false ∨ (Pl.bytesOk xs = true ∧ Pl.bytesOk us = false) ∨ (Pl.bytesOk xs = true ∧ Pl.bytesOk us = true ∧ decide ((384 : Int) < (xs.length : Int)) = true) ∨ (Pl.bytesOk xs = true ∧ Pl.bytesOk us = true ∧ decide ((384 : Int) < (xs.length : Int)) = false ∧ decide ((64 : Int) < (us.length : Int)) = true) := by
      unfold Pl.newOk at hok
      cases hb1 : Pl.bytesOk xs
      · exact .inl rfl
      · cases hb2 : Pl.bytesOk us
        · exact .inr (.inl ⟨rfl, rfl⟩)
        · by_cases e : xs.length ≤ 384
          · refine .inr (.inr (.inr ⟨rfl, rfl, by simp; omega, ?_⟩))
            simp [hb1, hb2, e] at hok
            simp; omega
          · exact .inr (.inr (.inl ⟨rfl, rfl, by simp; omega⟩))
    clear hok
    rcases H with h1 | ⟨h1, h2⟩ | ⟨h1, h2, h3⟩ | ⟨h1, h2, h3, h4⟩
    · go_enter Try.func10, Try.ntmps10
      go_wp2_with fail
      refine (l4Bytes _ a ca xs (HA.out.keptS HK0.out) lx).mono ?_
      rintro e w' ⟨rfl, rfl⟩
      rw [h1]
      go_wp2_with fail
      refine bodyPost_ret (v := .tuple #[.agg #[.slice none 0 0, .slice none 0 0], .bool false]) ?_ rfl ⟨none, 0, ?_, ?_, HK0.out⟩
      · rw [results_cell_tmp rfl]; go_simp
      · rw [K.out.2]; rfl
      · rw [K.out.2]; exact .inl ⟨rfl, rfl⟩
    all_goals
      go_enter Try.func10, Try.ntmps10
      go_wp2_with fail
      refine (l4Bytes _ a ca xs (HA.out.keptS HK0.out) lx).mono ?_
      rintro e w' ⟨rfl, rfl⟩
      rw [h1]
      go_wp2_with fail
      refine (l4Bytes _ c cc us (HC.out.keptS HK0.out) lu).mono ?_
      rintro e w' ⟨rfl, rfl⟩
      rw [h2]
      go_wp2_with fail
      refine bodyPost_ret (v := .tuple #[.agg #[.slice none 0 0, .slice none 0 0], .bool false]) ?_ rfl ⟨none, 0, ?_, ?_, HK0.out⟩
      · rw [results_cell_tmp rfl]; go_simp
      · rw [K.out.2]; rfl
      · rw [K.out.2]; exact .inl ⟨rfl, rfl⟩
  · have h := hok
    simp only [Pl.newOk, Bool.and_eq_true, decide_eq_true_eq] at h
    have := specNewBus_good w a c ca cc xs us ha hc lx lu h.1 h.2.1 h.2.2.1 h.2.2.2
    rw [hok] at this
    exact this
end Go.Proofs.Ytbkafdphagmgpaa
