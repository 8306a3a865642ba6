/- What the model's quotient without putting back is. -/
import Derived.Test.YtjgcadighogmkaaSpecDiv
namespace Go.Proofs.Ytjgcadighogmkaa
open Go.RowKit
set_option linter.unusedVariables false
def Pl.sOk (l b : Int) : Bool := Pl.wOk l && (decide (1 ≤ b) && decide (b ≤ 32767))
def Pl.stV (l b : Int) : List Int := if Pl.sOk l b = true then Pl.steps l b 16 else []
def Pl.stR (l b : Int) : Int := if Pl.sOk l b = true then Pl.sRest l b else 0
theorem sL_bd {l b : Int} (b0 : 1 ≤ b) (b1 : b ≤ 32767) (l0 : 0 ≤ l) (m : Nat) (hm : m ≤ 16) : -32767 ≤ Pl.sL l b m ∧ Pl.sL l b m ≤ 32767 := by
  obtain ⟨⟨r0, r1⟩, _⟩ := Pl.div_inv (h := 0) (l := l) (b := b) (Int.le_refl _) (by omega) l0 m hm
  have := Pl.sL_is b0 l0 m hm
  omega
theorem l1FlagB (b : Bool) (f : Int) (w : World) :
    Calls Try.prog 60 #[.bool b, .int .i64 f] w fun e w' => e = .returned (.int .i64 (Pl.fl b f)) ∧ w' = w := by
  cases b
  all_goals
    go_enter Try.func60, Try.ntmps60
    go_wp2
    go_ret
    exact ⟨rfl, rfl⟩
def StepsRet (w : World) (l b : Int) (e : Ending) (w' : World) : Prop := ∃ (d : Option Addr) (c : Nat), e = .returned (.tuple #[.slice d (Pl.stV l b).length c, .int .i64 (Pl.stR l b), .bool (Pl.sOk l b)]) ∧ SlotIn w' w.heap.size w'.heap.size d (Pl.stV l b) ∧ Kept 0 0 w w'
set_option maxRecDepth 20000 in
set_option maxHeartbeats 4000000 in
theorem specDivSteps (l b : Int) (w : World) : Calls Try.prog 30 #[.int .i64 l, .int .i64 b] w fun e w' => StepsRet w l b e w' := by
  cases ka : Pl.wOk l
  · have E : Hid (Pl.sOk l b = false) := hide (by simp [Pl.sOk, ka])
    have EV : Hid (Pl.stV l b = []) := hide (by simp [Pl.stV, E.out])
    have ER : Hid (Pl.stR l b = 0) := hide (by simp [Pl.stR, E.out])
    go_enter Try.func30, Try.ntmps30
    go_wp2_with (go_at_call 40; refine (l6WordM _ _).mono ?_; rintro e9 w9 ⟨rfl, hw⟩; have hw2 := hw.symm; clear hw; subst hw2; rw [ka])
    go_ret3
    exact ⟨none, 0, by rw [EV.out, ER.out, E.out]; rfl, .inl ⟨rfl, EV.out⟩, Kept.refl _ _ _⟩
  · cases kc : (decide (1 ≤ b) && decide (b ≤ 32767))
    · have E : Hid (Pl.sOk l b = false) := hide (by unfold Pl.sOk; rw [kc]; simp)
      have EV : Hid (Pl.stV l b = []) := hide (by simp [Pl.stV, E.out])
      have ER : Hid (Pl.stR l b = 0) := hide (by simp [Pl.stR, E.out])
      go_enter Try.func30, Try.ntmps30
      go_wp2_with (first | (go_at_call 40; refine (l6WordM _ _).mono ?_; rintro e9 w9 ⟨rfl, hw⟩; have hw2 := hw.symm; clear hw; subst hw2; rw [ka]) | (go_at_call 56; refine (l1In _ _ _ _).mono ?_; rintro e9 w9 ⟨rfl, hw⟩; have hw2 := hw.symm; clear hw; subst hw2; rw [kc]))
      go_ret3
      exact ⟨none, 0, by rw [EV.out, ER.out, E.out]; rfl, .inl ⟨rfl, EV.out⟩, Kept.refl _ _ _⟩
    · have E : Hid (Pl.sOk l b = true) := hide (by unfold Pl.sOk; rw [ka, kc]; rfl)
      have EV : Hid (Pl.stV l b = Pl.steps l b 16) := hide (by simp [Pl.stV, E.out])
      have ER : Hid (Pl.stR l b = Pl.sRest l b) := hide (by simp [Pl.stR, E.out])
      obtain ⟨l0, l1⟩ := Pl.wOk_ok ka
      obtain ⟨b0, b1⟩ : 1 ≤ b ∧ b ≤ 32767 := by simpa using kc
      have HI := hide (fun m hm => sL_bd b0 b1 l0 m hm)
      obtain ⟨i, hi0, hz0, hz1, hz2⟩ := info_parts Try.info3
      go_enter Try.func30, Try.ntmps30
      go_wp2_with (first | (go_at_call 40; refine (l6WordM _ _).mono ?_; rintro e9 w9 ⟨rfl, hw⟩; have hw2 := hw.symm; clear hw; subst hw2; rw [ka]) | (go_at_call 56; refine (l1In _ _ _ _).mono ?_; rintro e9 w9 ⟨rfl, hw⟩; have hw2 := hw.symm; clear hw; subst hw2; rw [kc]))
      go_loopw [7, 8, 9, 10] (fun r o k _ wr => ∃ m : Nat, m ≤ 16 ∧ k = .int .i64 (15 - (m : Int)) ∧ r = .int .i64 (Pl.sL l b m) ∧ wr.ownsRow w.heap.size 3 1 o (Pl.steps l b m).length ((Pl.steps l b m).map (Value.int .i64)) ∧ Kept 0 0 w wr) (fun _ _ k _ _ => (intOf k + 1).toNat)
      case atStart => exact ⟨0, by omega, rfl, rfl, World.ownsRow_nil _ _ _ _, Kept.refl _ _ _⟩
      case round =>
        obtain ⟨m, hm, rfl, rfl, hown, hkept⟩ := hrel
        have HK := hide hkept
        have HO := hide hown
        clear hkept hown
        obtain ⟨r0, r1⟩ := HI.out m hm
        by_cases hlt : m < 16
        · obtain ⟨r2, r3⟩ := HI.out (m + 1) (by omega)
          obtain ⟨j, hj⟩ : ∃ j : Nat, (15 : Int) - (m : Int) = (j : Int) := ⟨15 - m, by omega⟩
          have ej : j = 15 - m := by omega
          have hw := bit_at l j
          have hbb := Pl.wbit_bd l j
          have GL : Hid (Pl.sL l b (m + 1) = if 0 ≤ Pl.sL l b m then 2 * Pl.sL l b m + Pl.wbit l j - b else 2 * Pl.sL l b m + Pl.wbit l j + b) := hide (by rw [ej]; rfl)
          have GD : Hid (Pl.sD l b m = if 0 ≤ Pl.sL l b (m + 1) then 1 else -1) := hide rfl
          have GS := hide (Pl.steps_snoc l b m)
          have HLL := hide (Pl.steps_len l b m)
          obtain ⟨B, hB⟩ : ∃ B, Pl.wbit l j = B := ⟨_, rfl⟩
          obtain ⟨R, hR⟩ : ∃ R, Pl.sL l b m = R := ⟨_, rfl⟩
          obtain ⟨T, hT⟩ : ∃ T, Pl.sL l b (m + 1) = T := ⟨_, rfl⟩
          obtain ⟨D, hD⟩ : ∃ D, Pl.sD l b m = D := ⟨_, rfl⟩
          rw [hB] at hw hbb GL
          rw [hR] at r0 r1 GL ⊢
          rw [hT] at r2 r3 GL GD
          rw [hD] at GD GS
          have HT := hide hT
          rw [hj]
          have j0 : 0 ≤ (j : Int) := by omega
          have j1 : j ≤ 15 := by omega
          have B0 : 0 ≤ B := by omega
          have B1 : B ≤ 1 := by omega
          have EJ := hide ej
          have HJ := hide hj
          clear hB hR hT hD hbb ej hj
          have O2 := hide (HO.out.alloc (.cells #[.int .i64 D] 3))
          have BN := hide (Blk.new wr #[.int .i64 D] 3)
          have s2 := HK.out.size
          by_cases hr : 0 ≤ R
          · have gl := GL.out
            rw [if_pos hr] at gl
            by_cases ht : 0 ≤ 2 * R + B - b
            · have ht2 : b ≤ 2 * R + B := by omega
              have ed : D = 1 := by have := GD.out; rw [if_pos (by omega)] at this; exact this
              subst ed
              have et : Hid (T = _) := hide gl
              clear gl
              go_wp2_with (first | (go_at_call 60; refine (l1FlagB _ _ _).mono ?_; (first | rw [show Pl.fl true 1 = 1 from rfl] | rw [show Pl.fl false 1 = 0 from rfl]); rintro e9 w9 ⟨rfl, hw⟩; have hw2 := hw.symm; clear hw; subst hw2) | (at_builtin; refine wpList_append_own _ rfl _ _ 28 rfl w.heap.size 3 i (.int .i64 0) 1 8 Try.underlying28 hi0 hz0 hz1 hz2 rfl (by decide) _ _ _ rfl O2.out ⟨wr.heap.size, 0, none⟩ 1 1 [.int .i64 (1)] rfl rfl ?c1 ?c2 ?c3 ?c4 ?c5 ?_))
              case c1 => exact World.news_of_block (cs := #[.int .i64 (1)]) (t := 3) (fr := (0, 0)) BN.out
              case c2 => intro u hu; simp at hu; rcases hu with rfl; rfl
              case c3 => have := HLL.out; unfold maxLen; omega
              case c4 => have := HLL.out; omega
              case c5 => have := HLL.out; simp; omega
              intro v' w4 hown' hgr _
              have HO4 := hide hown'
              have K4 := hide (kept_over (kept_new HK.out (.cells #[.int .i64 (1)] 3)) (kept_row (lo := w.heap.size) (hi := wr.heap.size + 1) hgr (fun g hg => by have q := O2.out.lt g hg; simpa using q)) (Nat.le_refl _))
              clear hown' hgr
              go_wp2_with fail
              go_roundw
              case rel => exact ⟨m + 1, by omega, by have := HJ.out; congr 1; omega, by rw [HT.out, et.out], by rw [GS.out, List.length_append, List.map_append]; exact HO4.out, K4.out⟩
              case measure => first | (simp [intOf]; omega) | simp [intOf]
            · have ht2 : ¬ b ≤ 2 * R + B := by omega
              have ed : D = -1 := by have := GD.out; rw [if_neg (by omega)] at this; exact this
              subst ed
              have et : Hid (T = _) := hide gl
              clear gl
              go_wp2_with (first | (go_at_call 60; refine (l1FlagB _ _ _).mono ?_; (first | rw [show Pl.fl true 1 = 1 from rfl] | rw [show Pl.fl false 1 = 0 from rfl]); rintro e9 w9 ⟨rfl, hw⟩; have hw2 := hw.symm; clear hw; subst hw2) | (at_builtin; refine wpList_append_own _ rfl _ _ 28 rfl w.heap.size 3 i (.int .i64 0) 1 8 Try.underlying28 hi0 hz0 hz1 hz2 rfl (by decide) _ _ _ rfl O2.out ⟨wr.heap.size, 0, none⟩ 1 1 [.int .i64 (-1)] rfl rfl ?c1 ?c2 ?c3 ?c4 ?c5 ?_))
              case c1 => exact World.news_of_block (cs := #[.int .i64 (-1)]) (t := 3) (fr := (0, 0)) BN.out
              case c2 => intro u hu; simp at hu; rcases hu with rfl; rfl
              case c3 => have := HLL.out; unfold maxLen; omega
              case c4 => have := HLL.out; omega
              case c5 => have := HLL.out; simp; omega
              intro v' w4 hown' hgr _
              have HO4 := hide hown'
              have K4 := hide (kept_over (kept_new HK.out (.cells #[.int .i64 (-1)] 3)) (kept_row (lo := w.heap.size) (hi := wr.heap.size + 1) hgr (fun g hg => by have q := O2.out.lt g hg; simpa using q)) (Nat.le_refl _))
              clear hown' hgr
              go_wp2_with fail
              go_roundw
              case rel => exact ⟨m + 1, by omega, by have := HJ.out; congr 1; omega, by rw [HT.out, et.out], by rw [GS.out, List.length_append, List.map_append]; exact HO4.out, K4.out⟩
              case measure => first | (simp [intOf]; omega) | simp [intOf]
          · have gl := GL.out
            rw [if_neg hr] at gl
            by_cases ht : 0 ≤ 2 * R + B + b
            · have ed : D = 1 := by have := GD.out; rw [if_pos (by omega)] at this; exact this
              subst ed
              have et : Hid (T = _) := hide gl
              clear gl
              go_wp2_with (first | (go_at_call 60; refine (l1FlagB _ _ _).mono ?_; (first | rw [show Pl.fl true 1 = 1 from rfl] | rw [show Pl.fl false 1 = 0 from rfl]); rintro e9 w9 ⟨rfl, hw⟩; have hw2 := hw.symm; clear hw; subst hw2) | (at_builtin; refine wpList_append_own _ rfl _ _ 28 rfl w.heap.size 3 i (.int .i64 0) 1 8 Try.underlying28 hi0 hz0 hz1 hz2 rfl (by decide) _ _ _ rfl O2.out ⟨wr.heap.size, 0, none⟩ 1 1 [.int .i64 (1)] rfl rfl ?c1 ?c2 ?c3 ?c4 ?c5 ?_))
              case c1 => exact World.news_of_block (cs := #[.int .i64 (1)]) (t := 3) (fr := (0, 0)) BN.out
              case c2 => intro u hu; simp at hu; rcases hu with rfl; rfl
              case c3 => have := HLL.out; unfold maxLen; omega
              case c4 => have := HLL.out; omega
              case c5 => have := HLL.out; simp; omega
              intro v' w4 hown' hgr _
              have HO4 := hide hown'
              have K4 := hide (kept_over (kept_new HK.out (.cells #[.int .i64 (1)] 3)) (kept_row (lo := w.heap.size) (hi := wr.heap.size + 1) hgr (fun g hg => by have q := O2.out.lt g hg; simpa using q)) (Nat.le_refl _))
              clear hown' hgr
              go_wp2_with fail
              go_roundw
              case rel => exact ⟨m + 1, by omega, by have := HJ.out; congr 1; omega, by rw [HT.out, et.out], by rw [GS.out, List.length_append, List.map_append]; exact HO4.out, K4.out⟩
              case measure => first | (simp [intOf]; omega) | simp [intOf]
            · have ed : D = -1 := by have := GD.out; rw [if_neg (by omega)] at this; exact this
              subst ed
              have et : Hid (T = _) := hide gl
              clear gl
              go_wp2_with (first | (go_at_call 60; refine (l1FlagB _ _ _).mono ?_; (first | rw [show Pl.fl true 1 = 1 from rfl] | rw [show Pl.fl false 1 = 0 from rfl]); rintro e9 w9 ⟨rfl, hw⟩; have hw2 := hw.symm; clear hw; subst hw2) | (at_builtin; refine wpList_append_own _ rfl _ _ 28 rfl w.heap.size 3 i (.int .i64 0) 1 8 Try.underlying28 hi0 hz0 hz1 hz2 rfl (by decide) _ _ _ rfl O2.out ⟨wr.heap.size, 0, none⟩ 1 1 [.int .i64 (-1)] rfl rfl ?c1 ?c2 ?c3 ?c4 ?c5 ?_))
              case c1 => exact World.news_of_block (cs := #[.int .i64 (-1)]) (t := 3) (fr := (0, 0)) BN.out
              case c2 => intro u hu; simp at hu; rcases hu with rfl; rfl
              case c3 => have := HLL.out; unfold maxLen; omega
              case c4 => have := HLL.out; omega
              case c5 => have := HLL.out; simp; omega
              intro v' w4 hown' hgr _
              have HO4 := hide hown'
              have K4 := hide (kept_over (kept_new HK.out (.cells #[.int .i64 (-1)] 3)) (kept_row (lo := w.heap.size) (hi := wr.heap.size + 1) hgr (fun g hg => by have q := O2.out.lt g hg; simpa using q)) (Nat.le_refl _))
              clear hown' hgr
              go_wp2_with fail
              go_roundw
              case rel => exact ⟨m + 1, by omega, by have := HJ.out; congr 1; omega, by rw [HT.out, et.out], by rw [GS.out, List.length_append, List.map_append]; exact HO4.out, K4.out⟩
              case measure => first | (simp [intOf]; omega) | simp [intOf]
        · obtain rfl : m = 16 := by omega
          obtain ⟨d, c, rfl, hS, _⟩ := slotIn_rowM HO.out
          by_cases hn : Pl.sL l b 16 < 0
          · have GR : Hid (Pl.sRest l b = Pl.sL l b 16 + b) := hide (by unfold Pl.sRest; rw [if_pos hn])
            go_wp2_with fail
            go_ret3
            exact ⟨d, c, by rw [EV.out, ER.out, GR.out, E.out]; rfl, by rw [EV.out]; exact hS, HK.out⟩
          · have GR : Hid (Pl.sRest l b = Pl.sL l b 16) := hide (by unfold Pl.sRest; rw [if_neg hn])
            go_wp2_with fail
            go_ret3
            exact ⟨d, c, by rw [EV.out, ER.out, GR.out, E.out]; rfl, by rw [EV.out]; exact hS, HK.out⟩
end Go.Proofs.Ytjgcadighogmkaa
