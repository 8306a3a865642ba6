/- What the program's EncodeAll answers, for every list. -/
import Derived.Test.YtlbnllhabdnjjaaDoorGrE
import Derived.Test.YtlbnllhabdnjjaaDoorSpecIns5
namespace Go.Proofs.YtlbnllhabdnjjaaDoor
open Go.RowKit
set_option linter.unusedVariables false
theorem wfAt {ys : List Int} (h : Wide ys) {i : Nat} (hi : i < ys.length) : (Lit.int .i64 (el ys i)).wf = true := by
  have q := h i hi
  have e1 : IntKind.i64.min = -9223372036854775808 := rfl
  have e2 : IntKind.i64.max = 9223372036854775807 := rfl
  unfold el
  simp [Lit.wf]
  omega
set_option maxRecDepth 20000 in
set_option maxHeartbeats 4000000 in
theorem implEncodeAllC (w : World) (a : Option Addr) (ca n : Nat) (ys : List Int) (ha : Came w a ys) (ly : ys.length = 7 * n) (bx : n ≤ 2000000) : Calls Tryd.prog 6 #[.slice a n ca] w fun e' w' => ∃ (b : Option Addr) (c : Nat), e' = .returned (.tuple #[.slice b (Pl.eaV ys n).length c, .bool (Pl.eaOk ys n)]) ∧ SlotIn w' w.heap.size w'.heap.size b (Pl.eaV ys n) ∧ Kept 0 0 w w' ∧ (Pl.eaV ys n).length ≤ c := by
  have HA := hide ha
  have HY := hide ly
  clear ha ly
  obtain ⟨i, hi0, hz0, hz1, hz2⟩ := info_parts Tryd.info3
  cases h40 : decide ((40 : Int) < (n : Int))
  · go_enter Tryd.func6, Tryd.ntmps6
    go_wp2_with fail
    go_loopw [4, 6, 12] (fun v _ j wr => ∃ k : Nat, k ≤ n ∧ j = .int .i64 k ∧ Pl.allIn ys k = true ∧ wr.ownsRow w.heap.size 3 1 v (Pl.encTo ys k).length ((Pl.encTo ys k).map (Value.int .i64)) ∧ Kept 0 0 w wr) (fun _ _ j _ => n - (intOf j).toNat)
    case atStart => exact ⟨0, Nat.zero_le _, rfl, rfl, World.ownsRow_nil _ _ _ _, Kept.refl _ _ _⟩
    case round =>
      obtain ⟨k, hk, rfl, hall, hown, hkept⟩ := hrel
      have HK := hide hkept
      have HO := hide hown
      have HL := hide hall
      have hel := Pl.encTo_len ys k
      have hel2 := Pl.encode_len (Pl.inAt ys k)
      clear hkept hown hall
      by_cases hlt : k < n
      · obtain ⟨g1, o1, rfl, p0, p1, p2, p3, p4, p5, p6⟩ := (HA.out.1.keptS HK.out).at7 HY.out hlt
        have hyl := HY.out
        have wa0 : (Lit.int .i64 (el ys (k * 7))).wf = true := wfAt HA.out.2 (by omega)
        have wa1 : (Lit.int .i64 (el ys (k * 7 + 1))).wf = true := wfAt HA.out.2 (by omega)
        have wa2 : (Lit.int .i64 (el ys (k * 7 + 2))).wf = true := wfAt HA.out.2 (by omega)
        have wa3 : (Lit.int .i64 (el ys (k * 7 + 3))).wf = true := wfAt HA.out.2 (by omega)
        have wa4 : (Lit.int .i64 (el ys (k * 7 + 4))).wf = true := wfAt HA.out.2 (by omega)
        have wa5 : (Lit.int .i64 (el ys (k * 7 + 5))).wf = true := wfAt HA.out.2 (by omega)
        have wa6 : (Lit.int .i64 (el ys (k * 7 + 6))).wf = true := wfAt HA.out.2 (by omega)
        clear hyl
        have B0 := hide (Blk.new wr #[.int .i64 (el ys (k * 7)), .int .i64 (el ys (k * 7 + 1)), .int .i64 (el ys (k * 7 + 2)), .int .i64 (el ys (k * 7 + 3)), .int .i64 (el ys (k * 7 + 4)), .int .i64 (el ys (k * 7 + 5)), .int .i64 (el ys (k * 7 + 6))] 36)
        cases hb : Pl.inOk (Pl.inAt ys k)
        · have E : Hid (Pl.eaOk ys n = false) := hide (by unfold Pl.eaOk; rw [Pl.allIn_no hlt hb]; rfl)
          go_wp2_with (first | (go_at_call 20; refine (implGoodIns _ (el ys (k * 7)) (el ys (k * 7 + 1)) (el ys (k * 7 + 2)) (el ys (k * 7 + 3)) (el ys (k * 7 + 4)) (el ys (k * 7 + 5)) (el ys (k * 7 + 6)) wa0 wa1 wa2 wa3 wa4 wa5 wa6).mono ?_; rw [show Pl.inOk ⟨el ys (k * 7), el ys (k * 7 + 1), el ys (k * 7 + 2), el ys (k * 7 + 3), el ys (k * 7 + 4), el ys (k * 7 + 5), el ys (k * 7 + 6)⟩ = Pl.inOk (Pl.inAt ys k) from rfl, hb]; rintro e9 w2 ⟨rfl, k2⟩; have B2 := hide (B0.out.kept0 k2); have K2 := hide ((kept_new HK.out _).trans k2); have k9 := hide (undo (kept_alloc wr _) k2); obtain ⟨c0, c1, c2, c3, c4, c5, c6⟩ := B2.out.c7; clear k2))
          go_ret2
          exact ⟨none, 0, by simp [Pl.eaV, E.out], .inl ⟨rfl, by simp [Pl.eaV, E.out]⟩, K2.out, by simp [Pl.eaV, E.out]⟩
        · obtain ⟨ZL, hZL⟩ : ∃ ZL, ZL = Pl.encode (Pl.inAt ys k) := ⟨_, rfl⟩
          go_wp2_with (first | (go_at_call 20; refine (implGoodIns _ (el ys (k * 7)) (el ys (k * 7 + 1)) (el ys (k * 7 + 2)) (el ys (k * 7 + 3)) (el ys (k * 7 + 4)) (el ys (k * 7 + 5)) (el ys (k * 7 + 6)) wa0 wa1 wa2 wa3 wa4 wa5 wa6).mono ?_; rw [show Pl.inOk ⟨el ys (k * 7), el ys (k * 7 + 1), el ys (k * 7 + 2), el ys (k * 7 + 3), el ys (k * 7 + 4), el ys (k * 7 + 5), el ys (k * 7 + 6)⟩ = Pl.inOk (Pl.inAt ys k) from rfl, hb]; rintro e9 w2 ⟨rfl, k2⟩; have B2 := hide (B0.out.kept0 k2); have K2 := hide ((kept_new HK.out _).trans k2); have k9 := hide (undo (kept_alloc wr _) k2); obtain ⟨c0, c1, c2, c3, c4, c5, c6⟩ := B2.out.c7; clear k2) | (go_at_call 21; refine (wordsOf _ (el ys (k * 7)) (el ys (k * 7 + 1)) (el ys (k * 7 + 2)) (el ys (k * 7 + 3)) (el ys (k * 7 + 4)) (el ys (k * 7 + 5)) (el ys (k * 7 + 6)) hb).mono ?_; rintro e9 w3 ⟨g, c, rfl, hg1, hg2, hO, k3⟩; have K3 := hide (K2.out.trans k3); have OE := hide hO; have O3 := hide (HO.out.kept (k9.out.trans k3).grown (Classical.em _)); have s3 := K3.out.size; clear hg1 hg2 hO k3) | (at_builtin; refine wpList_append_own _ rfl _ _ 25 rfl w.heap.size 3 i (.int .i64 0) 1 8 Tryd.underlying25 hi0 hz0 hz1 hz2 rfl (by decide) _ _ _ rfl O3.out ⟨g, 0, none⟩ (Pl.encode (Pl.inAt ys k)).length c ((Pl.encode (Pl.inAt ys k)).map (Value.int .i64)) rfl ?c0 ?c1 ?c2 ?c3 ?c4 ?c5 ?_))
          case c0 => simp
          case c1 => exact news_own OE.out
          case c2 => exact news_one
          case c3 => unfold maxLen; omega
          case c4 => omega
          case c5 => omega
          intro v' w4 hown' hgr _
          have HO4 := hide hown'
          have K4 := hide (kept_over K3.out (kept_row (lo := w.heap.size) (hi := w3.heap.size) hgr (fun g hg => O3.out.lt g hg)) (Nat.le_refl _))
          clear hown' hgr
          go_wp2_with fail
          go_roundw
          case rel => exact ⟨k + 1, by omega, by go_num, by unfold Pl.allIn; rw [HL.out, hb]; rfl, by unfold Pl.encTo; rw [List.length_append, List.map_append]; exact HO4.out, K4.out⟩
          case measure => simp [intOf]; omega
      · obtain rfl : k = n := by omega
        have E : Hid (Pl.eaOk ys k = true) := hide (by unfold Pl.eaOk; rw [HL.out]; simp at h40; simp; omega)
        have EV : Hid (Pl.eaV ys k = Pl.encTo ys k) := hide (by simp [Pl.eaV, E.out])
        obtain ⟨b, cb, rfl, hS, hC⟩ := slotIn_rowC HO.out
        go_wp2_with fail
        go_ret2
        exact ⟨b, cb, by rw [EV.out, E.out]; rfl, by rw [EV.out]; exact hS, HK.out, by rw [EV.out]; exact hC⟩
  · have E : Hid (Pl.eaOk ys n = false) := hide (by unfold Pl.eaOk; simp at h40; simp; omega)
    go_enter Tryd.func6, Tryd.ntmps6
    go_wp2_with fail
    go_ret2
    exact ⟨none, 0, by simp [Pl.eaV, E.out], .inl ⟨rfl, by simp [Pl.eaV, E.out]⟩, Kept.refl _ _ _, by simp [Pl.eaV, E.out]⟩
theorem implEncodeAll (w : World) (a : Option Addr) (ca n : Nat) (ys : List Int) (ha : Came w a ys) (ly : ys.length = 7 * n) (bx : n ≤ 2000000) : Calls Tryd.prog 6 #[.slice a n ca] w fun e' w' => ∃ (b : Option Addr) (c : Nat), e' = .returned (.tuple #[.slice b (Pl.eaV ys n).length c, .bool (Pl.eaOk ys n)]) ∧ SlotIn w' w.heap.size w'.heap.size b (Pl.eaV ys n) ∧ Kept 0 0 w w' := by
  refine (implEncodeAllC w a ca n ys ha ly bx).mono ?_
  rintro e w' ⟨b, c, h1, h2, h3, _⟩
  exact ⟨b, c, h1, h2, h3⟩
end Go.Proofs.YtlbnllhabdnjjaaDoor
