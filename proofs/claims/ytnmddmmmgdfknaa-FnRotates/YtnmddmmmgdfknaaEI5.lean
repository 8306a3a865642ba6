/- The law on turning: of whatever bytes, its Go function returns true, and no block that was there has turned. -/
import Derived.Test.YtnmddmmmgdfknaaEI1
import Derived.Test.YtnmddmmmgdfknaaEI4
import Derived.Deep.DeepCutAuto
namespace Go.Proofs.Ytnmddmmmgdfknaa
open Go.RowKit
set_option linter.unusedVariables false

theorem drawn_on {f : FuncId} {args : Array Value} {w wx : World} {E : Ending} (hb : Below w.heap.size w wx) (h : Calls Try.prog f args wx fun e w' => e = E ∧ ∃ n, w' = wx.drewN n) : Calls Try.prog f args wx fun e w' => e = E ∧ Below w.heap.size w w' :=
  h.mono fun e w' ⟨he, n, hw⟩ => ⟨he, by rw [hw]; exact drewN_below hb n⟩
theorem made_on {f : FuncId} {args : Array Value} {w wx : World} {E : Ending} (hb : Below w.heap.size w wx) (h : Calls Try.prog f args wx fun e w' => e = E ∧ Below wx.heap.size wx w') : Calls Try.prog f args wx fun e w' => e = E ∧ Below w.heap.size w w' :=
  h.mono fun e w' ⟨he, hw⟩ => ⟨he, hb.trans (hw.mono hb.size)⟩

set_option maxRecDepth 100000 in
set_option maxHeartbeats 8000000 in
theorem lawRotates (a0 a1 : Option Addr) (len0 cap0 len1 cap1 : Nat) (w : World) (h0 : Bytes w a0 len0) (h1 : Bytes w a1 len1) :
    Calls Try.prog 4 #[.slice a0 len0 cap0, .slice a1 len1 cap1] w fun e w' => e = .returned (.bool true) ∧ Below w.heap.size w w' := by
  have l0 := h0.1
  have l1 := h1.1
  unfold maxLen at l0 l1
  by_cases hbig : 1048576 < wrap64 ((len0 : Int) + (len1 : Int))
  · go_enter Try.func4, Try.ntmps4
    go_wp2_with fail
    go_ret
    exact ⟨rfl, Below.refl _ _⟩
  · go_enter Try.func4, Try.ntmps4
    go_wp2_with fail
    refine (drawRotateBack _ a0 len0 cap0 h0).mono ?_
    rintro e w1 ⟨k, s, f, v, n, rfl, ⟨k0, k1, s0, s1, f0, f1, v0, v1, n0, n1⟩, hb1⟩
    clear hbig
    go_wp2_with fail
    refine (made_on hb1 (rotateBack k s f v n _ (w64i (by omega) (by omega)))).mono ?_
    rintro e w2 ⟨rfl, hb2⟩
    clear hb1
    go_wp2_with fail
    refine (specRotateBack k s f v n _).mono ?_
    rintro e wt ⟨rfl, rfl⟩
    go_upto_region 6 with fail
    go_cut [10, 11, 12, 13, 82] (fun _ b _ _ t wx => b = .bool (Pl.rbOk k s f v n) ∧ t = .bool false ∧ Below w.heap.size w wx)
    case first =>
      as_aux_lemma =>
        cases kk : Pl.rbOk k s f v n
        · go_wp2_with fail
          go_meet
          case rel => exact ⟨by rw [kk], rfl, hb2⟩
        · obtain ⟨_, hv, _⟩ := Pl.law_turn kk
          go_wp2_with fail
          go_meet
          case rel => exact ⟨by rw [kk], rfl, hb2⟩
    case rest =>
      as_aux_lemma =>
        clear hb2
        obtain ⟨rfl, rfl, hb2⟩ := hcut
        go_upto_if 83 with fail
        go_cut [11, 14, 15, 16, 17, 18, 19, 20] (fun _ _ _ _ _ _ _ _ wx => Below w.heap.size w wx)
        case first =>
          as_aux_lemma =>
            cases kk : Pl.rbOk k s f v n
            · go_wp2_with fail
              go_meet
              case rel => exact hb2
            · obtain ⟨ko, _, k4, k7, hs, o1, o2, e1, e2, q1, q2, q3, nn0, nn1, ff0, ff1⟩ := Pl.law_turn kk
              obtain ⟨y0, y1, y2, y3⟩ := Pl.by_bd ko
              have r0 := Pl.pop_bd 16 v
              have r1 := Pl.pop_bd 16 (Pl.byVal k s f v n)
              obtain ⟨r00, r01⟩ := r0
              obtain ⟨r10, r11⟩ := r1
              have E1 := hide e1
              have E2 := hide e2
              clear e1 e2
              go_wp2_with fail
              refine (made_on hb2 (shiftBy k s f v n _ (w64i (by omega) (by omega)))).mono ?_
              rintro e w3 ⟨rfl, hb3⟩
              clear hb2
              go_wp2_with fail
              refine (drawn_on hb3 (countOnes s v _ (w64i (by omega) (by omega)))).mono ?_
              rintro e w4 ⟨rfl, hb4⟩
              rw [E1.out]
              clear hb3
              go_wp2_with fail
              refine (drawn_on hb4 (countOnes s (Pl.byVal k s f v n) _ (w64i (by omega) (by omega)))).mono ?_
              rintro e w5 ⟨rfl, hb5⟩
              rw [E2.out]
              clear hb4
              obtain hk | hk : k ≤ 5 ∨ 5 < k := by omega
              · have c1 : (Pl.pop 16 v != Pl.pop 16 (Pl.byVal k s f v n)) = false := by rw [← q1 hk]; simp
                have c2 : decide (k ≤ 5) = true := by simpa using hk
                have c3 : decide (5 < k) = false := by simp; omega
                have Q3 := hide (q3 hk)
                clear q1 q2 q3
                have hz : decide (8 * s = 0) = false := by simp; omega
                have hp : 0 < 8 * s := by omega
                by_cases hq : n % (8 * s) = 0
                · have c4 : (Pl.byVal k s f v n != v) = false := by rw [Q3.out hq]; simp
                  have c5 : (n % (8 * s) == 0) = true := by simpa using hq
                  clear hq
                  go_wp2_with fail
                  go_meet
                  case rel => exact hb5
                · have c5 : (n % (8 * s) == 0) = false := by simpa using hq
                  clear hq
                  go_wp2_with fail
                  go_meet
                  case rel => exact hb5
              · have c1 : (Pl.pop 16 v + f / 16 != Pl.pop 16 (Pl.byVal k s f v n) + Pl.byFl k s f v n / 16) = false := by rw [← q2 hk]; simp
                have c2 : decide (k ≤ 5) = false := by simp; omega
                have c3 : decide (5 < k) = true := by simpa using hk
                clear q1 q2 q3
                go_wp2_with fail
                go_meet
                case rel => exact hb5
        case rest =>
          as_aux_lemma =>
            clear hb2
            go_wp2_with fail
            refine (drawReverseBits _ a1 len1 cap1 (h1.kept hcut)).mono ?_
            rintro e w3 ⟨t, u, rfl, u0, u1, g3⟩
            have hb3 : Below w.heap.size w w3 := hcut.trans (g3.mono hcut.size)
            clear g3 hcut
            go_wp2_with fail
            refine (drawn_on hb3 (reverseBits t u _ (w64i (by omega) (by omega)))).mono ?_
            rintro e w4 ⟨rfl, hb4⟩
            clear hb3
            go_wp2_with fail
            refine (specReverseBits t u _).mono ?_
            rintro e wt ⟨rfl, rfl⟩
            go_wp2_with fail
            refine (drawn_on hb4 (countOnes t u _ (w64i (by omega) (by omega)))).mono ?_
            rintro e w5 ⟨rfl, hb5⟩
            clear hb4
            go_wp2_with fail
            refine (specCountOnes t u _).mono ?_
            rintro e wt ⟨rfl, rfl⟩
            cases kk : Pl.okv t u
            · go_wp2_with fail
              go_ret
              exact ⟨rfl, hb5⟩
            · obtain ⟨r1, r2, r3⟩ := Pl.rev_ok kk
              have E1 : Hid (Pl.revV t u = Pl.rv (8 * t).toNat u) := hide (by simp [Pl.revV, kk])
              have R1 : Pl.okv t (Pl.revV t u) = true := by rw [E1.out]; exact r1
              have c1 : (Pl.revV t (Pl.revV t u) == u) = true := by
                rw [Pl.revV, if_pos R1, E1.out, r2]; simp
              have c2 : (Pl.onesV t (Pl.revV t u) == Pl.onesV t u) = true := by
                rw [Pl.onesV, if_pos R1, Pl.onesV, if_pos kk, E1.out, r3]; simp
              have hr : W64 (Pl.revV t u) := by
                have := Pl.top_ok R1
                exact w64i (by omega) (by omega)
              clear r1 r2 r3 E1
              go_wp2_with fail
              refine (drawn_on hb5 (reverseBits t (Pl.revV t u) _ hr)).mono ?_
              rintro e w6 ⟨rfl, hb6⟩
              clear hb5
              go_wp2_with fail
              refine (drawn_on hb6 (countOnes t (Pl.revV t u) _ hr)).mono ?_
              rintro e w7 ⟨rfl, hb7⟩
              clear hb6
              go_wp2_with fail
              go_ret
              exact ⟨rfl, hb7⟩
end Go.Proofs.Ytnmddmmmgdfknaa

