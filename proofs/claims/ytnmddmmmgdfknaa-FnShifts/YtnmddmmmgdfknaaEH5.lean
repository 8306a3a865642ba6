/- The law on shifts: of whatever bytes, its Go function returns true, and no block that was there has turned. -/
import Derived.Test.YtnmddmmmgdfknaaEH1
import Derived.Test.YtnmddmmmgdfknaaEH4
import Derived.Deep.DeepCutAuto
import Derived.Deep.CutBlock
namespace Go.Proofs.Ytnmddmmmgdfknaa
open Go.RowKit
set_option linter.unusedVariables false

theorem topOf1 (w : World) : Calls Try.prog 17 #[.int .i64 1] w fun e w' => e = .returned (.int .i64 256) ∧ w' = w := by
  go_enter Try.func17, Try.ntmps17
  go_wp2
  go_ret
  exact ⟨rfl, rfl⟩
theorem topOf2 (w : World) : Calls Try.prog 17 #[.int .i64 2] w fun e w' => e = .returned (.int .i64 65536) ∧ w' = w := by
  go_enter Try.func17, Try.ntmps17
  go_wp2
  go_ret
  exact ⟨rfl, rfl⟩

set_option maxRecDepth 100000 in
set_option maxHeartbeats 8000000 in
theorem lawShifts (a0 a1 : Option Addr) (len0 cap0 len1 cap1 : Nat) (w : World) (h0 : Bytes w a0 len0) (h1 : Bytes w a1 len1) :
    Calls Try.prog 3 #[.slice a0 len0 cap0, .slice a1 len1 cap1] w fun e w' => e = .returned (.bool true) ∧ Below w.heap.size w w' := by
  have l0 := h0.1
  have l1 := h1.1
  unfold maxLen at l0 l1
  by_cases hbig : 1048576 < wrap64 ((len0 : Int) + (len1 : Int))
  · go_enter Try.func3, Try.ntmps3
    go_wp2_with fail
    go_ret
    exact ⟨rfl, Below.refl _ _⟩
  · go_enter Try.func3, Try.ntmps3
    go_wp2_with fail
    refine (drawShiftBy _ a0 len0 cap0 h0).mono ?_
    rintro e w1 ⟨k, s, f, v, n, rfl, ⟨k0, k1, s0, s1, f0, f1, v0, v1, n0, n1⟩, hw1⟩
    clear hbig
    go_wp2_with fail
    refine (shiftBy k s f v n _ (w64i (by omega) (by omega))).mono ?_
    rintro e w2 ⟨rfl, hw2⟩
    have hb2 : Below w.heap.size w w2 := hw1.trans (hw2.mono hw1.size)
    clear hw1 hw2
    go_wp2_with fail
    refine (specShiftBy k s f v n _).mono ?_
    rintro e wt ⟨rfl, rfl⟩
    go_upto_if 90 with fail
    go_cut [12, 15, 16, 17, 18, 19, 20, 21, 22, 23, 24, 25, 26, 27] (fun _ _ _ _ _ _ _ _ _ _ _ _ _ _ wx => Below w.heap.size w wx)
    case first =>
      as_aux_lemma =>
        cases kk : Pl.byOk k s f v n
        · go_wp2_with fail
          go_meet
          case rel => exact hb2
        · obtain ⟨_, k7, hs, vv0, vv1, nn0, nn1, ff0, ff1, hf⟩ := Pl.byOk_fit kk
          have hv6 : v < 65536 := by rcases Pl.top12 hs with ⟨_, e⟩ | ⟨_, e⟩ <;> rw [e] at vv1 <;> omega
          go_upto_if 92 with fail
          go_cut [16, 17, 18, 19, 20, 21] (fun _ _ _ _ _ _ wx => Below w.heap.size w wx)
          case first =>
            as_aux_lemma =>
              obtain hn | ⟨hn, hn1⟩ | ⟨hn, hn1⟩ : n ≤ 0 ∨ (0 < n ∧ n ≤ 1) ∨ (0 < n ∧ 1 < n) := by omega
              · go_wp2_with fail
                go_meet
                case rel => exact hb2
              · obtain ⟨s1, s2, s3, s4, s5⟩ := Pl.law_step kk hn
                have c1 : (Pl.onceV k s (Pl.byFl k s f v (n - 1)) (Pl.byVal k s f v (n - 1)) != Pl.byVal k s f v n) = false := by rw [s3]; simp
                have c2 : (bits .andNot .i64 (Pl.onceF k s (Pl.byFl k s f v (n - 1)) (Pl.byVal k s f v (n - 1))) 2 != bits .andNot .i64 (Pl.byFl k s f v n) 2) = false := by rw [s4]; simp
                have c3 : (Pl.onceF k s (Pl.byFl k s f v (n - 1)) (Pl.byVal k s f v (n - 1)) != Pl.byFl k s f v n) = false := by rw [s5 (by omega)]; simp
                have c4 : (n == 1) = true := by simp; omega
                obtain ⟨b0, b1, b2, b3⟩ := Pl.by_bd s1
                clear s3 s4 s5
                go_wp2_with fail
                refine (shiftBy k s f v (n - 1) _ (w64i (by omega) (by omega))).mono ?_
                rintro e w3 ⟨rfl, hw3⟩
                have hb3 : Below w.heap.size w w3 := hb2.trans (hw3.mono hb2.size)
                clear hw3
                go_wp2_with fail
                refine (shiftOnce k s (Pl.byFl k s f v (n - 1)) (Pl.byVal k s f v (n - 1)) _ (w64i (by omega) (by omega))).mono ?_
                rintro e w4 ⟨rfl, hw4⟩
                have hb4 : Below w.heap.size w w4 := hb3.trans (hw4.mono hb3.size)
                clear hw4 hb3
                go_wp2_with fail
                go_meet
                case rel => exact hb4
              · obtain ⟨s1, s2, s3, s4, s5⟩ := Pl.law_step kk hn
                have c1 : (Pl.onceV k s (Pl.byFl k s f v (n - 1)) (Pl.byVal k s f v (n - 1)) != Pl.byVal k s f v n) = false := by rw [s3]; simp
                have c2 : (bits .andNot .i64 (Pl.onceF k s (Pl.byFl k s f v (n - 1)) (Pl.byVal k s f v (n - 1))) 2 != bits .andNot .i64 (Pl.byFl k s f v n) 2) = false := by rw [s4]; simp
                have c3 : (n == 1) = false := by simp; omega
                obtain ⟨b0, b1, b2, b3⟩ := Pl.by_bd s1
                clear s3 s4 s5
                go_wp2_with fail
                refine (shiftBy k s f v (n - 1) _ (w64i (by omega) (by omega))).mono ?_
                rintro e w3 ⟨rfl, hw3⟩
                have hb3 : Below w.heap.size w w3 := hb2.trans (hw3.mono hb2.size)
                clear hw3
                go_wp2_with fail
                refine (shiftOnce k s (Pl.byFl k s f v (n - 1)) (Pl.byVal k s f v (n - 1)) _ (w64i (by omega) (by omega))).mono ?_
                rintro e w4 ⟨rfl, hw4⟩
                have hb4 : Below w.heap.size w w4 := hb3.trans (hw4.mono hb3.size)
                clear hw4 hb3
                go_wp2_with fail
                go_meet
                case rel => exact hb4
          case rest =>
            as_aux_lemma =>
              clear hb2
              go_upto_block 0 with fail
              go_cut [22, 23] (fun P _ wx => ∃ q : Int, P = .int .i64 q ∧ Hid (q = 2 ^ min n.toNat 20) ∧ 1 ≤ q ∧ q ≤ 1048576 ∧ Below w.heap.size w wx)
              case first =>
                as_aux_lemma =>
                  go_wp2_with fail
                  go_loop [22, 23] (fun P I => ∃ m : Nat, (m : Int) ≤ n ∧ m ≤ 20 ∧ P = .int .i64 (2 ^ m) ∧ I = .int .i64 m) (fun _ I => 20 - (intOf I).toNat)
                  case atStart => exact ⟨0, by omega, by omega, rfl, rfl⟩
                  case round =>
                    obtain ⟨m, m0, m1, rfl, rfl⟩ := hrel
                    obtain ⟨pb0, pb1⟩ := Pl.pw_bd m1
                    by_cases hmm : (m : Int) < n ∧ m < 20
                    · obtain ⟨hm1, hm2⟩ := hmm
                      go_wp2_with fail
                      go_round
                      case rel => exact ⟨m + 1, by omega, by omega, by rw [Int.pow_succ], by go_num⟩
                      case measure => simp [intOf]; omega
                    · have hP : Hid ((2 : Int) ^ m = 2 ^ min n.toNat 20) := hide (by rw [show min n.toNat 20 = m from by omega])
                      obtain hm | hm : n ≤ (m : Int) ∨ ((m : Int) < n ∧ 20 ≤ m) := by omega
                      all_goals
                        clear hmm
                        go_wp2_with fail
                        go_meet
                        case rel => exact ⟨_, rfl, hP, pb0, pb1, hcut⟩
              case rest =>
                as_aux_lemma =>
                  obtain ⟨P, rfl, HP, pb0, pb1, hcut⟩ := hcut
                  obtain ⟨vp0, vp1⟩ := Pl.prod_bd vv0 hv6 pb0 pb1
                  obtain rfl | rfl | rfl | rfl | hk4 : k = 0 ∨ k = 2 ∨ k = 3 ∨ k = 1 ∨ 4 ≤ k := by omega
                  · obtain rfl | rfl := hs
                    · have c1 : (Pl.byVal 0 1 f v n != v * P % 256) = false := by
                        rw [Pl.law_shl kk (.inl rfl), ← HP.out]; simp [Pl.top]
                      go_wp2_with fail
                      refine (topOf1 _).mono ?_
                      rintro e wt ⟨rfl, rfl⟩
                      go_wp2_with fail
                      go_meet
                      case rel => exact hcut
                    · have c1 : (Pl.byVal 0 2 f v n != v * P % 65536) = false := by
                        rw [Pl.law_shl kk (.inl rfl), ← HP.out]; simp [Pl.top]
                      go_wp2_with fail
                      refine (topOf2 _).mono ?_
                      rintro e wt ⟨rfl, rfl⟩
                      go_wp2_with fail
                      go_meet
                      case rel => exact hcut
                  · obtain rfl | rfl := hs
                    · have c1 : (Pl.byVal 2 1 f v n != v * P % 256) = false := by
                        rw [Pl.law_shl kk (.inr rfl), ← HP.out]; simp [Pl.top]
                      go_wp2_with fail
                      refine (topOf1 _).mono ?_
                      rintro e wt ⟨rfl, rfl⟩
                      go_wp2_with fail
                      go_meet
                      case rel => exact hcut
                    · have c1 : (Pl.byVal 2 2 f v n != v * P % 65536) = false := by
                        rw [Pl.law_shl kk (.inr rfl), ← HP.out]; simp [Pl.top]
                      go_wp2_with fail
                      refine (topOf2 _).mono ?_
                      rintro e wt ⟨rfl, rfl⟩
                      go_wp2_with fail
                      go_meet
                      case rel => exact hcut
                  · have c1 : (Pl.byVal 3 s f v n != v / P) = false := by
                      rw [Pl.law_lsr kk, ← HP.out]; simp
                    go_wp2_with fail
                    go_meet
                    case rel => exact hcut
                  · obtain ⟨w1ok, w2, i0, i1, vok⟩ := Pl.law_asr kk
                    rw [← HP.out] at w2
                    obtain ⟨u0, u1, _, _⟩ := Pl.by_bd kk
                    have W2 := hide w2
                    clear w2 HP
                    go_wp2_with fail
                    refine (signedOf s v _ (by omega) (by omega)).mono ?_
                    rintro e wt ⟨rfl, rfl⟩
                    go_wp2_with fail
                    refine (signedOf s (Pl.byVal 1 s f v n) _ (by omega) (by omega)).mono ?_
                    rintro e wt ⟨rfl, rfl⟩
                    obtain hi | hi : 0 ≤ Pl.sgnV s v ∨ Pl.sgnV s v < 0 := by omega
                    · have hj : 0 ≤ Pl.sgnV s (Pl.byVal 1 s f v n) := by rw [W2.out]; exact Int.ediv_nonneg hi (by omega)
                      generalize Pl.sgnV s (Pl.byVal 1 s f v n) = J at W2 hj ⊢
                      generalize Pl.sgnV s v = I at W2 hi i0 i1 ⊢
                      have e1 : decide (I < 0) = false := by simp; omega
                      have e2 : decide (0 ≤ I) = true := by simp; omega
                      have e3 : (P == 0) = false := by simp; omega
                      have e4 : (J != I / P) = false := by rw [W2.out]; simp
                      clear W2
                      obtain e5 | e5 : decide (0 < J) = true ∨ decide (0 < J) = false := by cases decide (0 < J) <;> simp
                      all_goals
                        go_wp2_with fail
                        go_meet
                        case rel => exact hcut
                    · obtain ⟨j0, j1, j2, j3⟩ := Pl.floor_law hi i0 pb0 pb1
                      rw [← W2.out] at j0 j1 j2 j3
                      clear W2
                      obtain ⟨y0, y1, y2, y3⟩ := Pl.prod_neg j0 j1 pb0 pb1
                      generalize Pl.sgnV s (Pl.byVal 1 s f v n) = J at j0 j1 j2 j3 y0 y1 y2 y3 ⊢
                      generalize Pl.sgnV s v = I at hi i0 i1 j2 j3 ⊢
                      have e1 : decide (I < 0) = true := by simp; omega
                      have e2 : decide (0 ≤ I) = false := by simp; omega
                      have e5 : decide (0 < J) = false := by simp; omega
                      have e6 : decide (I < J * P) = false := by simp; omega
                      have e7 : decide ((J + 1) * P ≤ I) = false := by simp; omega
                      go_wp2_with fail
                      go_meet
                      case rel => exact hcut
                  · have d0 : (k == 0) = false := by simp; omega
                    have d2 : (k == 2) = false := by simp; omega
                    have d3 : (k == 3) = false := by simp; omega
                    have d1 : (k == 1) = false := by simp; omega
                    go_wp2_with fail
                    go_meet
                    case rel => exact hcut
    case rest =>
      as_aux_lemma =>
        clear hb2
        go_wp2_with fail
        refine (drawShiftOnce _ a1 len1 cap1 (h1.kept hcut)).mono ?_
        rintro e w5 ⟨kx, sx, fx, vx, rfl, ⟨p0, p1, p2, p3, p4, p5, p6, p7⟩, g5⟩
        have hb5 : Below w.heap.size w w5 := hcut.trans (g5.mono hcut.size)
        clear g5 hcut
        go_wp2_with fail
        refine (shiftOnce kx sx fx vx _ (w64i (by omega) (by omega))).mono ?_
        rintro e w6 ⟨rfl, g6⟩
        have hb6 : Below w.heap.size w w6 := hb5.trans (g6.mono hb5.size)
        clear g6 hb5
        go_wp2_with fail
        refine (specShiftOnce kx sx fx vx _).mono ?_
        rintro e wt ⟨rfl, rfl⟩
        go_wp2_with fail
        refine (drawIsLeft _ a1 len1 cap1 (h1.kept hb6)).mono ?_
        rintro e w7 ⟨q, rfl, q0, q1, g7⟩
        have hb7 : Below w.heap.size w w7 := hb6.trans (g7.mono hb6.size)
        clear g7 hb6
        go_wp2_with fail
        refine (isLeft q _).mono ?_
        rintro e wt ⟨rfl, rfl⟩
        go_wp2_with fail
        refine (specIsLeft q _).mono ?_
        rintro e wt ⟨rfl, rfl⟩
        go_wp2_with fail
        go_ret
        exact ⟨rfl, hb7⟩

end Go.Proofs.Ytnmddmmmgdfknaa

