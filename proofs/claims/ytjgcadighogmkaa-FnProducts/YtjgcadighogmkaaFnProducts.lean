/- The law on products: of whatever bytes, its Go function returns true, and no block that was there has turned. -/
import Derived.Test.YtjgcadighogmkaaSpecSteps
import Derived.Test.YtjgcadighogmkaaImplMul
import Derived.Test.YtjgcadighogmkaaDrawMul
import Derived.Test.YtjgcadighogmkaaSameInts
namespace Go.Proofs.Ytjgcadighogmkaa
open Go.RowKit
set_option linter.unusedVariables false
theorem wfP {n : Int} (h0 : -1 ≤ n) (h1 : n ≤ 65536) : (Lit.int .i64 n).wf = true := by
  have e1 : IntKind.i64.min = -9223372036854775808 := rfl
  have e2 : IntKind.i64.max = 9223372036854775807 := rfl
  simp [Lit.wf]
  omega
theorem Pl.okv2 {v : Int} (h : Pl.wOk v = true) : Pl.okv 2 v = true := by
  obtain ⟨h0, h1⟩ := Pl.wOk_ok h
  simp [Pl.okv, Pl.top]
  omega
theorem Pl.mul_law {a b : Int} (h : Pl.ok2 a b = true) : Pl.mulH a b * 65536 + Pl.mulL a b = a * b ∧ Pl.smL a b = Pl.mulL a b ∧ (0 ≤ a * b ∧ a * b ≤ 4294836225) ∧ (0 ≤ Pl.mulH a b ∧ Pl.mulH a b ≤ 65535) ∧ (0 ≤ Pl.mulL a b ∧ Pl.mulL a b ≤ 65535) := by
  obtain ⟨ha, hb⟩ := Bool.and_eq_true_iff.1 h
  obtain ⟨a0, a1⟩ := Pl.wOk_ok ha
  obtain ⟨b0, b1⟩ := Pl.wOk_ok hb
  have hm := mul_bd a0 a1 b0 b1
  have hl := Pl.low_same ha hb
  unfold Pl.loW at hl
  unfold Pl.mulH Pl.mulL Pl.smL Pl.loW
  rw [if_pos h, if_pos h, if_pos h]
  refine ⟨?_, hl, hm, ?_, ?_⟩ <;> omega
set_option maxRecDepth 100000 in
set_option maxHeartbeats 1600000 in
theorem lawProducts (a0 a1 : Option Addr) (len0 cap0 len1 cap1 : Nat) (w : World) (h0 : Bytes w a0 len0) (h1 : Bytes w a1 len1) :
    Calls Try.prog 3 #[.slice a0 len0 cap0, .slice a1 len1 cap1] w fun e w' => e = .returned (.bool true) ∧ Below w.heap.size w w' := by
  have l0 := h0.1
  have l1 := h1.1
  unfold maxLen at l0 l1
  by_cases hbig : 1048576 < wrap64 ((len0 : Int) + (len1 : Int))
  · go_enter Try.func3, Try.ntmps3
    go_wp2_with fail
    go_ret
    exact ⟨rfl, Below.refl _ _⟩
  · go_enter Try.func3, Try.ntmps3
    go_wp2_with fail
    refine (drawMulBooth _ a0 len0 cap0 h0).mono ?_
    rintro e w1 ⟨a, b, rfl, ya0, ya1, yb0, yb1, hb⟩
    have Bew1 := hide hb
    clear hbig hb h0
    have wfa := wfP (n := a) ya0 ya1
    have wfb := wfP (n := b) yb0 yb1
    generalize hA1 : Pl.smH a b = A1
    generalize hA3 : Pl.mulH a b = A3
    have HA1 := hide hA1
    clear hA1
    cases h2 : Pl.ok2 a b
    · generalize hA2 : Pl.smL a b = A2
      generalize hA4 : Pl.mulL a b = A4
      have HA2 := hide hA2
      have HA3 := hide hA3
      have HA4 := hide hA4
      have HO2 := hide h2
      clear hA2 hA3 hA4 h2
      go_wp2_with fail
      refine (implMulBooth _ a b wfa wfb).mono ?_
      rw [HA1.out, HA2.out, HO2.out]
      rintro e w2 ⟨rfl, k9⟩
      have Bew2 := hide (below_kept Bew1.out k9 (by omega))
      clear k9 Bew1
      go_wp2_with fail
      refine (specMulBooth a b _).mono ?_
      rw [HA1.out, HA2.out, HO2.out]
      rintro e w3 ⟨rfl, k9⟩
      have Bew3 := hide (below_kept Bew2.out k9 (by omega))
      clear k9 Bew2
      go_wp2_with fail
      refine (implMulSigned _ a b wfa wfb).mono ?_
      rw [HA1.out, HA2.out, HO2.out]
      rintro e w4 ⟨rfl, k9⟩
      have Bew4 := hide (below_kept Bew3.out k9 (by omega))
      clear k9 Bew3
      go_wp2_with fail
      refine (specMulSigned a b _).mono ?_
      rw [HA1.out, HA2.out, HO2.out]
      rintro e9 w9 ⟨rfl, hw⟩
      have hw2 := hw.symm
      clear hw
      subst hw2
      go_wp2_with fail
      refine (implMulWords _ a b wfa wfb).mono ?_
      rw [HA3.out, HA4.out, HO2.out]
      rintro e w5 ⟨rfl, k9⟩
      have Bew5 := hide (below_kept Bew4.out k9 (by omega))
      clear k9 Bew4
      go_wp2_with fail
      refine (specMulWords a b _).mono ?_
      rw [HA3.out, HA4.out, HO2.out]
      rintro e9 w9 ⟨rfl, hw⟩
      have hw2 := hw.symm
      clear hw
      subst hw2
      go_wp2_with fail
      refine (drawBoothDigits _ a1 len1 cap1 (h1.kept Bew5.out)).mono ?_
      rintro e t1 ⟨n, rfl, n0, n1, hb⟩
      have Bet1 := hide (below_kept Bew5.out (kept_below hb) (by omega))
      clear hb Bew5
      have wfn := wfP (n := n) n0 n1
      cases hO : Pl.wOk n
      · have HL : Hid (Pl.bdV n = []) := hide (by simp [Pl.bdV, hO])
        have HO := hide hO
        clear hO
        go_wp2_with fail
        refine (implBoothDigits _ n wfn).mono ?_
        rw [HL.out, HO.out]
        rintro e t2 ⟨x1, c1, rfl, s9, k9⟩
        have S2 := hide s9
        have Bet2 := hide (below_kept Bet1.out k9 (by omega))
        clear s9 k9 Bet1
        go_wp2_with fail
        refine (specBoothDigits n _).mono ?_
        rw [HL.out, HO.out]
        rintro e t3 ⟨x2, c2, rfl, s9, k9⟩
        have Z3 := hide s9
        have S3 := hide (S2.out.kept k9 (by omega))
        have Bet3 := hide (below_kept Bet2.out k9 (by omega))
        clear s9 k9 S2 Bet2
        go_wp2_with fail
        refine (sameInts _ x1 x2 c1 c2 [] [] S3.out.row Z3.out.row (by simp) (by simp)).mono ?_
        rintro e t4 ⟨rfl, gr⟩
        rw [show decide (([] : List Int) = []) = true from by simp]
        have S4 := hide (S3.out.kept (kept_grown gr) (by omega))
        have Bet4 := hide (below_kept Bet3.out (kept_grown gr) (by omega))
        clear gr S3 Z3 Bet3
        go_wp2_with fail
        go_ret
        exact ⟨rfl, Bet4.out⟩
      · have HL0 : Pl.bdV n = Pl.booth n 16 := by simp [Pl.bdV, hO]
        have hat := booth_at n 16
        have hlen := Pl.booth_len n 16
        have hs16 := Pl.bsum_16 hO
        have ok2 := Pl.okv2 hO
        generalize Pl.booth n 16 = L at HL0 hat hlen
        have HL := hide HL0
        have HAT := hide hat
        have HS := hide hs16
        have OK := hide ok2
        have HO := hide hO
        have HLEN := hide hlen
        have ll : L.length ≤ 2000000 := by omega
        clear HL0 hat hO hs16 ok2 hlen
        go_wp2_with fail
        refine (implBoothDigits _ n wfn).mono ?_
        rw [HL.out, HO.out]
        rintro e t2 ⟨x1, c1, rfl, s9, k9⟩
        have S2 := hide s9
        have Bet2 := hide (below_kept Bet1.out k9 (by omega))
        clear s9 k9 Bet1
        go_wp2_with fail
        refine (specBoothDigits n _).mono ?_
        rw [HL.out, HO.out]
        rintro e t3 ⟨x2, c2, rfl, s9, k9⟩
        have Z3 := hide s9
        have S3 := hide (S2.out.kept k9 (by omega))
        have Bet3 := hide (below_kept Bet2.out k9 (by omega))
        clear s9 k9 S2 Bet2
        go_wp2_with fail
        refine (sameInts _ x1 x2 c1 c2 L L S3.out.row Z3.out.row (by exact ll) (by exact ll)).mono ?_
        rintro e t4 ⟨rfl, gr⟩
        rw [show decide ((L : List Int) = L) = true from by simp]
        have S4 := hide (S3.out.kept (kept_grown gr) (by omega))
        have Bet4 := hide (below_kept Bet3.out (kept_grown gr) (by omega))
        clear gr S3 Z3 Bet3
        have R4 := S4.out.row
        have hlen := HLEN.out
        go_wp2_with fail
        go_loop [30, 31, 32, 34, 191] (fun s p l _ j => ∃ k : Nat, k ≤ 16 ∧ j = .int .i64 k ∧ s = .int .i64 (Pl.bsum n k) ∧ p = .int .i64 (Pl.p2 k) ∧ l = .int .i64 (Pl.lastD n k)) (fun _ _ _ _ j => 16 - (intOf j).toNat)
        case atStart => exact ⟨0, Nat.zero_le _, rfl, rfl, rfl, rfl⟩
        case round =>
          obtain ⟨k, hk, rfl, rfl, rfl, rfl⟩ := hrel
          by_cases hlt : k < 16
          · obtain ⟨g1, o1, rfl, hc1⟩ := R4 k (by omega)
            rw [HAT.out k hlt] at hc1
            obtain ⟨d0, d1⟩ := Pl.bdig_bd n k
            obtain ⟨s0, s1⟩ := Pl.bsum_bd n k
            have pp := Pl.p2_pos k
            have pl := Pl.p2_le hk
            have NS : Hid (Pl.bsum n (k + 1) = Pl.bsum n k + Pl.bdig n k * Pl.p2 k) := hide rfl
            have NP := hide (Pl.p2_succ k)
            have NL : Hid (Pl.lastD n (k + 1) = if Pl.bdig n k = 0 then Pl.lastD n k else Pl.bdig n k) := hide rfl
            have LN := hide (Pl.last_ne n k)
            have lb : -1 ≤ Pl.lastD n k ∧ Pl.lastD n k ≤ 1 := by have := Pl.lastD_is n k; omega
            generalize Pl.bsum n k = S at NS s0 s1
            generalize Pl.p2 k = P at NS NP s0 s1 pp pl
            generalize Pl.lastD n k = W at NL LN lb
            generalize Pl.bdig n k = D at NS NL LN d0 d1 hc1
            clear R4
            obtain rfl | rfl | rfl : D = -1 ∨ D = 0 ∨ D = 1 := by omega
            · have lw : W ≠ -1 := fun e => LN.out (by omega) e.symm
              have lq : ((-1 : Int) == W) = false := by simp; omega
              go_wp2_with fail
              go_round
              case rel => exact ⟨k + 1, by omega, by go_num, by rw [NS.out]; first | go_num | (congr 1; omega), by rw [NP.out], by rw [NL.out]; simp⟩
              case measure => simp [intOf]; omega
            · go_wp2_with fail
              go_round
              case rel => exact ⟨k + 1, by omega, by go_num, by rw [NS.out]; first | go_num | (congr 1; omega), by rw [NP.out], by rw [NL.out]; simp⟩
              case measure => simp [intOf]; omega
            · have lw : W ≠ 1 := fun e => LN.out (by omega) e.symm
              have lq : ((1 : Int) == W) = false := by simp; omega
              go_wp2_with fail
              go_round
              case rel => exact ⟨k + 1, by omega, by go_num, by rw [NS.out]; first | go_num | (congr 1; omega), by rw [NP.out], by rw [NL.out]; simp⟩
              case measure => simp [intOf]; omega
          · obtain rfl : k = 16 := by omega
            have sgn : Pl.sgnV 2 n = Pl.bsum n 16 := by rw [Pl.sgnV_ok OK.out, HS.out]
            generalize Pl.bsum n 16 = S at sgn
            have SGN := hide sgn
            clear sgn R4
            go_wp2_with fail
            refine (signedOf 2 n _ (by omega) (by omega)).mono ?_
            rw [OK.out, SGN.out]
            rintro e9 w9 ⟨rfl, hw⟩
            have hw2 := hw.symm
            clear hw
            subst hw2
            go_wp2_with fail
            go_ret
            exact ⟨rB (by simp), Bet4.out⟩
    · obtain ⟨m1, m2, ⟨m3, m4⟩, ⟨m5, m6⟩, m7, m8⟩ := Pl.mul_law h2
      rw [hA3] at m1 m5 m6
      generalize hA4 : Pl.mulL a b = A4 at m1 m2 m7 m8
      have HA2 := hide m2
      have HA3 := hide hA3
      have HA4 := hide hA4
      have HO2 := hide h2
      clear hA3 hA4 h2 m2
      go_wp2_with fail
      refine (implMulBooth _ a b wfa wfb).mono ?_
      rw [HA1.out, HA2.out, HO2.out]
      rintro e w2 ⟨rfl, k9⟩
      have Bew2 := hide (below_kept Bew1.out k9 (by omega))
      clear k9 Bew1
      go_wp2_with fail
      refine (specMulBooth a b _).mono ?_
      rw [HA1.out, HA2.out, HO2.out]
      rintro e w3 ⟨rfl, k9⟩
      have Bew3 := hide (below_kept Bew2.out k9 (by omega))
      clear k9 Bew2
      go_wp2_with fail
      refine (implMulSigned _ a b wfa wfb).mono ?_
      rw [HA1.out, HA2.out, HO2.out]
      rintro e w4 ⟨rfl, k9⟩
      have Bew4 := hide (below_kept Bew3.out k9 (by omega))
      clear k9 Bew3
      go_wp2_with fail
      refine (specMulSigned a b _).mono ?_
      rw [HA1.out, HA2.out, HO2.out]
      rintro e9 w9 ⟨rfl, hw⟩
      have hw2 := hw.symm
      clear hw
      subst hw2
      go_wp2_with fail
      refine (implMulWords _ a b wfa wfb).mono ?_
      rw [HA3.out, HA4.out, HO2.out]
      rintro e w5 ⟨rfl, k9⟩
      have Bew5 := hide (below_kept Bew4.out k9 (by omega))
      clear k9 Bew4
      go_wp2_with fail
      refine (specMulWords a b _).mono ?_
      rw [HA3.out, HA4.out, HO2.out]
      rintro e9 w9 ⟨rfl, hw⟩
      have hw2 := hw.symm
      clear hw
      subst hw2
      go_wp2_with fail
      refine (drawBoothDigits _ a1 len1 cap1 (h1.kept Bew5.out)).mono ?_
      rintro e t1 ⟨n, rfl, n0, n1, hb⟩
      have Bet1 := hide (below_kept Bew5.out (kept_below hb) (by omega))
      clear hb Bew5
      have wfn := wfP (n := n) n0 n1
      cases hO : Pl.wOk n
      · have HL : Hid (Pl.bdV n = []) := hide (by simp [Pl.bdV, hO])
        have HO := hide hO
        clear hO
        go_wp2_with fail
        refine (implBoothDigits _ n wfn).mono ?_
        rw [HL.out, HO.out]
        rintro e t2 ⟨x1, c1, rfl, s9, k9⟩
        have S2 := hide s9
        have Bet2 := hide (below_kept Bet1.out k9 (by omega))
        clear s9 k9 Bet1
        go_wp2_with fail
        refine (specBoothDigits n _).mono ?_
        rw [HL.out, HO.out]
        rintro e t3 ⟨x2, c2, rfl, s9, k9⟩
        have Z3 := hide s9
        have S3 := hide (S2.out.kept k9 (by omega))
        have Bet3 := hide (below_kept Bet2.out k9 (by omega))
        clear s9 k9 S2 Bet2
        go_wp2_with fail
        refine (sameInts _ x1 x2 c1 c2 [] [] S3.out.row Z3.out.row (by simp) (by simp)).mono ?_
        rintro e t4 ⟨rfl, gr⟩
        rw [show decide (([] : List Int) = []) = true from by simp]
        have S4 := hide (S3.out.kept (kept_grown gr) (by omega))
        have Bet4 := hide (below_kept Bet3.out (kept_grown gr) (by omega))
        clear gr S3 Z3 Bet3
        go_wp2_with fail
        go_ret
        exact ⟨rfl, Bet4.out⟩
      · have HL0 : Pl.bdV n = Pl.booth n 16 := by simp [Pl.bdV, hO]
        have hat := booth_at n 16
        have hlen := Pl.booth_len n 16
        have hs16 := Pl.bsum_16 hO
        have ok2 := Pl.okv2 hO
        generalize Pl.booth n 16 = L at HL0 hat hlen
        have HL := hide HL0
        have HAT := hide hat
        have HS := hide hs16
        have OK := hide ok2
        have HO := hide hO
        have HLEN := hide hlen
        have ll : L.length ≤ 2000000 := by omega
        clear HL0 hat hO hs16 ok2 hlen
        go_wp2_with fail
        refine (implBoothDigits _ n wfn).mono ?_
        rw [HL.out, HO.out]
        rintro e t2 ⟨x1, c1, rfl, s9, k9⟩
        have S2 := hide s9
        have Bet2 := hide (below_kept Bet1.out k9 (by omega))
        clear s9 k9 Bet1
        go_wp2_with fail
        refine (specBoothDigits n _).mono ?_
        rw [HL.out, HO.out]
        rintro e t3 ⟨x2, c2, rfl, s9, k9⟩
        have Z3 := hide s9
        have S3 := hide (S2.out.kept k9 (by omega))
        have Bet3 := hide (below_kept Bet2.out k9 (by omega))
        clear s9 k9 S2 Bet2
        go_wp2_with fail
        refine (sameInts _ x1 x2 c1 c2 L L S3.out.row Z3.out.row (by exact ll) (by exact ll)).mono ?_
        rintro e t4 ⟨rfl, gr⟩
        rw [show decide ((L : List Int) = L) = true from by simp]
        have S4 := hide (S3.out.kept (kept_grown gr) (by omega))
        have Bet4 := hide (below_kept Bet3.out (kept_grown gr) (by omega))
        clear gr S3 Z3 Bet3
        have R4 := S4.out.row
        have hlen := HLEN.out
        go_wp2_with fail
        go_loop [30, 31, 32, 34, 191] (fun s p l _ j => ∃ k : Nat, k ≤ 16 ∧ j = .int .i64 k ∧ s = .int .i64 (Pl.bsum n k) ∧ p = .int .i64 (Pl.p2 k) ∧ l = .int .i64 (Pl.lastD n k)) (fun _ _ _ _ j => 16 - (intOf j).toNat)
        case atStart => exact ⟨0, Nat.zero_le _, rfl, rfl, rfl, rfl⟩
        case round =>
          obtain ⟨k, hk, rfl, rfl, rfl, rfl⟩ := hrel
          by_cases hlt : k < 16
          · obtain ⟨g1, o1, rfl, hc1⟩ := R4 k (by omega)
            rw [HAT.out k hlt] at hc1
            obtain ⟨d0, d1⟩ := Pl.bdig_bd n k
            obtain ⟨s0, s1⟩ := Pl.bsum_bd n k
            have pp := Pl.p2_pos k
            have pl := Pl.p2_le hk
            have NS : Hid (Pl.bsum n (k + 1) = Pl.bsum n k + Pl.bdig n k * Pl.p2 k) := hide rfl
            have NP := hide (Pl.p2_succ k)
            have NL : Hid (Pl.lastD n (k + 1) = if Pl.bdig n k = 0 then Pl.lastD n k else Pl.bdig n k) := hide rfl
            have LN := hide (Pl.last_ne n k)
            have lb : -1 ≤ Pl.lastD n k ∧ Pl.lastD n k ≤ 1 := by have := Pl.lastD_is n k; omega
            generalize Pl.bsum n k = S at NS s0 s1
            generalize Pl.p2 k = P at NS NP s0 s1 pp pl
            generalize Pl.lastD n k = W at NL LN lb
            generalize Pl.bdig n k = D at NS NL LN d0 d1 hc1
            clear R4
            obtain rfl | rfl | rfl : D = -1 ∨ D = 0 ∨ D = 1 := by omega
            · have lw : W ≠ -1 := fun e => LN.out (by omega) e.symm
              have lq : ((-1 : Int) == W) = false := by simp; omega
              go_wp2_with fail
              go_round
              case rel => exact ⟨k + 1, by omega, by go_num, by rw [NS.out]; first | go_num | (congr 1; omega), by rw [NP.out], by rw [NL.out]; simp⟩
              case measure => simp [intOf]; omega
            · go_wp2_with fail
              go_round
              case rel => exact ⟨k + 1, by omega, by go_num, by rw [NS.out]; first | go_num | (congr 1; omega), by rw [NP.out], by rw [NL.out]; simp⟩
              case measure => simp [intOf]; omega
            · have lw : W ≠ 1 := fun e => LN.out (by omega) e.symm
              have lq : ((1 : Int) == W) = false := by simp; omega
              go_wp2_with fail
              go_round
              case rel => exact ⟨k + 1, by omega, by go_num, by rw [NS.out]; first | go_num | (congr 1; omega), by rw [NP.out], by rw [NL.out]; simp⟩
              case measure => simp [intOf]; omega
          · obtain rfl : k = 16 := by omega
            have sgn : Pl.sgnV 2 n = Pl.bsum n 16 := by rw [Pl.sgnV_ok OK.out, HS.out]
            generalize Pl.bsum n 16 = S at sgn
            have SGN := hide sgn
            clear sgn R4
            go_wp2_with fail
            refine (signedOf 2 n _ (by omega) (by omega)).mono ?_
            rw [OK.out, SGN.out]
            rintro e9 w9 ⟨rfl, hw⟩
            have hw2 := hw.symm
            clear hw
            subst hw2
            go_wp2_with fail
            go_ret
            exact ⟨rB (by simp), Bet4.out⟩
end Go.Proofs.Ytjgcadighogmkaa
