/- The law on quotients: of whatever bytes, its Go function returns true, and no block that was there has turned. -/
import Derived.Test.YtjgcadighogmkaaSpecSteps
import Derived.Test.YtjgcadighogmkaaImplMul
import Derived.Test.YtjgcadighogmkaaDrawMul
import Derived.Test.YtjgcadighogmkaaSameInts
import Derived.Test.YtjgcadighogmkaaDivOnes
import Derived.Test.YtjgcadighogmkaaDrawn
namespace Go.Proofs.Ytjgcadighogmkaa
open Go.RowKit
set_option linter.unusedVariables false
theorem wfQ {n : Int} (h0 : -1 ≤ n) (h1 : n ≤ 65536) : (Lit.int .i64 n).wf = true := by
  have e1 : IntKind.i64.min = -9223372036854775808 := rfl
  have e2 : IntKind.i64.max = 9223372036854775807 := rfl
  simp [Lit.wf]
  omega
theorem steps_at (l b : Int) (n k : Nat) (h : k < n) : (Pl.steps l b n)[k]?.getD 0 = Pl.sD l b k := by simp [Pl.steps, h]
theorem Pl.dv_law {h l b : Int} (k : Pl.dOk h l b = true) : Pl.dvQ h l b * b + Pl.dvR h l b = h * 65536 + l ∧ (0 ≤ Pl.dvR h l b ∧ Pl.dvR h l b < b) ∧ (0 ≤ Pl.dvQ h l b ∧ Pl.dvQ h l b ≤ 65535) ∧ Pl.onesV 2 (Pl.dvQ h l b) = Pl.dvN h l b ∧ Pl.okv 2 (Pl.dvQ h l b) = true ∧ (0 ≤ h ∧ h ≤ 65535) ∧ (0 ≤ l ∧ l ≤ 65535) ∧ 1 ≤ b ∧ b ≤ 65535 := by
  unfold Pl.dvQ Pl.dvR Pl.dvN
  rw [if_pos k, if_pos k, if_pos k]
  unfold Pl.dOk at k
  simp only [Bool.and_eq_true, decide_eq_true_eq] at k
  obtain ⟨⟨k1, k2⟩, ⟨k3, k4⟩, k5⟩ := k
  obtain ⟨h0, h1⟩ := Pl.wOk_ok k1
  obtain ⟨l0, l1⟩ := Pl.wOk_ok k2
  obtain ⟨e, r0, r1, q0, q1⟩ := Pl.div_16 h0 k5 l0 l1
  refine ⟨e, ⟨r0, r1⟩, ⟨q0, q1⟩, (Pl.dN_16 h0 k5 l0 l1).symm, ?_, ⟨h0, h1⟩, ⟨l0, l1⟩, k3, k4⟩
  simp [Pl.okv, Pl.top]
  omega
theorem Pl.st_law {l b : Int} (k : Pl.sOk l b = true) : Pl.stR l b = l % b ∧ Pl.dQ 0 l b 16 = l / b ∧ (0 ≤ l ∧ l ≤ 65535) ∧ 1 ≤ b ∧ b ≤ 32767 := by
  unfold Pl.stR
  rw [if_pos k]
  unfold Pl.sOk at k
  simp only [Bool.and_eq_true, decide_eq_true_eq] at k
  obtain ⟨k1, k2, k3⟩ := k
  obtain ⟨l0, l1⟩ := Pl.wOk_ok k1
  obtain ⟨e1, e2⟩ := Pl.steps_16 k2 l0 l1
  exact ⟨e2, e1, ⟨l0, l1⟩, k2, k3⟩
theorem Pl.root_bd {s : Int} (h0 : 0 ≤ s) (h1 : s ≤ 255) : (0 ≤ s * s ∧ s * s ≤ 65025) ∧ 0 ≤ (s + 1) * (s + 1) ∧ (s + 1) * (s + 1) ≤ 65536 := by
  refine ⟨⟨Int.mul_nonneg h0 h0, ?_⟩, Int.mul_nonneg (by omega) (by omega), ?_⟩
  · exact Int.mul_le_mul h1 h1 h0 (by omega)
  · exact Int.mul_le_mul (show s + 1 ≤ 256 by omega) (show s + 1 ≤ 256 by omega) (by omega) (by omega)
set_option maxRecDepth 100000 in
set_option maxHeartbeats 3200000 in
theorem lawQuotients (a0 a1 : Option Addr) (len0 cap0 len1 cap1 : Nat) (w : World) (h0 : Bytes w a0 len0) (h1 : Bytes w a1 len1) :
    Calls Try.prog 4 #[.slice a0 len0 cap0, .slice a1 len1 cap1] w fun e w' => e = .returned (.bool true) ∧ Below w.heap.size w w' := by
  have l0 := h0.1
  have l1 := h1.1
  unfold maxLen at l0 l1
  by_cases hbig : 1048576 < wrap64 ((len0 : Int) + (len1 : Int))
  · go_enter Try.func4, Try.ntmps4
    go_wp2_with fail
    go_ret
    exact ⟨rfl, Below.refl _ _⟩
  · go_enter Try.func4, Try.ntmps4
    go_wp2_with fail
    refine (drawDivWords _ a0 len0 cap0 h0).mono ?_
    rintro e w1 ⟨x, u, y, rfl, x0, x1, u0, u1, y0, y1, hb⟩
    have Bew1 := hide hb
    clear hbig hb h0
    have wfx := wfQ (n := x) (by omega) (by omega)
    have wfu := wfQ (n := u) (by omega) (by omega)
    have wfy := wfQ (n := y) (by omega) (by omega)
    cases hD : Pl.dOk x u y
    · generalize hQ1 : Pl.dvQ x u y = Q1
      generalize hR1 : Pl.dvR x u y = R1
      generalize hN1 : Pl.dvN x u y = N1
      have HQ1 := hide hQ1
      have HR1 := hide hR1
      have HN1 := hide hN1
      have HO1 := hide hD
      clear hQ1 hR1 hN1 hD
      go_wp2_with fail
      refine (implDivWords _ x u y wfx wfu wfy).mono ?_
      rw [HQ1.out, HR1.out, HN1.out, HO1.out]
      rintro e w2 ⟨rfl, k9⟩
      have Bew2 := hide (below_kept Bew1.out k9 (by omega))
      clear k9 Bew1
      go_wp2_with fail
      refine (specDivWords x u y _).mono ?_
      rw [HQ1.out, HR1.out, HN1.out, HO1.out]
      rintro e9 w9 ⟨rfl, hw⟩
      have hw2 := hw.symm
      clear hw
      subst hw2
      go_wp2_with fail
      refine (drawDivSteps _ a1 len1 cap1 (h1.kept Bew2.out)).mono ?_
      rintro e t1 ⟨a, b, rfl, ya0, ya1, yb0, yb1, hb⟩
      have Bet1 := hide (below_kept Bew2.out (kept_below hb) (by omega))
      clear hb Bew2
      have wfa := wfQ (n := a) ya0 ya1
      have wfb := wfQ (n := b) (by omega) (by omega)
      cases hO : Pl.sOk a b
      · have HL : Hid (Pl.stV a b = []) := hide (by simp [Pl.stV, hO])
        have HR : Hid (Pl.stR a b = 0) := hide (by simp [Pl.stR, hO])
        have HO := hide hO
        clear hO
        go_wp2_with fail
        refine (implDivSteps _ a b wfa wfb).mono ?_
        unfold StepsRet
        rw [HL.out, HR.out, HO.out]
        rintro e t2 ⟨x1, c1, rfl, s9, k9⟩
        have S2 := hide s9
        have Bet2 := hide (below_kept Bet1.out k9 (by omega))
        clear s9 k9 Bet1
        go_wp2_with fail
        refine (specDivSteps a b _).mono ?_
        unfold StepsRet
        rw [HL.out, HR.out, HO.out]
        rintro e t3 ⟨x2, c2, rfl, s9, k9⟩
        have Z3 := hide s9
        have S3 := hide (S2.out.kept k9 (by omega))
        have Bet3 := hide (below_kept Bet2.out k9 (by omega))
        clear s9 k9 S2 Bet2
        go_wp2_with fail
        refine (sameInts _ x1 x2 c1 c2 [] [] S3.out.row Z3.out.row (by simp) (by simp)).mono ?_
        rintro e t4 ⟨rfl, gr⟩
        rw [show decide (([] : List Int) = []) = true from by simp]
        have S4 := hide (S3.out.kept (kept_grown gr) (by omega))
        have Bet4 := hide (below_kept Bet3.out (kept_grown gr) (by omega))
        clear gr S3 Z3 Bet3
        go_wp2_with fail
        refine (drawRootOf _ a1 len1 cap1 (h1.kept Bet4.out)).mono ?_
        rintro e r1 ⟨v, rfl, v0, v1, hb⟩
        have Ber1 := hide (below_kept Bet4.out (kept_below hb) (by omega))
        clear hb Bet4
        have wfv := wfQ (n := v) v0 v1
        cases hV : Pl.wOk v
        · have HV := hide hV
          clear hV
          go_wp2_with fail
          refine (implRootOf _ v wfv).mono ?_
          rw [HV.out]
          rintro e r2 ⟨s, rfl, q9, k9⟩
          have Q1 := hide q9
          have Ber2 := hide (below_kept Ber1.out k9 (by omega))
          clear q9 k9 Ber1
          go_wp2_with fail
          refine (specRootOf v _).mono ?_
          rw [HV.out]
          rintro e r3 ⟨s2, rfl, hw, q9⟩
          have hw2 := hw.symm
          clear hw
          subst hw2
          obtain rfl : s = 0 := Q1.out.1 HV.out
          obtain rfl : s2 = 0 := q9.1 HV.out
          clear q9
          go_wp2_with fail
          go_ret
          exact ⟨rB (by simp), Ber2.out⟩
        · have HV := hide hV
          clear hV
          go_wp2_with fail
          refine (implRootOf _ v wfv).mono ?_
          rw [HV.out]
          rintro e r2 ⟨s, rfl, q9, k9⟩
          have Q1 := hide q9
          have Ber2 := hide (below_kept Ber1.out k9 (by omega))
          clear q9 k9 Ber1
          go_wp2_with fail
          refine (specRootOf v _).mono ?_
          rw [HV.out]
          rintro e r3 ⟨s2, rfl, hw, q9⟩
          have hw2 := hw.symm
          clear hw
          subst hw2
          obtain ⟨s0, s1, s3, s4⟩ := Q1.out.2 HV.out
          obtain ⟨t0, t1, t3, t4⟩ := q9.2 HV.out
          obtain rfl := Pl.root_one s0 t0 s3 s4 t3 t4
          clear q9 Q1 t0 t1 t3 t4
          obtain ⟨⟨u0, u1⟩, u2, u3⟩ := Pl.root_bd s0 s1
          go_wp2_with fail
          go_ret
          exact ⟨rB (by first | rfl | simp | (simp; omega)), Ber2.out⟩
      · have HL0 : Pl.stV a b = Pl.steps a b 16 := by simp [Pl.stV, hO]
        have hat := steps_at a b 16
        have hlen := Pl.steps_len a b 16
        obtain ⟨hR, hQ16, ⟨ka0, ka1⟩, kb0, kb1⟩ := Pl.st_law hO
        generalize Pl.steps a b 16 = L at HL0 hat hlen
        have HL := hide HL0
        have HAT := hide hat
        have HQ := hide hQ16
        have HR := hide hR
        have HO := hide hO
        have HLEN := hide hlen
        have ll : L.length ≤ 2000000 := by omega
        clear HL0 hat hO hR hQ16 hlen
        go_wp2_with fail
        refine (implDivSteps _ a b wfa wfb).mono ?_
        unfold StepsRet
        rw [HL.out, HR.out, HO.out]
        rintro e t2 ⟨x1, c1, rfl, s9, k9⟩
        have S2 := hide s9
        have Bet2 := hide (below_kept Bet1.out k9 (by omega))
        clear s9 k9 Bet1
        go_wp2_with fail
        refine (specDivSteps a b _).mono ?_
        unfold StepsRet
        rw [HL.out, HR.out, HO.out]
        rintro e t3 ⟨x2, c2, rfl, s9, k9⟩
        have Z3 := hide s9
        have S3 := hide (S2.out.kept k9 (by omega))
        have Bet3 := hide (below_kept Bet2.out k9 (by omega))
        clear s9 k9 S2 Bet2
        go_wp2_with fail
        refine (sameInts _ x1 x2 c1 c2 L L S3.out.row Z3.out.row (by exact ll) (by exact ll)).mono ?_
        rintro e t4 ⟨rfl, gr⟩
        rw [show decide ((L : List Int) = L) = true from by simp]
        have S4 := hide (S3.out.kept (kept_grown gr) (by omega))
        have Bet4 := hide (below_kept Bet3.out (kept_grown gr) (by omega))
        clear gr S3 Z3 Bet3
        have R4 := S4.out.row
        have hlen := HLEN.out
        go_wp2_with fail
        go_loop [26, 28, 152] (fun s _ j => ∃ k : Nat, k ≤ 16 ∧ j = .int .i64 k ∧ s = .int .i64 (Pl.dQ 0 a b k)) (fun _ _ j => 16 - (intOf j).toNat)
        case atStart => exact ⟨0, Nat.zero_le _, rfl, rfl⟩
        case round =>
          obtain ⟨k, hk, rfl, rfl⟩ := hrel
          by_cases hlt : k < 16
          · obtain ⟨g1, o1, rfl, hc1⟩ := R4 k (by omega)
            rw [HAT.out k hlt] at hc1
            obtain ⟨_, _, q0, q1⟩ := Pl.div_inv (h := 0) (l := a) (b := b) (Int.le_refl _) (by omega) ka0 k hk
            have q2 := Pl.p2_le hk
            have NQ := hide (Pl.sD_is kb0 ka0 hlt)
            have hd : Pl.sD a b k = 1 ∨ Pl.sD a b k = -1 := by unfold Pl.sD; split <;> simp
            generalize Pl.dQ 0 a b k = S at NQ q0 q1
            generalize Pl.sD a b k = D at NQ hd hc1
            clear R4
            obtain rfl | rfl := hd
            · go_wp2_with fail
              go_round
              case rel => exact ⟨k + 1, by omega, by go_num, by rw [NQ.out]; simp; try omega⟩
              case measure => simp [intOf]; omega
            · go_wp2_with fail
              go_round
              case rel => exact ⟨k + 1, by omega, by go_num, by rw [NQ.out]; simp; try omega⟩
              case measure => simp [intOf]; omega
          · obtain rfl : k = 16 := by omega
            rw [HQ.out]
            have em : a.tdiv b = a / b := Int.tdiv_eq_ediv_of_nonneg ka0
            have en : a.tmod b = a % b := Int.tmod_eq_emod_of_nonneg ka0
            have dq0 := Int.ediv_nonneg ka0 (show 0 ≤ b by omega)
            have dq1 := Int.ediv_le_self b ka0
            have dm0 := Int.emod_nonneg a (show b ≠ 0 by omega)
            have dm1 := Int.emod_lt_of_pos a (show 0 < b by omega)
            generalize a / b = Q at em dq0 dq1 ⊢
            generalize a % b = R at en dm0 dm1 ⊢
            clear R4
            go_wp2_with fail
            refine (drawRootOf _ a1 len1 cap1 (h1.kept Bet4.out)).mono ?_
            rintro e r1 ⟨v, rfl, v0, v1, hb⟩
            have Ber1 := hide (below_kept Bet4.out (kept_below hb) (by omega))
            clear hb Bet4
            have wfv := wfQ (n := v) v0 v1
            cases hV : Pl.wOk v
            · have HV := hide hV
              clear hV
              go_wp2_with fail
              refine (implRootOf _ v wfv).mono ?_
              rw [HV.out]
              rintro e r2 ⟨s, rfl, q9, k9⟩
              have Q1 := hide q9
              have Ber2 := hide (below_kept Ber1.out k9 (by omega))
              clear q9 k9 Ber1
              go_wp2_with fail
              refine (specRootOf v _).mono ?_
              rw [HV.out]
              rintro e r3 ⟨s2, rfl, hw, q9⟩
              have hw2 := hw.symm
              clear hw
              subst hw2
              obtain rfl : s = 0 := Q1.out.1 HV.out
              obtain rfl : s2 = 0 := q9.1 HV.out
              clear q9
              go_wp2_with fail
              go_ret
              exact ⟨rB (by simp), Ber2.out⟩
            · have HV := hide hV
              clear hV
              go_wp2_with fail
              refine (implRootOf _ v wfv).mono ?_
              rw [HV.out]
              rintro e r2 ⟨s, rfl, q9, k9⟩
              have Q1 := hide q9
              have Ber2 := hide (below_kept Ber1.out k9 (by omega))
              clear q9 k9 Ber1
              go_wp2_with fail
              refine (specRootOf v _).mono ?_
              rw [HV.out]
              rintro e r3 ⟨s2, rfl, hw, q9⟩
              have hw2 := hw.symm
              clear hw
              subst hw2
              obtain ⟨s0, s1, s3, s4⟩ := Q1.out.2 HV.out
              obtain ⟨t0, t1, t3, t4⟩ := q9.2 HV.out
              obtain rfl := Pl.root_one s0 t0 s3 s4 t3 t4
              clear q9 Q1 t0 t1 t3 t4
              obtain ⟨⟨u0, u1⟩, u2, u3⟩ := Pl.root_bd s0 s1
              go_wp2_with fail
              go_ret
              exact ⟨rB (by first | rfl | simp | (simp; omega)), Ber2.out⟩
    · obtain ⟨m1, ⟨m2, m3⟩, ⟨m4, m5⟩, m6, m7, ⟨m8, m9⟩, ⟨n1, n2⟩, n3, n4⟩ := Pl.dv_law hD
      generalize hQ1 : Pl.dvQ x u y = Q1 at m1 m4 m5 m6 m7
      generalize hR1 : Pl.dvR x u y = R1 at m1 m2 m3
      generalize hN1 : Pl.dvN x u y = N1 at m6
      have HQ1 := hide hQ1
      have HR1 := hide hR1
      have HN1 := hide hN1
      have HO1 := hide hD
      clear hQ1 hR1 hN1 hD
      have M6 := hide m6
      have M7 := hide m7
      clear m6 m7
      go_wp2_with fail
      refine (implDivWords _ x u y wfx wfu wfy).mono ?_
      rw [HQ1.out, HR1.out, HN1.out, HO1.out]
      rintro e w2 ⟨rfl, k9⟩
      have Bew2 := hide (below_kept Bew1.out k9 (by omega))
      clear k9 Bew1
      go_wp2_with fail
      refine (specDivWords x u y _).mono ?_
      rw [HQ1.out, HR1.out, HN1.out, HO1.out]
      rintro e9 w9 ⟨rfl, hw⟩
      have hw2 := hw.symm
      clear hw
      subst hw2
      go_wp2_with fail
      refine (countOnes 2 Q1 _ (w64 (by omega) (by omega))).mono ?_
      rw [M6.out, M7.out]
      rintro e w3 ⟨rfl, nn, rfl⟩
      have Bew3 := hide (drewN_below Bew2.out nn)
      clear Bew2
      go_wp2_with fail
      refine (drawDivSteps _ a1 len1 cap1 (h1.kept Bew3.out)).mono ?_
      rintro e t1 ⟨a, b, rfl, ya0, ya1, yb0, yb1, hb⟩
      have Bet1 := hide (below_kept Bew3.out (kept_below hb) (by omega))
      clear hb Bew3
      have wfa := wfQ (n := a) ya0 ya1
      have wfb := wfQ (n := b) (by omega) (by omega)
      cases hO : Pl.sOk a b
      · have HL : Hid (Pl.stV a b = []) := hide (by simp [Pl.stV, hO])
        have HR : Hid (Pl.stR a b = 0) := hide (by simp [Pl.stR, hO])
        have HO := hide hO
        clear hO
        go_wp2_with fail
        refine (implDivSteps _ a b wfa wfb).mono ?_
        unfold StepsRet
        rw [HL.out, HR.out, HO.out]
        rintro e t2 ⟨x1, c1, rfl, s9, k9⟩
        have S2 := hide s9
        have Bet2 := hide (below_kept Bet1.out k9 (by omega))
        clear s9 k9 Bet1
        go_wp2_with fail
        refine (specDivSteps a b _).mono ?_
        unfold StepsRet
        rw [HL.out, HR.out, HO.out]
        rintro e t3 ⟨x2, c2, rfl, s9, k9⟩
        have Z3 := hide s9
        have S3 := hide (S2.out.kept k9 (by omega))
        have Bet3 := hide (below_kept Bet2.out k9 (by omega))
        clear s9 k9 S2 Bet2
        go_wp2_with fail
        refine (sameInts _ x1 x2 c1 c2 [] [] S3.out.row Z3.out.row (by simp) (by simp)).mono ?_
        rintro e t4 ⟨rfl, gr⟩
        rw [show decide (([] : List Int) = []) = true from by simp]
        have S4 := hide (S3.out.kept (kept_grown gr) (by omega))
        have Bet4 := hide (below_kept Bet3.out (kept_grown gr) (by omega))
        clear gr S3 Z3 Bet3
        go_wp2_with fail
        refine (drawRootOf _ a1 len1 cap1 (h1.kept Bet4.out)).mono ?_
        rintro e r1 ⟨v, rfl, v0, v1, hb⟩
        have Ber1 := hide (below_kept Bet4.out (kept_below hb) (by omega))
        clear hb Bet4
        have wfv := wfQ (n := v) v0 v1
        cases hV : Pl.wOk v
        · have HV := hide hV
          clear hV
          go_wp2_with fail
          refine (implRootOf _ v wfv).mono ?_
          rw [HV.out]
          rintro e r2 ⟨s, rfl, q9, k9⟩
          have Q1 := hide q9
          have Ber2 := hide (below_kept Ber1.out k9 (by omega))
          clear q9 k9 Ber1
          go_wp2_with fail
          refine (specRootOf v _).mono ?_
          rw [HV.out]
          rintro e r3 ⟨s2, rfl, hw, q9⟩
          have hw2 := hw.symm
          clear hw
          subst hw2
          obtain rfl : s = 0 := Q1.out.1 HV.out
          obtain rfl : s2 = 0 := q9.1 HV.out
          clear q9
          go_wp2_with fail
          go_ret
          exact ⟨rB (by simp), Ber2.out⟩
        · have HV := hide hV
          clear hV
          go_wp2_with fail
          refine (implRootOf _ v wfv).mono ?_
          rw [HV.out]
          rintro e r2 ⟨s, rfl, q9, k9⟩
          have Q1 := hide q9
          have Ber2 := hide (below_kept Ber1.out k9 (by omega))
          clear q9 k9 Ber1
          go_wp2_with fail
          refine (specRootOf v _).mono ?_
          rw [HV.out]
          rintro e r3 ⟨s2, rfl, hw, q9⟩
          have hw2 := hw.symm
          clear hw
          subst hw2
          obtain ⟨s0, s1, s3, s4⟩ := Q1.out.2 HV.out
          obtain ⟨t0, t1, t3, t4⟩ := q9.2 HV.out
          obtain rfl := Pl.root_one s0 t0 s3 s4 t3 t4
          clear q9 Q1 t0 t1 t3 t4
          obtain ⟨⟨u0, u1⟩, u2, u3⟩ := Pl.root_bd s0 s1
          go_wp2_with fail
          go_ret
          exact ⟨rB (by first | rfl | simp | (simp; omega)), Ber2.out⟩
      · have HL0 : Pl.stV a b = Pl.steps a b 16 := by simp [Pl.stV, hO]
        have hat := steps_at a b 16
        have hlen := Pl.steps_len a b 16
        obtain ⟨hR, hQ16, ⟨ka0, ka1⟩, kb0, kb1⟩ := Pl.st_law hO
        generalize Pl.steps a b 16 = L at HL0 hat hlen
        have HL := hide HL0
        have HAT := hide hat
        have HQ := hide hQ16
        have HR := hide hR
        have HO := hide hO
        have HLEN := hide hlen
        have ll : L.length ≤ 2000000 := by omega
        clear HL0 hat hO hR hQ16 hlen
        go_wp2_with fail
        refine (implDivSteps _ a b wfa wfb).mono ?_
        unfold StepsRet
        rw [HL.out, HR.out, HO.out]
        rintro e t2 ⟨x1, c1, rfl, s9, k9⟩
        have S2 := hide s9
        have Bet2 := hide (below_kept Bet1.out k9 (by omega))
        clear s9 k9 Bet1
        go_wp2_with fail
        refine (specDivSteps a b _).mono ?_
        unfold StepsRet
        rw [HL.out, HR.out, HO.out]
        rintro e t3 ⟨x2, c2, rfl, s9, k9⟩
        have Z3 := hide s9
        have S3 := hide (S2.out.kept k9 (by omega))
        have Bet3 := hide (below_kept Bet2.out k9 (by omega))
        clear s9 k9 S2 Bet2
        go_wp2_with fail
        refine (sameInts _ x1 x2 c1 c2 L L S3.out.row Z3.out.row (by exact ll) (by exact ll)).mono ?_
        rintro e t4 ⟨rfl, gr⟩
        rw [show decide ((L : List Int) = L) = true from by simp]
        have S4 := hide (S3.out.kept (kept_grown gr) (by omega))
        have Bet4 := hide (below_kept Bet3.out (kept_grown gr) (by omega))
        clear gr S3 Z3 Bet3
        have R4 := S4.out.row
        have hlen := HLEN.out
        go_wp2_with fail
        go_loop [26, 28, 152] (fun s _ j => ∃ k : Nat, k ≤ 16 ∧ j = .int .i64 k ∧ s = .int .i64 (Pl.dQ 0 a b k)) (fun _ _ j => 16 - (intOf j).toNat)
        case atStart => exact ⟨0, Nat.zero_le _, rfl, rfl⟩
        case round =>
          obtain ⟨k, hk, rfl, rfl⟩ := hrel
          by_cases hlt : k < 16
          · obtain ⟨g1, o1, rfl, hc1⟩ := R4 k (by omega)
            rw [HAT.out k hlt] at hc1
            obtain ⟨_, _, q0, q1⟩ := Pl.div_inv (h := 0) (l := a) (b := b) (Int.le_refl _) (by omega) ka0 k hk
            have q2 := Pl.p2_le hk
            have NQ := hide (Pl.sD_is kb0 ka0 hlt)
            have hd : Pl.sD a b k = 1 ∨ Pl.sD a b k = -1 := by unfold Pl.sD; split <;> simp
            generalize Pl.dQ 0 a b k = S at NQ q0 q1
            generalize Pl.sD a b k = D at NQ hd hc1
            clear R4
            obtain rfl | rfl := hd
            · go_wp2_with fail
              go_round
              case rel => exact ⟨k + 1, by omega, by go_num, by rw [NQ.out]; simp; try omega⟩
              case measure => simp [intOf]; omega
            · go_wp2_with fail
              go_round
              case rel => exact ⟨k + 1, by omega, by go_num, by rw [NQ.out]; simp; try omega⟩
              case measure => simp [intOf]; omega
          · obtain rfl : k = 16 := by omega
            rw [HQ.out]
            have em : a.tdiv b = a / b := Int.tdiv_eq_ediv_of_nonneg ka0
            have en : a.tmod b = a % b := Int.tmod_eq_emod_of_nonneg ka0
            have dq0 := Int.ediv_nonneg ka0 (show 0 ≤ b by omega)
            have dq1 := Int.ediv_le_self b ka0
            have dm0 := Int.emod_nonneg a (show b ≠ 0 by omega)
            have dm1 := Int.emod_lt_of_pos a (show 0 < b by omega)
            generalize a / b = Q at em dq0 dq1 ⊢
            generalize a % b = R at en dm0 dm1 ⊢
            clear R4
            go_wp2_with fail
            refine (drawRootOf _ a1 len1 cap1 (h1.kept Bet4.out)).mono ?_
            rintro e r1 ⟨v, rfl, v0, v1, hb⟩
            have Ber1 := hide (below_kept Bet4.out (kept_below hb) (by omega))
            clear hb Bet4
            have wfv := wfQ (n := v) v0 v1
            cases hV : Pl.wOk v
            · have HV := hide hV
              clear hV
              go_wp2_with fail
              refine (implRootOf _ v wfv).mono ?_
              rw [HV.out]
              rintro e r2 ⟨s, rfl, q9, k9⟩
              have Q1 := hide q9
              have Ber2 := hide (below_kept Ber1.out k9 (by omega))
              clear q9 k9 Ber1
              go_wp2_with fail
              refine (specRootOf v _).mono ?_
              rw [HV.out]
              rintro e r3 ⟨s2, rfl, hw, q9⟩
              have hw2 := hw.symm
              clear hw
              subst hw2
              obtain rfl : s = 0 := Q1.out.1 HV.out
              obtain rfl : s2 = 0 := q9.1 HV.out
              clear q9
              go_wp2_with fail
              go_ret
              exact ⟨rB (by simp), Ber2.out⟩
            · have HV := hide hV
              clear hV
              go_wp2_with fail
              refine (implRootOf _ v wfv).mono ?_
              rw [HV.out]
              rintro e r2 ⟨s, rfl, q9, k9⟩
              have Q1 := hide q9
              have Ber2 := hide (below_kept Ber1.out k9 (by omega))
              clear q9 k9 Ber1
              go_wp2_with fail
              refine (specRootOf v _).mono ?_
              rw [HV.out]
              rintro e r3 ⟨s2, rfl, hw, q9⟩
              have hw2 := hw.symm
              clear hw
              subst hw2
              obtain ⟨s0, s1, s3, s4⟩ := Q1.out.2 HV.out
              obtain ⟨t0, t1, t3, t4⟩ := q9.2 HV.out
              obtain rfl := Pl.root_one s0 t0 s3 s4 t3 t4
              clear q9 Q1 t0 t1 t3 t4
              obtain ⟨⟨u0, u1⟩, u2, u3⟩ := Pl.root_bd s0 s1
              go_wp2_with fail
              go_ret
              exact ⟨rB (by first | rfl | simp | (simp; omega)), Ber2.out⟩
end Go.Proofs.Ytjgcadighogmkaa
