/- The law on conditions: of whatever bytes, its Go function returns true, and no block that was there has turned. -/
import Derived.Test.YtceipklpbnmggaaSpecCond
import Derived.Test.YtceipklpbnmggaaImplCond
import Derived.Test.YtceipklpbnmggaaDrawCond
import Derived.Test.YtceipklpbnmggaaLawNum
namespace Go.Proofs.Ytceipklpbnmggaa
open Go.RowKit
set_option linter.unusedVariables false
theorem wfSc {n : Int} (h0 : -1 ≤ n) (h1 : n ≤ 65536) : (Lit.int .i64 n).wf = true := by
  have e1 : IntKind.i64.min = -9223372036854775808 := rfl
  have e2 : IntKind.i64.max = 9223372036854775807 := rfl
  simp [Lit.wf]
  omega
theorem belowC {w w1 w2 : World} (h : Below w.heap.size w w1) (k : Kept 0 0 w1 w2) : Below w.heap.size w w2 := below_kept h k (by omega)
set_option maxRecDepth 100000 in
set_option maxHeartbeats 16000000 in
theorem lawConds (a0 a1 : Option Addr) (len0 cap0 len1 cap1 : Nat) (w : World) (h0 : Bytes w a0 len0) (h1 : Bytes w a1 len1) :
    Calls Try.prog 3 #[.slice a0 len0 cap0, .slice a1 len1 cap1] w fun e w' => e = .returned (.bool true) ∧ Below w.heap.size w w' := by
  have l0 := h0.1
  have l1 := h1.1
  unfold maxLen at l0 l1
  by_cases hbig : 1048576 < wrap64 ((len0 : Int) + (len1 : Int))
  · go_enter Try.func3, Try.ntmps3
    go_wp2_with fail
    go_ret
    exact ⟨rfl, Below.refl _ _⟩
  · go_enter Try.func3, Try.ntmps3
    go_wp2_with fail
    refine (drawTestCond _ a0 len0 cap0 h0).mono ?_
    rintro e w1 ⟨k, f, rfl, k0, k1, f0, f1, hb⟩
    have Bew1 := hide hb
    clear hbig hb
    have wfk := wfSc (n := k) (by omega) (by omega)
    have wff := wfSc (n := f) (by omega) (by omega)
    cases hO : (Pl.cOk k && Pl.flags f)
    · go_wp2_with fail
      refine (implTestCond _ k f wfk wff).mono ?_
      rw [hO]
      rintro e w2 ⟨rfl, k9⟩
      have Bew2 := hide (belowC Bew1.out k9)
      clear k9 Bew1
      go_wp2_with fail
      refine (specTestCond k f _).mono ?_
      rw [hO]
      rintro e9 w9 ⟨rfl, hw⟩
      have hw2 := hw.symm
      clear hw
      subst hw2
      go_wp2_with fail
      refine (drawNeedsOf _ a1 len1 cap1 (h1.kept Bew2.out)).mono ?_
      rintro e t1 ⟨p, rfl, p0, p1, hb⟩
      have Bet1 := hide (belowC Bew2.out (kept_below hb))
      clear hb Bew2
      have wfp := wfSc (n := p) (by omega) (by omega)
      generalize hA1 : Pl.needV p = A1
      generalize hA2 : Pl.cOk p = A2
      generalize hA3 : Pl.contrV p = A3
      have HA1 := hide hA1
      have HA2 := hide hA2
      have HA3 := hide hA3
      clear hA1 hA2 hA3
      go_wp2_with fail
      refine (implNeedsOf _ p wfp).mono ?_
      rw [HA1.out, HA2.out]
      rintro e t2 ⟨rfl, k9⟩
      have Bet2 := hide (belowC Bet1.out k9)
      clear k9 Bet1
      go_wp2_with fail
      refine (specNeedsOf p _).mono ?_
      rw [HA1.out, HA2.out]
      rintro e9 w9 ⟨rfl, hw⟩
      have hw2 := hw.symm
      clear hw
      subst hw2
      go_wp2_with fail
      refine (implContraryOf _ p wfp).mono ?_
      rw [HA3.out, HA2.out]
      rintro e t3 ⟨rfl, k9⟩
      have Bet3 := hide (belowC Bet2.out k9)
      clear k9 Bet2
      go_wp2_with fail
      refine (specContraryOf p _).mono ?_
      rw [HA3.out, HA2.out]
      rintro e9 w9 ⟨rfl, hw⟩
      have hw2 := hw.symm
      clear hw
      subst hw2
      go_wp2_with fail
      refine (drawCountTrue _ a1 len1 cap1 (h1.kept Bet3.out)).mono ?_
      rintro e t4 ⟨q, rfl, q0, q1, hb⟩
      have Bet4 := hide (belowC Bet3.out (kept_below hb))
      clear hb Bet3
      have wfq := wfSc (n := q) (by omega) (by omega)
      generalize hA4 : Pl.cntV q = A4
      generalize hA5 : Pl.flags q = A5
      have HA4 := hide hA4
      have HA5 := hide hA5
      clear hA4 hA5
      go_wp2_with fail
      refine (implCountTrue _ q wfq).mono ?_
      rw [HA4.out, HA5.out]
      rintro e t5 ⟨rfl, k9⟩
      have Bet5 := hide (belowC Bet4.out k9)
      clear k9 Bet4
      go_wp2_with fail
      refine (specCountTrue q _).mono ?_
      rw [HA4.out, HA5.out]
      rintro e9 w9 ⟨rfl, hw⟩
      have hw2 := hw.symm
      clear hw
      subst hw2
      go_wp2_with fail
      go_ret
      exact ⟨rB (by simp), Bet5.out⟩
    · obtain ⟨hk, hf⟩ := Bool.and_eq_true_iff.1 hO
      obtain ⟨kk0, kk1⟩ := Pl.cOk_ok hk
      obtain ⟨ff0, ff1⟩ := Pl.flags_ok hf
      obtain ⟨n, hn, rfl⟩ := Pl.nat_of (n := 16) kk0 (by omega)
      obtain ⟨j, hj, rfl⟩ := Pl.nat_of (n := 32) ff0 (by omega)
      have HO := hide hO
      have HK := hide hk
      have HF := hide hf
      obtain ⟨c, hc⟩ : ∃ c, Pl.contr (n : Int) = c := ⟨_, rfl⟩
      obtain ⟨c0, c1⟩ := Pl.contr_in n hn
      have htc := Pl.tst_contr n hn j hj
      rw [hc] at c0 c1 htc
      have HCV : Hid (Pl.contrV (n : Int) = c) := hide (by simp [Pl.contrV, hk, hc])
      have HCO : Hid ((Pl.cOk c && Pl.flags (j : Int)) = true) := hide (by rw [hf]; simp [Pl.cOk]; omega)
      have wfc := wfSc (n := c) (by omega) (by omega)
      obtain ⟨N, hN⟩ : ∃ N, Pl.need (n : Int) = N := ⟨_, rfl⟩
      have HNV : Hid (Pl.needV (n : Int) = N) := hide (by simp [Pl.needV, hk, hN])
      have HCT : Hid (Pl.cntV (j : Int) = 8) := hide (by simp only [Pl.cntV, hf, if_true]; exact Pl.cnt_eight j hj)
      have HOI := hide (fun m hm => Pl.other_in n hn j hj m hm)
      have HTO := hide (fun m hm => Pl.tst_other n hn j hj m hm)
      rw [hN] at HOI HTO
      obtain ⟨T, hT⟩ : ∃ T, Pl.tst (n : Int) (j : Int) = T := ⟨_, rfl⟩
      rw [hT] at htc HTO
      have HT := hide hT
      have HTC := hide htc
      clear hO hk hf hc htc hN hT kk0 kk1 ff0 ff1 c0 c1
      cases T
      · go_wp2_with fail
        refine (implTestCond _ n j wfk wff).mono ?_
        rw [HO.out, HT.out]
        rintro e w2 ⟨rfl, k9⟩
        have Bew2 := hide (belowC Bew1.out k9)
        clear k9 Bew1
        go_wp2_with fail
        refine (specTestCond n j _).mono ?_
        rw [HO.out, HT.out]
        rintro e9 w9 ⟨rfl, hw⟩
        have hw2 := hw.symm
        clear hw
        subst hw2
        go_wp2_with fail
        refine (implContraryOf _ n wfk).mono ?_
        rw [HCV.out, HK.out]
        rintro e w3 ⟨rfl, k9⟩
        have Bew3 := hide (belowC Bew2.out k9)
        clear k9 Bew2
        go_wp2_with fail
        refine (implTestCond _ c j wfc wff).mono ?_
        rw [HCO.out, HTC.out]
        rintro e w4 ⟨rfl, k9⟩
        have Bew4 := hide (belowC Bew3.out k9)
        clear k9 Bew3
        go_wp2_with fail
        refine (implNeedsOf _ n wfk).mono ?_
        rw [HNV.out, HK.out]
        rintro e w5 ⟨rfl, k9⟩
        have Bew5 := hide (belowC Bew4.out k9)
        clear k9 Bew4
        go_wp2_with fail
        refine (lawNum _ a1 len1 cap1 (h1.kept Bew5.out)).mono ?_
        rintro e w6 ⟨m, rfl, m0, m1, hb⟩
        have Bew6 := hide (belowC Bew5.out (kept_below hb))
        clear hb Bew5
        obtain ⟨p, hp, ep⟩ := Pl.nat_of (k := m % 32) (n := 32) (by omega) (by omega)
        have et : m.tmod 32 = (p : Int) := by rw [Int.tmod_eq_emod_of_nonneg m0, ep]
        obtain ⟨o0, o1⟩ := HOI.out p hp
        have ot := HTO.out p hp
        obtain ⟨Q, hQ⟩ : ∃ Q, bits .or .i64 (bits .and .i64 (j : Int) N) (bits .andNot .i64 (p : Int) N) = Q := ⟨_, rfl⟩
        rw [hQ] at o0 o1 ot
        have OT := hide ot
        have HQO : Hid ((Pl.cOk (n : Int) && Pl.flags Q) = true) := hide (by rw [HK.out]; simp [Pl.flags]; omega)
        have wfQ := wfSc (n := Q) (by omega) (by omega)
        clear ot ep o0 o1
        go_wp2_with fail
        refine (implTestCond _ n Q wfk wfQ).mono ?_
        rw [HQO.out, OT.out]
        rintro e w7 ⟨rfl, k9⟩
        have Bew7 := hide (belowC Bew6.out k9)
        clear k9 Bew6
        clear et hQ
        go_wp2_with fail
        refine (implCountTrue _ j wff).mono ?_
        rw [HCT.out, HF.out]
        rintro e w8 ⟨rfl, k9⟩
        have Bew8 := hide (belowC Bew7.out k9)
        clear k9 Bew7
        go_wp2_with fail
        refine (drawNeedsOf _ a1 len1 cap1 (h1.kept Bew8.out)).mono ?_
        rintro e t1 ⟨p, rfl, p0, p1, hb⟩
        have Bet1 := hide (belowC Bew8.out (kept_below hb))
        clear hb Bew8
        have wfp := wfSc (n := p) (by omega) (by omega)
        generalize hA1 : Pl.needV p = A1
        generalize hA2 : Pl.cOk p = A2
        generalize hA3 : Pl.contrV p = A3
        have HA1 := hide hA1
        have HA2 := hide hA2
        have HA3 := hide hA3
        clear hA1 hA2 hA3
        go_wp2_with fail
        refine (implNeedsOf _ p wfp).mono ?_
        rw [HA1.out, HA2.out]
        rintro e t2 ⟨rfl, k9⟩
        have Bet2 := hide (belowC Bet1.out k9)
        clear k9 Bet1
        go_wp2_with fail
        refine (specNeedsOf p _).mono ?_
        rw [HA1.out, HA2.out]
        rintro e9 w9 ⟨rfl, hw⟩
        have hw2 := hw.symm
        clear hw
        subst hw2
        go_wp2_with fail
        refine (implContraryOf _ p wfp).mono ?_
        rw [HA3.out, HA2.out]
        rintro e t3 ⟨rfl, k9⟩
        have Bet3 := hide (belowC Bet2.out k9)
        clear k9 Bet2
        go_wp2_with fail
        refine (specContraryOf p _).mono ?_
        rw [HA3.out, HA2.out]
        rintro e9 w9 ⟨rfl, hw⟩
        have hw2 := hw.symm
        clear hw
        subst hw2
        go_wp2_with fail
        refine (drawCountTrue _ a1 len1 cap1 (h1.kept Bet3.out)).mono ?_
        rintro e t4 ⟨q, rfl, q0, q1, hb⟩
        have Bet4 := hide (belowC Bet3.out (kept_below hb))
        clear hb Bet3
        have wfq := wfSc (n := q) (by omega) (by omega)
        generalize hA4 : Pl.cntV q = A4
        generalize hA5 : Pl.flags q = A5
        have HA4 := hide hA4
        have HA5 := hide hA5
        clear hA4 hA5
        go_wp2_with fail
        refine (implCountTrue _ q wfq).mono ?_
        rw [HA4.out, HA5.out]
        rintro e t5 ⟨rfl, k9⟩
        have Bet5 := hide (belowC Bet4.out k9)
        clear k9 Bet4
        go_wp2_with fail
        refine (specCountTrue q _).mono ?_
        rw [HA4.out, HA5.out]
        rintro e9 w9 ⟨rfl, hw⟩
        have hw2 := hw.symm
        clear hw
        subst hw2
        go_wp2_with fail
        go_ret
        exact ⟨rB (by simp), Bet5.out⟩
      · go_wp2_with fail
        refine (implTestCond _ n j wfk wff).mono ?_
        rw [HO.out, HT.out]
        rintro e w2 ⟨rfl, k9⟩
        have Bew2 := hide (belowC Bew1.out k9)
        clear k9 Bew1
        go_wp2_with fail
        refine (specTestCond n j _).mono ?_
        rw [HO.out, HT.out]
        rintro e9 w9 ⟨rfl, hw⟩
        have hw2 := hw.symm
        clear hw
        subst hw2
        go_wp2_with fail
        refine (implContraryOf _ n wfk).mono ?_
        rw [HCV.out, HK.out]
        rintro e w3 ⟨rfl, k9⟩
        have Bew3 := hide (belowC Bew2.out k9)
        clear k9 Bew2
        go_wp2_with fail
        refine (implTestCond _ c j wfc wff).mono ?_
        rw [HCO.out, HTC.out]
        rintro e w4 ⟨rfl, k9⟩
        have Bew4 := hide (belowC Bew3.out k9)
        clear k9 Bew3
        go_wp2_with fail
        refine (implNeedsOf _ n wfk).mono ?_
        rw [HNV.out, HK.out]
        rintro e w5 ⟨rfl, k9⟩
        have Bew5 := hide (belowC Bew4.out k9)
        clear k9 Bew4
        go_wp2_with fail
        refine (lawNum _ a1 len1 cap1 (h1.kept Bew5.out)).mono ?_
        rintro e w6 ⟨m, rfl, m0, m1, hb⟩
        have Bew6 := hide (belowC Bew5.out (kept_below hb))
        clear hb Bew5
        obtain ⟨p, hp, ep⟩ := Pl.nat_of (k := m % 32) (n := 32) (by omega) (by omega)
        have et : m.tmod 32 = (p : Int) := by rw [Int.tmod_eq_emod_of_nonneg m0, ep]
        obtain ⟨o0, o1⟩ := HOI.out p hp
        have ot := HTO.out p hp
        obtain ⟨Q, hQ⟩ : ∃ Q, bits .or .i64 (bits .and .i64 (j : Int) N) (bits .andNot .i64 (p : Int) N) = Q := ⟨_, rfl⟩
        rw [hQ] at o0 o1 ot
        have OT := hide ot
        have HQO : Hid ((Pl.cOk (n : Int) && Pl.flags Q) = true) := hide (by rw [HK.out]; simp [Pl.flags]; omega)
        have wfQ := wfSc (n := Q) (by omega) (by omega)
        clear ot ep o0 o1
        go_wp2_with fail
        refine (implTestCond _ n Q wfk wfQ).mono ?_
        rw [HQO.out, OT.out]
        rintro e w7 ⟨rfl, k9⟩
        have Bew7 := hide (belowC Bew6.out k9)
        clear k9 Bew6
        clear et hQ
        go_wp2_with fail
        refine (implCountTrue _ j wff).mono ?_
        rw [HCT.out, HF.out]
        rintro e w8 ⟨rfl, k9⟩
        have Bew8 := hide (belowC Bew7.out k9)
        clear k9 Bew7
        go_wp2_with fail
        refine (drawNeedsOf _ a1 len1 cap1 (h1.kept Bew8.out)).mono ?_
        rintro e t1 ⟨p, rfl, p0, p1, hb⟩
        have Bet1 := hide (belowC Bew8.out (kept_below hb))
        clear hb Bew8
        have wfp := wfSc (n := p) (by omega) (by omega)
        generalize hA1 : Pl.needV p = A1
        generalize hA2 : Pl.cOk p = A2
        generalize hA3 : Pl.contrV p = A3
        have HA1 := hide hA1
        have HA2 := hide hA2
        have HA3 := hide hA3
        clear hA1 hA2 hA3
        go_wp2_with fail
        refine (implNeedsOf _ p wfp).mono ?_
        rw [HA1.out, HA2.out]
        rintro e t2 ⟨rfl, k9⟩
        have Bet2 := hide (belowC Bet1.out k9)
        clear k9 Bet1
        go_wp2_with fail
        refine (specNeedsOf p _).mono ?_
        rw [HA1.out, HA2.out]
        rintro e9 w9 ⟨rfl, hw⟩
        have hw2 := hw.symm
        clear hw
        subst hw2
        go_wp2_with fail
        refine (implContraryOf _ p wfp).mono ?_
        rw [HA3.out, HA2.out]
        rintro e t3 ⟨rfl, k9⟩
        have Bet3 := hide (belowC Bet2.out k9)
        clear k9 Bet2
        go_wp2_with fail
        refine (specContraryOf p _).mono ?_
        rw [HA3.out, HA2.out]
        rintro e9 w9 ⟨rfl, hw⟩
        have hw2 := hw.symm
        clear hw
        subst hw2
        go_wp2_with fail
        refine (drawCountTrue _ a1 len1 cap1 (h1.kept Bet3.out)).mono ?_
        rintro e t4 ⟨q, rfl, q0, q1, hb⟩
        have Bet4 := hide (belowC Bet3.out (kept_below hb))
        clear hb Bet3
        have wfq := wfSc (n := q) (by omega) (by omega)
        generalize hA4 : Pl.cntV q = A4
        generalize hA5 : Pl.flags q = A5
        have HA4 := hide hA4
        have HA5 := hide hA5
        clear hA4 hA5
        go_wp2_with fail
        refine (implCountTrue _ q wfq).mono ?_
        rw [HA4.out, HA5.out]
        rintro e t5 ⟨rfl, k9⟩
        have Bet5 := hide (belowC Bet4.out k9)
        clear k9 Bet4
        go_wp2_with fail
        refine (specCountTrue q _).mono ?_
        rw [HA4.out, HA5.out]
        rintro e9 w9 ⟨rfl, hw⟩
        have hw2 := hw.symm
        clear hw
        subst hw2
        go_wp2_with fail
        go_ret
        exact ⟨rB (by simp), Bet5.out⟩
end Go.Proofs.Ytceipklpbnmggaa
