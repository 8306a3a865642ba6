/- The law on comparisons: of whatever bytes, its Go function returns true, and no block that was there has turned. -/
import Derived.Test.YtceipklpbnmggaaSpecCond
import Derived.Test.YtceipklpbnmggaaImplCond
import Derived.Test.YtceipklpbnmggaaDrawCond
import Derived.BigQuiet
import Derived.Deep.QuietTactic
namespace Go.Proofs.Ytceipklpbnmggaa
open Go.RowKit
set_option linter.unusedVariables false
theorem wfSd {n : Int} (h0 : -1 ≤ n) (h1 : n ≤ 65536) : (Lit.int .i64 n).wf = true := by
  have e1 : IntKind.i64.min = -9223372036854775808 := rfl
  have e2 : IntKind.i64.max = 9223372036854775807 := rfl
  simp [Lit.wf]
  omega
theorem belowD {w w1 w2 : World} (h : Below w.heap.size w w1) (k : Kept 0 0 w1 w2) : Below w.heap.size w w2 := below_kept h k (by omega)
theorem cond_at (f : Int) (i : Nat) (h : i < 16) : (Pl.condL f 16)[i]?.getD false = Pl.tst (i : Int) f := by simp [Pl.condL, h]
/-- what the conditions tell behind a comparison -/
theorem cmp_tells {s u v : Int} (h : Pl.two s 0 u v = true) : Pl.tst 0 (Pl.cmpF s 0 u v) = true ∧ Pl.tst 2 (Pl.cmpF s 0 u v) = decide (v < u) ∧ Pl.tst 4 (Pl.cmpF s 0 u v) = decide (v ≤ u) ∧ Pl.tst 6 (Pl.cmpF s 0 u v) = (u != v) ∧ Pl.tst 12 (Pl.cmpF s 0 u v) = decide (Pl.sgnV s v ≤ Pl.sgnV s u) ∧ Pl.tst 14 (Pl.cmpF s 0 u v) = decide (Pl.sgnV s v < Pl.sgnV s u) ∧ Pl.tst 13 (Pl.cmpF s 0 u v) = decide (Pl.sgnV s u < Pl.sgnV s v) ∧ Pl.tst 15 (Pl.cmpF s 0 u v) = decide (Pl.sgnV s u ≤ Pl.sgnV s v) := by
  obtain ⟨c, x, q, n, e, hc, hq, hn⟩ := Pl.cmp_four h
  obtain ⟨t0, t2, t4, t6, t12, t14, t13, t15⟩ := Pl.four_tst c x q n
  have hs : Pl.sgnV s u = Pl.sgnV s v ↔ u = v := by
    obtain ⟨ha, hb, _⟩ := Pl.two_ok h
    rw [Pl.sgnV_ok ha, Pl.sgnV_ok hb]
    have h1 := Pl.top_ok ha
    have h2 := Pl.top_ok hb
    unfold Pl.sg
    split <;> split <;> omega
  rw [e]
  refine ⟨t0, ?_, ?_, ?_, ?_, ?_, ?_, ?_⟩
  · rw [t2, hc, hq, Bool.eq_iff_iff]; simp; omega
  · rw [t4, hc, Bool.eq_iff_iff]; simp
  · rw [t6, hq]; rfl
  · rw [t12, hn]
  · rw [t14, hn, hq, Bool.eq_iff_iff]; simp; omega
  · rw [t13, hn, Bool.eq_iff_iff]; simp
  · rw [t15, hn, hq, Bool.eq_iff_iff]; simp; omega
set_option maxRecDepth 100000 in
set_option maxHeartbeats 16000000 in
theorem lawCompared (a0 : Option Addr) (len0 cap0 : Nat) (w : World) (h0 : Bytes w a0 len0) :
    Calls Try.prog 4 #[.slice a0 len0 cap0] w fun e w' => e = .returned (.bool true) ∧ Below w.heap.size w w' := by
  have l0 := h0.1
  unfold maxLen at l0
  by_cases hbig : (1048576 : Int) < (len0 : Int)
  · go_enter Try.func4, Try.ntmps4
    go_wp2_with fail
    go_ret
    exact ⟨rfl, Below.refl _ _⟩
  · go_enter Try.func4, Try.ntmps4
    go_wp2_with fail
    refine (drawCondFor _ a0 len0 cap0 h0).mono ?_
    rintro e w1 ⟨s, u, v, rfl, s0, s1, u0, u1, v0, v1, hb⟩
    have Be1 := hide hb
    clear hbig hb
    have wfs := wfSd (n := s) (by omega) (by omega)
    have wfu := wfSd (n := u) (by omega) (by omega)
    have wfv := wfSd (n := v) (by omega) (by omega)
    have HLE : Hid ((Pl.cf s u v).length ≤ 16) := hide (by unfold Pl.cf; split <;> simp [Pl.condL])
    obtain ⟨L, hL⟩ : ∃ L, Pl.cf s u v = L := ⟨_, rfl⟩
    rw [hL] at HLE
    have HL := hide hL
    clear hL
    have bl : L.length ≤ 2000000 := by have := HLE.out; omega
    cases hO : Pl.two s 0 u v
    · have E : Hid (L = []) := hide (by rw [← HL.out]; simp [Pl.cf, hO])
      go_wp2_with fail
      refine (implCondFor _ s u v wfs wfu wfv).mono ?_
      rw [HL.out, hO]
      rintro e w2 ⟨d1, c1, rfl, s9, k9⟩
      have S1 := hide s9
      have Be2 := hide (belowD Be1.out k9)
      clear s9 k9 Be1
      go_wp2_with fail
      refine (specCondFor s u v _).mono ?_
      rw [HL.out, hO]
      rintro e w3 ⟨d2, c2, rfl, s9, k9⟩
      have S2 := hide s9
      have S1b := hide (S1.out.kept k9 (by omega))
      have Be3 := hide (belowD Be2.out k9)
      clear s9 k9 Be2 S1
      go_wp2_with fail
      refine (sameBools _ d1 d2 c1 c2 L L S1b.out.row S2.out.row bl bl).mono ?_
      rintro e w4 ⟨rfl, gr⟩
      have Be4 := hide (belowD Be3.out (kept_grown gr))
      rw [show decide (L = L) = true from by simp]
      clear gr Be3 S1b S2
      go_wp2_with fail
      go_ret
      exact ⟨rB (by rw [E.out]; rfl), Be4.out⟩
    · obtain ⟨T0, T2, T4, T6, T12, T14, T13, T15⟩ := cmp_tells hO
      have hE : L = Pl.condL (Pl.cmpF s 0 u v) 16 := by rw [← HL.out]; simp [Pl.cf, hO]
      have HEL : Hid (L.length = 16) := hide (by rw [hE]; simp [Pl.condL])
      have V0 : Hid (L[0]?.getD false = true) := hide (by rw [hE, cond_at _ 0 (by decide)]; exact T0)
      have V2 : Hid (L[2]?.getD false = decide (v < u)) := hide (by rw [hE, cond_at _ 2 (by decide)]; exact T2)
      have V4 : Hid (L[4]?.getD false = decide (v ≤ u)) := hide (by rw [hE, cond_at _ 4 (by decide)]; exact T4)
      have V6 : Hid (L[6]?.getD false = (u != v)) := hide (by rw [hE, cond_at _ 6 (by decide)]; exact T6)
      have V12 : Hid (L[12]?.getD false = decide (Pl.sgnV s v ≤ Pl.sgnV s u)) := hide (by rw [hE, cond_at _ 12 (by decide)]; exact T12)
      have V14 : Hid (L[14]?.getD false = decide (Pl.sgnV s v < Pl.sgnV s u)) := hide (by rw [hE, cond_at _ 14 (by decide)]; exact T14)
      have V13 : Hid (L[13]?.getD false = decide (Pl.sgnV s u < Pl.sgnV s v)) := hide (by rw [hE, cond_at _ 13 (by decide)]; exact T13)
      have V15 : Hid (L[15]?.getD false = decide (Pl.sgnV s u ≤ Pl.sgnV s v)) := hide (by rw [hE, cond_at _ 15 (by decide)]; exact T15)
      obtain ⟨okU, okV, _⟩ := Pl.two_ok hO
      clear T0 T2 T4 T6 T12 T14 T13 T15 hE
      go_wp2_with fail
      refine (implCondFor _ s u v wfs wfu wfv).mono ?_
      rw [HL.out, hO]
      rintro e w2 ⟨d1, c1, rfl, s9, k9⟩
      have S1 := hide s9
      have Be2 := hide (belowD Be1.out k9)
      clear s9 k9 Be1
      go_wp2_with fail
      refine (specCondFor s u v _).mono ?_
      rw [HL.out, hO]
      rintro e w3 ⟨d2, c2, rfl, s9, k9⟩
      have S2 := hide s9
      have S1b := hide (S1.out.kept k9 (by omega))
      have Be3 := hide (belowD Be2.out k9)
      clear s9 k9 Be2 S1
      go_wp2_with fail
      refine (sameBools _ d1 d2 c1 c2 L L S1b.out.row S2.out.row bl bl).mono ?_
      rintro e w4 ⟨rfl, gr⟩
      have Be4 := hide (belowD Be3.out (kept_grown gr))
      have S1c := hide (S1b.out.kept (kept_grown gr) (by omega))
      rw [show decide (L = L) = true from by simp]
      clear gr Be3 S1b S2
      go_wp2_with fail
      refine (signedOf s u _ (by omega) (by omega)).mono ?_
      rw [okU]
      rintro e9 w9 ⟨rfl, hw⟩
      have hw2 := hw.symm
      clear hw
      subst hw2
      obtain ⟨I, hI⟩ : ∃ I, Pl.sgnV s u = I := ⟨_, rfl⟩
      obtain ⟨J, hJ⟩ : ∃ J, Pl.sgnV s v = J := ⟨_, rfl⟩
      rw [hI]
      go_wp2_with fail
      refine (signedOf s v _ (by omega) (by omega)).mono ?_
      rw [okV, hJ]
      rintro e9 w9 ⟨rfl, hw⟩
      have hw2 := hw.symm
      clear hw
      subst hw2
      rw [hI, hJ] at V12 V14 V13 V15
      clear hI hJ okU okV
      obtain ⟨_, e2⟩ | ⟨g, rfl, g0, g1, hO4⟩ := S1c.out
      · have := HEL.out
        rw [e2] at this
        cases this
      · have l16 := HEL.out
        have c0 := (hO4 0 (by omega)).1
        have c2 := (hO4 2 (by omega)).1
        have c4 := (hO4 4 (by omega)).1
        have c6 := (hO4 6 (by omega)).1
        have c12 := (hO4 12 (by omega)).1
        have c14 := (hO4 14 (by omega)).1
        have c13 := (hO4 13 (by omega)).1
        have c15 := (hO4 15 (by omega)).1
        rw [V0.out] at c0
        rw [V2.out] at c2
        rw [V4.out] at c4
        rw [V6.out] at c6
        rw [V12.out] at c12
        rw [V14.out] at c14
        rw [V13.out] at c13
        rw [V15.out] at c15
        generalize hB2 : decide (v < u) = B2 at c2
        generalize hB4 : decide (v ≤ u) = B4 at c4
        generalize hB6 : (u != v) = B6 at c6
        generalize hB12 : decide (J ≤ I) = B12 at c12
        generalize hB14 : decide (J < I) = B14 at c14
        generalize hB13 : decide (I < J) = B13 at c13
        generalize hB15 : decide (I ≤ J) = B15 at c15
        rw [l16]
        clear S1c hO4 l16 V0 V2 V4 V6 V12 V14 V13 V15 HL HLE bl
        go_wp2_with fail
        go_ret
        exact ⟨rfl, Be4.out⟩
end Go.Proofs.Ytceipklpbnmggaa
