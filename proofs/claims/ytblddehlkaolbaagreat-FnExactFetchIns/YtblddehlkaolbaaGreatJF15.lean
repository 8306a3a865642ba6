/- Whether an instruction comes back from its words, and the tests of what leads elsewhere, as the program makes them. What the program asks of an instruction by its operation. -/
import Derived.Test.YtblddehlkaolbaaGreatJF14
import Derived.BigQuiet
import Derived.Deep.QuietTactic
namespace Go.Proofs.YtblddehlkaolbaaGreat
open Go.RowKit
set_option linter.unusedVariables false
theorem eqIn (a b : Pl.In) (w : World) : (binOp .eql 34 (.agg #[.int .i64 a.op, .int .i64 a.z, .int .i64 a.r, .int .i64 a.m, .int .i64 a.k, .int .i64 a.e, .int .i64 a.s]) (.agg #[.int .i64 b.op, .int .i64 b.z, .int .i64 b.r, .int .i64 b.m, .int .i64 b.k, .int .i64 b.e, .int .i64 b.s])).run Tryz.prog w = .ok (.bool (Pl.sameIn a b)) w := by
  obtain ⟨a1, a2, a3, a4, a5, a6, a7⟩ := a
  obtain ⟨b1, b2, b3, b4, b5, b6, b7⟩ := b
  unfold Pl.sameIn
  go_simp
  by_cases h1 : a1 = b1
  · by_cases h2 : a2 = b2
    · by_cases h3 : a3 = b3
      · by_cases h4 : a4 = b4
        · by_cases h5 : a5 = b5
          · by_cases h6 : a6 = b6
            · by_cases h7 : a7 = b7
              · simp [h1, h2, h3, h4, h5, h6, h7]
              · simp [h1, h2, h3, h4, h5, h6, h7]
            · simp [h1, h2, h3, h4, h5, h6]
          · simp [h1, h2, h3, h4, h5]
        · simp [h1, h2, h3, h4]
      · simp [h1, h2, h3]
    · simp [h1, h2]
  · simp [h1]
theorem eqO (m k e : Int) (w : World) : (binOp .eql 32 (.agg #[.int .i64 m, .int .i64 k, .int .i64 e]) (.agg #[.int .i64 0, .int .i64 0, .int .i64 0])).run Tryz.prog w = .ok (.bool (Pl.zeroO m k e)) w := by
  unfold Pl.zeroO
  go_simp
  by_cases h1 : m = 0 <;> by_cases h2 : k = 0 <;> by_cases h3 : e = 0 <;> simp [h1, h2, h3]
set_option maxRecDepth 20000 in
set_option maxHeartbeats 4000000 in
theorem fitsWords (w : World) (op z r m k e s : Int) : Calls Tryz.prog 85 #[.agg #[.int .i64 op, .int .i64 z, .int .i64 r, .int .i64 m, .int .i64 k, .int .i64 e, .int .i64 s]] w fun r' w' => r' = .returned (.bool (Pl.fits ⟨op, z, r, m, k, e, s⟩)) ∧ Kept 0 0 w w' := by
  have K0 := hide (kept_alloc w (.cells #[.int .i64 op, .int .i64 z, .int .i64 r, .int .i64 m, .int .i64 k, .int .i64 e, .int .i64 s] 34))
  have B0 := hide (Blk.new w #[.int .i64 op, .int .i64 z, .int .i64 r, .int .i64 m, .int .i64 k, .int .i64 e, .int .i64 s] 34)
  obtain ⟨N, hN⟩ : ∃ N, Pl.word1 ⟨op, z, r, m, k, e, s⟩ % 65536 = N := ⟨_, rfl⟩
  have n0 : Hid (0 ≤ N) := hide (by omega)
  have n1 : Hid (N ≤ 65535) := hide (by omega)
  obtain ⟨D, hD⟩ : ∃ D, Pl.decode N e = D := ⟨_, rfl⟩
  obtain ⟨F, hF⟩ : ∃ F, Pl.sameIn D ⟨op, z, r, m, k, e, s⟩ = F := ⟨_, rfl⟩
  have EF : Hid (Pl.fits ⟨op, z, r, m, k, e, s⟩ = F) := hide (by unfold Pl.fits; rw [hN, hD, hF])
  have HN := hide hN
  have HD := hide hD
  obtain ⟨RD, hR⟩ : ∃ RD : Array Value, RD = #[.int .i64 D.op, .int .i64 D.z, .int .i64 D.r, .int .i64 D.m, .int .i64 D.k, .int .i64 D.e, .int .i64 D.s] := ⟨_, rfl⟩
  have HE : Hid (∀ w : World, (binOp .eql 34 (.agg RD) (.agg #[.int .i64 op, .int .i64 z, .int .i64 r, .int .i64 m, .int .i64 k, .int .i64 e, .int .i64 s])).run Tryz.prog w = .ok (.bool F) w) := hide (fun w => by rw [← hF, hR]; exact eqIn D ⟨op, z, r, m, k, e, s⟩ w)
  have HR := hide hR
  clear hN hD hF hR
  rw [EF.out]
  go_enter Tryz.func85, Tryz.ntmps85
  go_wp2_with fail
  refine wp_region_inv2 (fun A0 l A W => FR [3, 4, 5, 6, 7, 8, 9, 10, 2] A0 A ∧ Once l 0 (A.tmps[3]? = some (.agg #[.int .i64 op, .int .i64 z, .int .i64 r, .int .i64 m, .int .i64 k, .int .i64 e, .int .i64 s])) ∧ Once l 1 (A.tmps[4]? = some (.int .i64 N)) ∧ Once l 2 (A.tmps[5]? = some (.pointer (some ⟨w.heap.size, 3, none⟩))) ∧ Once l 3 (A.tmps[6]? = some (.pointer (some ⟨w.heap.size, 5, none⟩))) ∧ Once l 4 (A.tmps[7]? = some (.int .i64 e)) ∧ Once l 5 (A.tmps[8]? = some (.agg RD)) ∧ Once l 6 (A.tmps[9]? = some (.agg #[.int .i64 op, .int .i64 z, .int .i64 r, .int .i64 m, .int .i64 k, .int .i64 e, .int .i64 s])) ∧ Once l 7 (A.tmps[10]? = some (.bool F)) ∧ Once l 8 (A.tmps[2]? = some (.bool F)) ∧ Kept 0 0 (w.alloc (.cells #[.int .i64 op, .int .i64 z, .int .i64 r, .int .i64 m, .int .i64 k, .int .i64 e, .int .i64 s] 34)) W) (by kernel_rfl) (by kernel_rfl) ?start ?fin ?step
  case start => exact ⟨FR.refl _ _, once_start (by decide), once_start (by decide), once_start (by decide), once_start (by decide), once_start (by decide), once_start (by decide), once_start (by decide), once_start (by decide), once_start (by decide), kept_drew (Kept.refl _ _ _)⟩
  case fin =>
    intro l A W h hl
    obtain ⟨hFR, o0, o1, o2, o3, o4, o5, o6, o7, o8, hK⟩ := h
    have g8 := o8 (hl 8 (by decide))
    have QQ := hide hK
    have hc9 := hFR.chain
    simp only [List.foldl] at hc9
    rw [getD_of g8] at hc9
    clear hl hK hFR g8 o0 o1 o2 o3 o4 o5 o6 o7 o8
    generalize A.tmps.getD 3 undef = s3 at hc9
    generalize A.tmps.getD 4 undef = s4 at hc9
    generalize A.tmps.getD 5 undef = s5 at hc9
    generalize A.tmps.getD 6 undef = s6 at hc9
    generalize A.tmps.getD 7 undef = s7 at hc9
    generalize A.tmps.getD 8 undef = s8 at hc9
    generalize A.tmps.getD 9 undef = s9 at hc9
    generalize A.tmps.getD 10 undef = s10 at hc9
    subst hc9
    go_simp
    go_wp2_with fail
    go_ret
    exact ⟨rfl, K0.out.trans QQ.out⟩
  case step =>
    intro l A W i hI hm
    obtain ⟨hFR, o0, o1, o2, o3, o4, o5, o6, o7, o8, hK⟩ := hI
    obtain ⟨hi1, hi2⟩ := ready_new hm
    have hsz : Hid (10 < A.tmps.size) := hide (by rw [hFR.size]; simp)
    have m1 : A.tmps[1]? = some (.pointer (some ⟨w.heap.size, 0, none⟩)) := (hFR.out 1 (by decide)).trans rfl
    rcases i with _ | _ | _ | _ | _ | _ | _ | _ | _ | i
    · have BL := hide (B0.out.kept0 hK)
      obtain ⟨x0, x1, x2, x3, x4, x5, x6⟩ := BL.out.c7
      refine wpOp_step rfl (fun KK hK2 => ?_)
      go_simp
      exact hK2 (A.put (some 3) (.agg #[.int .i64 op, .int .i64 z, .int .i64 r, .int .i64 m, .int .i64 k, .int .i64 e, .int .i64 s])) _ ⟨hFR.put (by decide) _, .now (put_eq (by have hz := hsz.out; omega)), o1.past (by decide) (fun h => (put_ne (by decide)).trans h), o2.past (by decide) (fun h => (put_ne (by decide)).trans h), o3.past (by decide) (fun h => (put_ne (by decide)).trans h), o4.past (by decide) (fun h => (put_ne (by decide)).trans h), o5.past (by decide) (fun h => (put_ne (by decide)).trans h), o6.past (by decide) (fun h => (put_ne (by decide)).trans h), o7.past (by decide) (fun h => (put_ne (by decide)).trans h), o8.past (by decide) (fun h => (put_ne (by decide)).trans h), hK⟩
    · have e0 := o0 (ready_dep hm 0 (by kernel_rfl))
      refine wpOp_step rfl (fun KK hK2 => ?_)
      go_simp
      refine (firstWord W op z r m k e s).mono ?_
      rw [HN.out]
      rintro r9 y ⟨rfl, kd⟩
      go_simp
      exact hK2 (A.put (some 4) (.int .i64 N)) _ ⟨hFR.put (by decide) _, o0.past (by decide) (fun h => (put_ne (by decide)).trans h), .now (put_eq (by have hz := hsz.out; omega)), o2.past (by decide) (fun h => (put_ne (by decide)).trans h), o3.past (by decide) (fun h => (put_ne (by decide)).trans h), o4.past (by decide) (fun h => (put_ne (by decide)).trans h), o5.past (by decide) (fun h => (put_ne (by decide)).trans h), o6.past (by decide) (fun h => (put_ne (by decide)).trans h), o7.past (by decide) (fun h => (put_ne (by decide)).trans h), o8.past (by decide) (fun h => (put_ne (by decide)).trans h), (hK.trans kd)⟩
    · refine wpOp_step rfl (fun KK hK2 => ?_)
      go_simp
      exact hK2 (A.put (some 5) (.pointer (some ⟨w.heap.size, 3, none⟩))) _ ⟨hFR.put (by decide) _, o0.past (by decide) (fun h => (put_ne (by decide)).trans h), o1.past (by decide) (fun h => (put_ne (by decide)).trans h), .now (put_eq (by have hz := hsz.out; omega)), o3.past (by decide) (fun h => (put_ne (by decide)).trans h), o4.past (by decide) (fun h => (put_ne (by decide)).trans h), o5.past (by decide) (fun h => (put_ne (by decide)).trans h), o6.past (by decide) (fun h => (put_ne (by decide)).trans h), o7.past (by decide) (fun h => (put_ne (by decide)).trans h), o8.past (by decide) (fun h => (put_ne (by decide)).trans h), hK⟩
    · have e2 := o2 (ready_dep hm 2 (by kernel_rfl))
      refine wpOp_step rfl (fun KK hK2 => ?_)
      go_simp
      exact hK2 (A.put (some 6) (.pointer (some ⟨w.heap.size, 5, none⟩))) _ ⟨hFR.put (by decide) _, o0.past (by decide) (fun h => (put_ne (by decide)).trans h), o1.past (by decide) (fun h => (put_ne (by decide)).trans h), o2.past (by decide) (fun h => (put_ne (by decide)).trans h), .now (put_eq (by have hz := hsz.out; omega)), o4.past (by decide) (fun h => (put_ne (by decide)).trans h), o5.past (by decide) (fun h => (put_ne (by decide)).trans h), o6.past (by decide) (fun h => (put_ne (by decide)).trans h), o7.past (by decide) (fun h => (put_ne (by decide)).trans h), o8.past (by decide) (fun h => (put_ne (by decide)).trans h), hK⟩
    · have e3 := o3 (ready_dep hm 3 (by kernel_rfl))
      have BL := hide (B0.out.kept0 hK)
      obtain ⟨x0, x1, x2, x3, x4, x5, x6⟩ := BL.out.c7
      refine wpOp_step rfl (fun KK hK2 => ?_)
      go_simp
      exact hK2 (A.put (some 7) (.int .i64 e)) _ ⟨hFR.put (by decide) _, o0.past (by decide) (fun h => (put_ne (by decide)).trans h), o1.past (by decide) (fun h => (put_ne (by decide)).trans h), o2.past (by decide) (fun h => (put_ne (by decide)).trans h), o3.past (by decide) (fun h => (put_ne (by decide)).trans h), .now (put_eq (by have hz := hsz.out; omega)), o5.past (by decide) (fun h => (put_ne (by decide)).trans h), o6.past (by decide) (fun h => (put_ne (by decide)).trans h), o7.past (by decide) (fun h => (put_ne (by decide)).trans h), o8.past (by decide) (fun h => (put_ne (by decide)).trans h), hK⟩
    · have e1 := o1 (ready_dep hm 1 (by kernel_rfl))
      have e4 := o4 (ready_dep hm 4 (by kernel_rfl))
      refine wpOp_step rfl (fun KK hK2 => ?_)
      go_simp
      refine (insOf W N e n0.out n1.out).mono ?_
      rw [HD.out, ← HR.out]
      rintro r9 y ⟨rfl, kd⟩
      go_simp
      exact hK2 (A.put (some 8) (.agg RD)) _ ⟨hFR.put (by decide) _, o0.past (by decide) (fun h => (put_ne (by decide)).trans h), o1.past (by decide) (fun h => (put_ne (by decide)).trans h), o2.past (by decide) (fun h => (put_ne (by decide)).trans h), o3.past (by decide) (fun h => (put_ne (by decide)).trans h), o4.past (by decide) (fun h => (put_ne (by decide)).trans h), .now (put_eq (by have hz := hsz.out; omega)), o6.past (by decide) (fun h => (put_ne (by decide)).trans h), o7.past (by decide) (fun h => (put_ne (by decide)).trans h), o8.past (by decide) (fun h => (put_ne (by decide)).trans h), (hK.trans kd)⟩
    · have BL := hide (B0.out.kept0 hK)
      obtain ⟨x0, x1, x2, x3, x4, x5, x6⟩ := BL.out.c7
      refine wpOp_step rfl (fun KK hK2 => ?_)
      go_simp
      exact hK2 (A.put (some 9) (.agg #[.int .i64 op, .int .i64 z, .int .i64 r, .int .i64 m, .int .i64 k, .int .i64 e, .int .i64 s])) _ ⟨hFR.put (by decide) _, o0.past (by decide) (fun h => (put_ne (by decide)).trans h), o1.past (by decide) (fun h => (put_ne (by decide)).trans h), o2.past (by decide) (fun h => (put_ne (by decide)).trans h), o3.past (by decide) (fun h => (put_ne (by decide)).trans h), o4.past (by decide) (fun h => (put_ne (by decide)).trans h), o5.past (by decide) (fun h => (put_ne (by decide)).trans h), .now (put_eq (by have hz := hsz.out; omega)), o7.past (by decide) (fun h => (put_ne (by decide)).trans h), o8.past (by decide) (fun h => (put_ne (by decide)).trans h), hK⟩
    · have e5 := o5 (ready_dep hm 5 (by kernel_rfl))
      have e6 := o6 (ready_dep hm 6 (by kernel_rfl))
      have hc := HE.out
      refine wpOp_step rfl (fun KK hK2 => ?_)
      go_simp
      exact hK2 (A.put (some 10) (.bool F)) _ ⟨hFR.put (by decide) _, o0.past (by decide) (fun h => (put_ne (by decide)).trans h), o1.past (by decide) (fun h => (put_ne (by decide)).trans h), o2.past (by decide) (fun h => (put_ne (by decide)).trans h), o3.past (by decide) (fun h => (put_ne (by decide)).trans h), o4.past (by decide) (fun h => (put_ne (by decide)).trans h), o5.past (by decide) (fun h => (put_ne (by decide)).trans h), o6.past (by decide) (fun h => (put_ne (by decide)).trans h), .now (put_eq (by have hz := hsz.out; omega)), o8.past (by decide) (fun h => (put_ne (by decide)).trans h), hK⟩
    · have e7 := o7 (ready_dep hm 7 (by kernel_rfl))
      refine wpOp_step rfl (fun KK hK2 => ?_)
      go_simp
      exact hK2 (A.put (some 2) (.bool F)) _ ⟨hFR.put (by decide) _, o0.past (by decide) (fun h => (put_ne (by decide)).trans h), o1.past (by decide) (fun h => (put_ne (by decide)).trans h), o2.past (by decide) (fun h => (put_ne (by decide)).trans h), o3.past (by decide) (fun h => (put_ne (by decide)).trans h), o4.past (by decide) (fun h => (put_ne (by decide)).trans h), o5.past (by decide) (fun h => (put_ne (by decide)).trans h), o6.past (by decide) (fun h => (put_ne (by decide)).trans h), o7.past (by decide) (fun h => (put_ne (by decide)).trans h), .now (put_eq (by have hz := hsz.out; omega)), hK⟩
    · simp at hi1
      omega
theorem fitsStatus (w : World) (op z r m k e s : Int) : Calls Tryz.prog 106 #[.agg #[.int .i64 op, .int .i64 z, .int .i64 r, .int .i64 m, .int .i64 k, .int .i64 e, .int .i64 s]] w fun r' w' => r' = .returned (.bool (((s == 0) && ((r == 0) && Pl.nowO m e)) || ((s == 1) && Pl.zeroO m k e))) ∧ Kept 0 0 w w' := by
  have K0 := hide (kept_alloc w (.cells #[.int .i64 op, .int .i64 z, .int .i64 r, .int .i64 m, .int .i64 k, .int .i64 e, .int .i64 s] 34))
  have hq := eqO m k e
  by_cases h0 : s = 0
  · subst h0
    go_enter Tryz.func106, Tryz.ntmps106
    go_wp2_with (go_at_call 109; refine (namesStatus _ op z r m k e 0).mono ?_; rintro e9 w2 ⟨rfl, k2⟩)
    go_ret
    exact ⟨rB (by simp), K0.out.trans k2⟩
  · by_cases h1 : s = 1
    · subst h1
      go_enter Tryz.func106, Tryz.ntmps106
      go_wp2_with fail
      go_ret
      exact ⟨rB (by simp), K0.out⟩
    · go_enter Tryz.func106, Tryz.ntmps106
      go_wp2_with fail
      go_ret
      exact ⟨rB (by simp [h0, h1]), K0.out⟩
theorem fitsFlow (w : World) (op z r m k e s : Int) (h0 : 0 ≤ s) : Calls Tryz.prog 105 #[.agg #[.int .i64 op, .int .i64 z, .int .i64 r, .int .i64 m, .int .i64 k, .int .i64 e, .int .i64 s]] w fun r' w' => r' = .returned (.bool (bif s == 3 then (r == 0) && Pl.nowO m e else (decide (s ≤ 6) && Pl.zeroO m k e) && (decide (3 < s) || (r == 0)))) ∧ Kept 0 0 w w' := by
  have K0 := hide (kept_alloc w (.cells #[.int .i64 op, .int .i64 z, .int .i64 r, .int .i64 m, .int .i64 k, .int .i64 e, .int .i64 s] 34))
  have hq := eqO m k e
  by_cases h7 : 7 ≤ s
  · go_enter Tryz.func105, Tryz.ntmps105
    go_wp2_with fail
    go_ret
    exact ⟨rB (by have a1 : (s == 3) = false := by simp; omega
                  have a2 : decide (s ≤ 6) = false := by simp; omega
                  rw [a1, a2]; rfl), K0.out⟩
  · have hs : s = 0 ∨ s = 1 ∨ s = 2 ∨ s = 3 ∨ s = 4 ∨ s = 5 ∨ s = 6 := by omega
    rcases hs with rfl | rfl | rfl | rfl | rfl | rfl | rfl
    · cases hr : (r == 0) <;> (
        go_enter Tryz.func105, Tryz.ntmps105
        go_wp2_with fail
        go_ret
        exact ⟨rB (by simp), K0.out⟩)
    · cases hr : (r == 0) <;> (
        go_enter Tryz.func105, Tryz.ntmps105
        go_wp2_with fail
        go_ret
        exact ⟨rB (by simp), K0.out⟩)
    · cases hr : (r == 0) <;> (
        go_enter Tryz.func105, Tryz.ntmps105
        go_wp2_with fail
        go_ret
        exact ⟨rB (by simp), K0.out⟩)
    · go_enter Tryz.func105, Tryz.ntmps105
      go_wp2_with (go_at_call 109; refine (namesStatus _ op z r m k e 3).mono ?_; rintro e9 w2 ⟨rfl, k2⟩)
      go_ret
      exact ⟨rB (by simp), K0.out.trans k2⟩
    · go_enter Tryz.func105, Tryz.ntmps105
      go_wp2_with fail
      go_ret
      exact ⟨rB (by simp), K0.out⟩
    · go_enter Tryz.func105, Tryz.ntmps105
      go_wp2_with fail
      go_ret
      exact ⟨rB (by simp), K0.out⟩
    · go_enter Tryz.func105, Tryz.ntmps105
      go_wp2_with fail
      go_ret
      exact ⟨rB (by simp), K0.out⟩
end Go.Proofs.YtblddehlkaolbaaGreat

namespace Go.Proofs.YtblddehlkaolbaaGreat
open Go.RowKit
set_option linter.unusedVariables false
theorem fitsOp1 (w : World) (z r m k e s : Int) (h0 : 0 ≤ s) : Calls Tryz.prog 88 #[.agg #[.int .i64 1, .int .i64 z, .int .i64 r, .int .i64 m, .int .i64 k, .int .i64 e, .int .i64 s]] w fun r' w' => r' = .returned (.bool (Pl.inKind ⟨1, z, r, m, k, e, s⟩)) ∧ Kept 0 0 w w' := by
  have K0 := hide (kept_alloc w (.cells #[.int .i64 1, .int .i64 z, .int .i64 r, .int .i64 m, .int .i64 k, .int .i64 e, .int .i64 s] 34))
  rw [show Pl.inKind ⟨1, z, r, m, k, e, s⟩ = ((s == 0) && ((z == 2) || !(m == 1))) from rfl]
  cases a0 : (s == 0)
  · go_enter Tryz.func88, Tryz.ntmps88
    go_wp2_with fail
    go_quiet (fail)
    go_wp2_with fail
    go_ret
    exact ⟨rB (by simp), kept_drewN K0.out _⟩
  · cases a1 : (z == 2)
    · go_enter Tryz.func88, Tryz.ntmps88
      go_wp2_with fail
      go_quiet (fail)
      go_wp2_with fail
      go_ret
      exact ⟨rB (by simp [bne]), kept_drewN K0.out _⟩
    · go_enter Tryz.func88, Tryz.ntmps88
      go_wp2_with fail
      go_quiet (fail)
      go_wp2_with fail
      go_ret
      exact ⟨rB (by simp), kept_drewN K0.out _⟩
theorem fitsOp2 (w : World) (z r m k e s : Int) (h0 : 0 ≤ s) : Calls Tryz.prog 88 #[.agg #[.int .i64 2, .int .i64 z, .int .i64 r, .int .i64 m, .int .i64 k, .int .i64 e, .int .i64 s]] w fun r' w' => r' = .returned (.bool (Pl.inKind ⟨2, z, r, m, k, e, s⟩)) ∧ Kept 0 0 w w' := by
  have K0 := hide (kept_alloc w (.cells #[.int .i64 2, .int .i64 z, .int .i64 r, .int .i64 m, .int .i64 k, .int .i64 e, .int .i64 s] 34))
  rw [show Pl.inKind ⟨2, z, r, m, k, e, s⟩ = ((s == 0) && ((m == 0) || Pl.memM m)) from rfl]
  cases a0 : (s == 0)
  · go_enter Tryz.func88, Tryz.ntmps88
    go_wp2_with fail
    go_quiet (fail)
    go_wp2_with fail
    go_ret
    exact ⟨rB (by simp), kept_drewN K0.out _⟩
  · go_enter Tryz.func88, Tryz.ntmps88
    go_wp2_with fail
    go_quiet (fail)
    go_wp2_with (go_at_call 103; refine (canTake _ _).mono ?_; rintro e9 w9 ⟨rfl, hw⟩; have hw2 := hw.symm; clear hw; subst hw2)
    go_ret
    exact ⟨rB (by simp), kept_drewN K0.out _⟩
theorem fitsOp3 (w : World) (z r m k e s : Int) (h0 : 0 ≤ s) : Calls Tryz.prog 88 #[.agg #[.int .i64 3, .int .i64 z, .int .i64 r, .int .i64 m, .int .i64 k, .int .i64 e, .int .i64 s]] w fun r' w' => r' = .returned (.bool (Pl.inKind ⟨3, z, r, m, k, e, s⟩)) ∧ Kept 0 0 w w' := by
  have K0 := hide (kept_alloc w (.cells #[.int .i64 3, .int .i64 z, .int .i64 r, .int .i64 m, .int .i64 k, .int .i64 e, .int .i64 s] 34))
  rw [show Pl.inKind ⟨3, z, r, m, k, e, s⟩ = ((s == 0) && ((z == 2) || !(m == 1))) from rfl]
  cases a0 : (s == 0)
  · go_enter Tryz.func88, Tryz.ntmps88
    go_wp2_with fail
    go_quiet (fail)
    go_wp2_with fail
    go_ret
    exact ⟨rB (by simp), kept_drewN K0.out _⟩
  · cases a1 : (z == 2)
    · go_enter Tryz.func88, Tryz.ntmps88
      go_wp2_with fail
      go_quiet (fail)
      go_wp2_with fail
      go_ret
      exact ⟨rB (by simp [bne]), kept_drewN K0.out _⟩
    · go_enter Tryz.func88, Tryz.ntmps88
      go_wp2_with fail
      go_quiet (fail)
      go_wp2_with fail
      go_ret
      exact ⟨rB (by simp), kept_drewN K0.out _⟩
theorem fitsOp4 (w : World) (z r m k e s : Int) (h0 : 0 ≤ s) : Calls Tryz.prog 88 #[.agg #[.int .i64 4, .int .i64 z, .int .i64 r, .int .i64 m, .int .i64 k, .int .i64 e, .int .i64 s]] w fun r' w' => r' = .returned (.bool (Pl.inKind ⟨4, z, r, m, k, e, s⟩)) ∧ Kept 0 0 w w' := by
  have K0 := hide (kept_alloc w (.cells #[.int .i64 4, .int .i64 z, .int .i64 r, .int .i64 m, .int .i64 k, .int .i64 e, .int .i64 s] 34))
  rw [show Pl.inKind ⟨4, z, r, m, k, e, s⟩ = ((s == 0) && ((z == 2) || !(m == 1))) from rfl]
  cases a0 : (s == 0)
  · go_enter Tryz.func88, Tryz.ntmps88
    go_wp2_with fail
    go_quiet (fail)
    go_wp2_with fail
    go_ret
    exact ⟨rB (by simp), kept_drewN K0.out _⟩
  · cases a1 : (z == 2)
    · go_enter Tryz.func88, Tryz.ntmps88
      go_wp2_with fail
      go_quiet (fail)
      go_wp2_with fail
      go_ret
      exact ⟨rB (by simp [bne]), kept_drewN K0.out _⟩
    · go_enter Tryz.func88, Tryz.ntmps88
      go_wp2_with fail
      go_quiet (fail)
      go_wp2_with fail
      go_ret
      exact ⟨rB (by simp), kept_drewN K0.out _⟩
theorem fitsOp5 (w : World) (z r m k e s : Int) (h0 : 0 ≤ s) : Calls Tryz.prog 88 #[.agg #[.int .i64 5, .int .i64 z, .int .i64 r, .int .i64 m, .int .i64 k, .int .i64 e, .int .i64 s]] w fun r' w' => r' = .returned (.bool (Pl.inKind ⟨5, z, r, m, k, e, s⟩)) ∧ Kept 0 0 w w' := by
  have K0 := hide (kept_alloc w (.cells #[.int .i64 5, .int .i64 z, .int .i64 r, .int .i64 m, .int .i64 k, .int .i64 e, .int .i64 s] 34))
  rw [show Pl.inKind ⟨5, z, r, m, k, e, s⟩ = ((s == 0) && ((z == 2) || !(m == 1))) from rfl]
  cases a0 : (s == 0)
  · go_enter Tryz.func88, Tryz.ntmps88
    go_wp2_with fail
    go_quiet (fail)
    go_wp2_with fail
    go_ret
    exact ⟨rB (by simp), kept_drewN K0.out _⟩
  · cases a1 : (z == 2)
    · go_enter Tryz.func88, Tryz.ntmps88
      go_wp2_with fail
      go_quiet (fail)
      go_wp2_with fail
      go_ret
      exact ⟨rB (by simp [bne]), kept_drewN K0.out _⟩
    · go_enter Tryz.func88, Tryz.ntmps88
      go_wp2_with fail
      go_quiet (fail)
      go_wp2_with fail
      go_ret
      exact ⟨rB (by simp), kept_drewN K0.out _⟩
theorem fitsOp6 (w : World) (z r m k e s : Int) (h0 : 0 ≤ s) : Calls Tryz.prog 88 #[.agg #[.int .i64 6, .int .i64 z, .int .i64 r, .int .i64 m, .int .i64 k, .int .i64 e, .int .i64 s]] w fun r' w' => r' = .returned (.bool (Pl.inKind ⟨6, z, r, m, k, e, s⟩)) ∧ Kept 0 0 w w' := by
  have K0 := hide (kept_alloc w (.cells #[.int .i64 6, .int .i64 z, .int .i64 r, .int .i64 m, .int .i64 k, .int .i64 e, .int .i64 s] 34))
  rw [show Pl.inKind ⟨6, z, r, m, k, e, s⟩ = ((s == 0) && ((z == 2) || !(m == 1))) from rfl]
  cases a0 : (s == 0)
  · go_enter Tryz.func88, Tryz.ntmps88
    go_wp2_with fail
    go_quiet (fail)
    go_wp2_with fail
    go_ret
    exact ⟨rB (by simp), kept_drewN K0.out _⟩
  · cases a1 : (z == 2)
    · go_enter Tryz.func88, Tryz.ntmps88
      go_wp2_with fail
      go_quiet (fail)
      go_wp2_with fail
      go_ret
      exact ⟨rB (by simp [bne]), kept_drewN K0.out _⟩
    · go_enter Tryz.func88, Tryz.ntmps88
      go_wp2_with fail
      go_quiet (fail)
      go_wp2_with fail
      go_ret
      exact ⟨rB (by simp), kept_drewN K0.out _⟩
theorem fitsOp7 (w : World) (z r m k e s : Int) (h0 : 0 ≤ s) : Calls Tryz.prog 88 #[.agg #[.int .i64 7, .int .i64 z, .int .i64 r, .int .i64 m, .int .i64 k, .int .i64 e, .int .i64 s]] w fun r' w' => r' = .returned (.bool (Pl.inKind ⟨7, z, r, m, k, e, s⟩)) ∧ Kept 0 0 w w' := by
  have K0 := hide (kept_alloc w (.cells #[.int .i64 7, .int .i64 z, .int .i64 r, .int .i64 m, .int .i64 k, .int .i64 e, .int .i64 s] 34))
  rw [show Pl.inKind ⟨7, z, r, m, k, e, s⟩ = ((s == 0) && ((z == 2) || !(m == 1))) from rfl]
  cases a0 : (s == 0)
  · go_enter Tryz.func88, Tryz.ntmps88
    go_wp2_with fail
    go_quiet (fail)
    go_wp2_with fail
    go_ret
    exact ⟨rB (by simp), kept_drewN K0.out _⟩
  · cases a1 : (z == 2)
    · go_enter Tryz.func88, Tryz.ntmps88
      go_wp2_with fail
      go_quiet (fail)
      go_wp2_with fail
      go_ret
      exact ⟨rB (by simp [bne]), kept_drewN K0.out _⟩
    · go_enter Tryz.func88, Tryz.ntmps88
      go_wp2_with fail
      go_quiet (fail)
      go_wp2_with fail
      go_ret
      exact ⟨rB (by simp), kept_drewN K0.out _⟩
theorem fitsOp8 (w : World) (z r m k e s : Int) (h0 : 0 ≤ s) : Calls Tryz.prog 88 #[.agg #[.int .i64 8, .int .i64 z, .int .i64 r, .int .i64 m, .int .i64 k, .int .i64 e, .int .i64 s]] w fun r' w' => r' = .returned (.bool (Pl.inKind ⟨8, z, r, m, k, e, s⟩)) ∧ Kept 0 0 w w' := by
  have K0 := hide (kept_alloc w (.cells #[.int .i64 8, .int .i64 z, .int .i64 r, .int .i64 m, .int .i64 k, .int .i64 e, .int .i64 s] 34))
  rw [show Pl.inKind ⟨8, z, r, m, k, e, s⟩ = ((s == 0) && ((z == 2) || !(m == 1))) from rfl]
  cases a0 : (s == 0)
  · go_enter Tryz.func88, Tryz.ntmps88
    go_wp2_with fail
    go_quiet (fail)
    go_wp2_with fail
    go_ret
    exact ⟨rB (by simp), kept_drewN K0.out _⟩
  · cases a1 : (z == 2)
    · go_enter Tryz.func88, Tryz.ntmps88
      go_wp2_with fail
      go_quiet (fail)
      go_wp2_with fail
      go_ret
      exact ⟨rB (by simp [bne]), kept_drewN K0.out _⟩
    · go_enter Tryz.func88, Tryz.ntmps88
      go_wp2_with fail
      go_quiet (fail)
      go_wp2_with fail
      go_ret
      exact ⟨rB (by simp), kept_drewN K0.out _⟩
theorem fitsOp9 (w : World) (z r m k e s : Int) (h0 : 0 ≤ s) : Calls Tryz.prog 88 #[.agg #[.int .i64 9, .int .i64 z, .int .i64 r, .int .i64 m, .int .i64 k, .int .i64 e, .int .i64 s]] w fun r' w' => r' = .returned (.bool (Pl.inKind ⟨9, z, r, m, k, e, s⟩)) ∧ Kept 0 0 w w' := by
  have K0 := hide (kept_alloc w (.cells #[.int .i64 9, .int .i64 z, .int .i64 r, .int .i64 m, .int .i64 k, .int .i64 e, .int .i64 s] 34))
  rw [show Pl.inKind ⟨9, z, r, m, k, e, s⟩ = ((z == 2) && (s == 0)) from rfl]
  cases a0 : (z == 2)
  · go_enter Tryz.func88, Tryz.ntmps88
    go_wp2_with fail
    go_quiet (fail)
    go_wp2_with fail
    go_ret
    exact ⟨rB (by simp), kept_drewN K0.out _⟩
  · go_enter Tryz.func88, Tryz.ntmps88
    go_wp2_with fail
    go_quiet (fail)
    go_wp2_with fail
    go_ret
    exact ⟨rB (by simp), kept_drewN K0.out _⟩
theorem fitsOp10 (w : World) (z r m k e s : Int) (h0 : 0 ≤ s) : Calls Tryz.prog 88 #[.agg #[.int .i64 10, .int .i64 z, .int .i64 r, .int .i64 m, .int .i64 k, .int .i64 e, .int .i64 s]] w fun r' w' => r' = .returned (.bool (Pl.inKind ⟨10, z, r, m, k, e, s⟩)) ∧ Kept 0 0 w w' := by
  have K0 := hide (kept_alloc w (.cells #[.int .i64 10, .int .i64 z, .int .i64 r, .int .i64 m, .int .i64 k, .int .i64 e, .int .i64 s] 34))
  rw [show Pl.inKind ⟨10, z, r, m, k, e, s⟩ = (((z == 2) && (s == 0)) && Pl.plainM m) from rfl]
  cases a0 : (z == 2)
  · go_enter Tryz.func88, Tryz.ntmps88
    go_wp2_with fail
    go_quiet (fail)
    go_wp2_with fail
    go_ret
    exact ⟨rB (by simp), kept_drewN K0.out _⟩
  · cases a1 : (s == 0)
    · go_enter Tryz.func88, Tryz.ntmps88
      go_wp2_with fail
      go_quiet (fail)
      go_wp2_with fail
      go_ret
      exact ⟨rB (by simp), kept_drewN K0.out _⟩
    · go_enter Tryz.func88, Tryz.ntmps88
      go_wp2_with fail
      go_quiet (fail)
      go_wp2_with (go_at_call 104; refine (isPlain _ _).mono ?_; rintro e9 w9 ⟨rfl, hw⟩; have hw2 := hw.symm; clear hw; subst hw2)
      go_ret
      exact ⟨rB (by simp), kept_drewN K0.out _⟩
theorem fitsOp11 (w : World) (z r m k e s : Int) (h0 : 0 ≤ s) : Calls Tryz.prog 88 #[.agg #[.int .i64 11, .int .i64 z, .int .i64 r, .int .i64 m, .int .i64 k, .int .i64 e, .int .i64 s]] w fun r' w' => r' = .returned (.bool (Pl.inKind ⟨11, z, r, m, k, e, s⟩)) ∧ Kept 0 0 w w' := by
  have K0 := hide (kept_alloc w (.cells #[.int .i64 11, .int .i64 z, .int .i64 r, .int .i64 m, .int .i64 k, .int .i64 e, .int .i64 s] 34))
  rw [show Pl.inKind ⟨11, z, r, m, k, e, s⟩ = (((r == 0) && decide (s ≤ 3)) && ((m == 0) || Pl.memM m)) from rfl]
  cases a0 : (r == 0)
  · go_enter Tryz.func88, Tryz.ntmps88
    go_wp2_with fail
    go_quiet (fail)
    go_wp2_with fail
    go_ret
    exact ⟨rB (by simp), kept_drewN K0.out _⟩
  · cases a1 : decide (s ≤ 3)
    · go_enter Tryz.func88, Tryz.ntmps88
      go_wp2_with fail
      go_quiet (fail)
      go_wp2_with fail
      go_ret
      exact ⟨rB (by simp), kept_drewN K0.out _⟩
    · go_enter Tryz.func88, Tryz.ntmps88
      go_wp2_with fail
      go_quiet (fail)
      go_wp2_with (go_at_call 103; refine (canTake _ _).mono ?_; rintro e9 w9 ⟨rfl, hw⟩; have hw2 := hw.symm; clear hw; subst hw2)
      go_ret
      exact ⟨rB (by simp), kept_drewN K0.out _⟩
theorem fitsOp12 (w : World) (z r m k e s : Int) (h0 : 0 ≤ s) : Calls Tryz.prog 88 #[.agg #[.int .i64 12, .int .i64 z, .int .i64 r, .int .i64 m, .int .i64 k, .int .i64 e, .int .i64 s]] w fun r' w' => r' = .returned (.bool (Pl.inKind ⟨12, z, r, m, k, e, s⟩)) ∧ Kept 0 0 w w' := by
  have K0 := hide (kept_alloc w (.cells #[.int .i64 12, .int .i64 z, .int .i64 r, .int .i64 m, .int .i64 k, .int .i64 e, .int .i64 s] 34))
  rw [show Pl.inKind ⟨12, z, r, m, k, e, s⟩ = ((m == 0)) from rfl]
  go_enter Tryz.func88, Tryz.ntmps88
  go_wp2_with fail
  go_quiet (fail)
  go_wp2_with fail
  go_ret
  exact ⟨rB (by simp), kept_drewN K0.out _⟩
theorem fitsOp13 (w : World) (z r m k e s : Int) (h0 : 0 ≤ s) : Calls Tryz.prog 88 #[.agg #[.int .i64 13, .int .i64 z, .int .i64 r, .int .i64 m, .int .i64 k, .int .i64 e, .int .i64 s]] w fun r' w' => r' = .returned (.bool (Pl.inKind ⟨13, z, r, m, k, e, s⟩)) ∧ Kept 0 0 w w' := by
  have K0 := hide (kept_alloc w (.cells #[.int .i64 13, .int .i64 z, .int .i64 r, .int .i64 m, .int .i64 k, .int .i64 e, .int .i64 s] 34))
  rw [show Pl.inKind ⟨13, z, r, m, k, e, s⟩ = (((z == 2) && decide (r ≤ 1)) && (m == 7)) from rfl]
  cases a0 : (z == 2)
  · go_enter Tryz.func88, Tryz.ntmps88
    go_wp2_with fail
    go_quiet (fail)
    go_wp2_with fail
    go_ret
    exact ⟨rB (by simp), kept_drewN K0.out _⟩
  · cases a1 : decide (r ≤ 1)
    · go_enter Tryz.func88, Tryz.ntmps88
      go_wp2_with fail
      go_quiet (fail)
      go_wp2_with fail
      go_ret
      exact ⟨rB (by simp), kept_drewN K0.out _⟩
    · go_enter Tryz.func88, Tryz.ntmps88
      go_wp2_with fail
      go_quiet (fail)
      go_wp2_with fail
      go_ret
      exact ⟨rB (by simp), kept_drewN K0.out _⟩
theorem fitsOp14 (w : World) (z r m k e s : Int) (h0 : 0 ≤ s) : Calls Tryz.prog 88 #[.agg #[.int .i64 14, .int .i64 z, .int .i64 r, .int .i64 m, .int .i64 k, .int .i64 e, .int .i64 s]] w fun r' w' => r' = .returned (.bool (Pl.inKind ⟨14, z, r, m, k, e, s⟩)) ∧ Kept 0 0 w w' := by
  have K0 := hide (kept_alloc w (.cells #[.int .i64 14, .int .i64 z, .int .i64 r, .int .i64 m, .int .i64 k, .int .i64 e, .int .i64 s] 34))
  rw [show Pl.inKind ⟨14, z, r, m, k, e, s⟩ = ((((z == 2) && (r == 0)) && decide (s ≤ 1)) && Pl.plainM m) from rfl]
  cases a0 : (z == 2)
  · go_enter Tryz.func88, Tryz.ntmps88
    go_wp2_with fail
    go_quiet (fail)
    go_wp2_with fail
    go_ret
    exact ⟨rB (by simp), kept_drewN K0.out _⟩
  · cases a1 : (r == 0)
    · go_enter Tryz.func88, Tryz.ntmps88
      go_wp2_with fail
      go_quiet (fail)
      go_wp2_with fail
      go_ret
      exact ⟨rB (by simp), kept_drewN K0.out _⟩
    · cases a2 : decide (s ≤ 1)
      · go_enter Tryz.func88, Tryz.ntmps88
        go_wp2_with fail
        go_quiet (fail)
        go_wp2_with fail
        go_ret
        exact ⟨rB (by simp), kept_drewN K0.out _⟩
      · go_enter Tryz.func88, Tryz.ntmps88
        go_wp2_with fail
        go_quiet (fail)
        go_wp2_with (go_at_call 104; refine (isPlain _ _).mono ?_; rintro e9 w9 ⟨rfl, hw⟩; have hw2 := hw.symm; clear hw; subst hw2)
        go_ret
        exact ⟨rB (by simp), kept_drewN K0.out _⟩
theorem fitsOp15 (w : World) (z r m k e s : Int) (h0 : 0 ≤ s) : Calls Tryz.prog 88 #[.agg #[.int .i64 15, .int .i64 z, .int .i64 r, .int .i64 m, .int .i64 k, .int .i64 e, .int .i64 s]] w fun r' w' => r' = .returned (.bool (Pl.inKind ⟨15, z, r, m, k, e, s⟩)) ∧ Kept 0 0 w w' := by
  have K0 := hide (kept_alloc w (.cells #[.int .i64 15, .int .i64 z, .int .i64 r, .int .i64 m, .int .i64 k, .int .i64 e, .int .i64 s] 34))
  rw [show Pl.inKind ⟨15, z, r, m, k, e, s⟩ = (bif s == 3 then ((z == 2) && (r == 0)) && Pl.nowO m e else (((z == 2) && decide (s ≤ 6)) && Pl.zeroO m k e) && (decide (3 < s) || (r == 0))) from rfl]
  cases a0 : (z == 2)
  · go_enter Tryz.func88, Tryz.ntmps88
    go_wp2_with fail
    go_quiet (fail)
    go_wp2_with fail
    go_ret
    exact ⟨rB (by cases hs : (s == 3) <;> simp), kept_drewN K0.out _⟩
  · go_enter Tryz.func88, Tryz.ntmps88
    go_wp2_with fail
    go_quiet (fail)
    go_wp2_with (go_at_call 105; refine (fitsFlow _ 15 z r m k e s h0).mono ?_; rintro e9 w2 ⟨rfl, k2⟩)
    go_ret
    exact ⟨rB (by cases hs : (s == 3) <;> simp), (kept_drewN K0.out _).trans k2⟩
theorem fitsOp16 (w : World) (z r m k e s : Int) (h0 : 0 ≤ s) : Calls Tryz.prog 88 #[.agg #[.int .i64 16, .int .i64 z, .int .i64 r, .int .i64 m, .int .i64 k, .int .i64 e, .int .i64 s]] w fun r' w' => r' = .returned (.bool (Pl.inKind ⟨16, z, r, m, k, e, s⟩)) ∧ Kept 0 0 w w' := by
  have K0 := hide (kept_alloc w (.cells #[.int .i64 16, .int .i64 z, .int .i64 r, .int .i64 m, .int .i64 k, .int .i64 e, .int .i64 s] 34))
  rw [show Pl.inKind ⟨16, z, r, m, k, e, s⟩ = (((z == 2) && (s == 0)) && !(m == 1)) from rfl]
  cases a0 : (z == 2)
  · go_enter Tryz.func88, Tryz.ntmps88
    go_wp2_with fail
    go_quiet (fail)
    go_wp2_with fail
    go_ret
    exact ⟨rB (by simp), kept_drewN K0.out _⟩
  · cases a1 : (s == 0)
    · go_enter Tryz.func88, Tryz.ntmps88
      go_wp2_with fail
      go_quiet (fail)
      go_wp2_with fail
      go_ret
      exact ⟨rB (by simp), kept_drewN K0.out _⟩
    · go_enter Tryz.func88, Tryz.ntmps88
      go_wp2_with fail
      go_quiet (fail)
      go_wp2_with fail
      go_ret
      exact ⟨rB (by simp [bne]), kept_drewN K0.out _⟩
theorem fitsOp17 (w : World) (z r m k e s : Int) (h0 : 0 ≤ s) : Calls Tryz.prog 88 #[.agg #[.int .i64 17, .int .i64 z, .int .i64 r, .int .i64 m, .int .i64 k, .int .i64 e, .int .i64 s]] w fun r' w' => r' = .returned (.bool (Pl.inKind ⟨17, z, r, m, k, e, s⟩)) ∧ Kept 0 0 w w' := by
  have K0 := hide (kept_alloc w (.cells #[.int .i64 17, .int .i64 z, .int .i64 r, .int .i64 m, .int .i64 k, .int .i64 e, .int .i64 s] 34))
  rw [show Pl.inKind ⟨17, z, r, m, k, e, s⟩ = (((z == 2) && (s == 0)) && !(m == 1)) from rfl]
  cases a0 : (z == 2)
  · go_enter Tryz.func88, Tryz.ntmps88
    go_wp2_with fail
    go_quiet (fail)
    go_wp2_with fail
    go_ret
    exact ⟨rB (by simp), kept_drewN K0.out _⟩
  · cases a1 : (s == 0)
    · go_enter Tryz.func88, Tryz.ntmps88
      go_wp2_with fail
      go_quiet (fail)
      go_wp2_with fail
      go_ret
      exact ⟨rB (by simp), kept_drewN K0.out _⟩
    · go_enter Tryz.func88, Tryz.ntmps88
      go_wp2_with fail
      go_quiet (fail)
      go_wp2_with fail
      go_ret
      exact ⟨rB (by simp [bne]), kept_drewN K0.out _⟩
theorem fitsOp18 (w : World) (z r m k e s : Int) (h0 : 0 ≤ s) : Calls Tryz.prog 88 #[.agg #[.int .i64 18, .int .i64 z, .int .i64 r, .int .i64 m, .int .i64 k, .int .i64 e, .int .i64 s]] w fun r' w' => r' = .returned (.bool (Pl.inKind ⟨18, z, r, m, k, e, s⟩)) ∧ Kept 0 0 w w' := by
  have K0 := hide (kept_alloc w (.cells #[.int .i64 18, .int .i64 z, .int .i64 r, .int .i64 m, .int .i64 k, .int .i64 e, .int .i64 s] 34))
  rw [show Pl.inKind ⟨18, z, r, m, k, e, s⟩ = (((!(z == 2)) && decide (s ≤ 1)) && (m == 0)) from rfl]
  cases a0 : (z == 2)
  · cases a1 : decide (s ≤ 1)
    · go_enter Tryz.func88, Tryz.ntmps88
      go_wp2_with fail
      go_quiet (fail)
      go_wp2_with fail
      go_ret
      exact ⟨rB (by simp), kept_drewN K0.out _⟩
    · go_enter Tryz.func88, Tryz.ntmps88
      go_wp2_with fail
      go_quiet (fail)
      go_wp2_with fail
      go_ret
      exact ⟨rB (by simp), kept_drewN K0.out _⟩
  · go_enter Tryz.func88, Tryz.ntmps88
    go_wp2_with fail
    go_quiet (fail)
    go_wp2_with fail
    go_ret
    exact ⟨rB (by simp), kept_drewN K0.out _⟩
theorem fitsOp19 (w : World) (z r m k e s : Int) (h0 : 0 ≤ s) : Calls Tryz.prog 88 #[.agg #[.int .i64 19, .int .i64 z, .int .i64 r, .int .i64 m, .int .i64 k, .int .i64 e, .int .i64 s]] w fun r' w' => r' = .returned (.bool (Pl.inKind ⟨19, z, r, m, k, e, s⟩)) ∧ Kept 0 0 w w' := by
  have K0 := hide (kept_alloc w (.cells #[.int .i64 19, .int .i64 z, .int .i64 r, .int .i64 m, .int .i64 k, .int .i64 e, .int .i64 s] 34))
  rw [show Pl.inKind ⟨19, z, r, m, k, e, s⟩ = ((z == 2) && ((((s == 0) && (r == 0)) && Pl.nowO m e) || ((s == 1) && Pl.zeroO m k e))) from rfl]
  cases a0 : (z == 2)
  · go_enter Tryz.func88, Tryz.ntmps88
    go_wp2_with fail
    go_quiet (fail)
    go_wp2_with fail
    go_ret
    exact ⟨rB (by simp), kept_drewN K0.out _⟩
  · go_enter Tryz.func88, Tryz.ntmps88
    go_wp2_with fail
    go_quiet (fail)
    go_wp2_with (go_at_call 106; refine (fitsStatus _ 19 z r m k e s).mono ?_; rintro e9 w2 ⟨rfl, k2⟩)
    go_ret
    exact ⟨rB (by simp [Bool.and_assoc]), (kept_drewN K0.out _).trans k2⟩
theorem fitsOpNo (w : World) (op z r m k e s : Int) (h : op < 1 ∨ 19 < op) : Calls Tryz.prog 88 #[.agg #[.int .i64 op, .int .i64 z, .int .i64 r, .int .i64 m, .int .i64 k, .int .i64 e, .int .i64 s]] w fun r' w' => r' = .returned (.bool (Pl.inKind ⟨op, z, r, m, k, e, s⟩)) ∧ Kept 0 0 w w' := by
  have K0 := hide (kept_alloc w (.cells #[.int .i64 op, .int .i64 z, .int .i64 r, .int .i64 m, .int .i64 k, .int .i64 e, .int .i64 s] 34))
  have G : Hid (Pl.inKind ⟨op, z, r, m, k, e, s⟩ = false) := hide (by
    unfold Pl.inKind
    simp only
    have n1 : (op == 1) = false := by simp; omega
    have n2 : (op == 2) = false := by simp; omega
    have n3 : (op == 3) = false := by simp; omega
    have n4 : (op == 4) = false := by simp; omega
    have n5 : (op == 5) = false := by simp; omega
    have n6 : (op == 6) = false := by simp; omega
    have n7 : (op == 7) = false := by simp; omega
    have n8 : (op == 8) = false := by simp; omega
    have n9 : (op == 9) = false := by simp; omega
    have n10 : (op == 10) = false := by simp; omega
    have n11 : (op == 11) = false := by simp; omega
    have n12 : (op == 12) = false := by simp; omega
    have n13 : (op == 13) = false := by simp; omega
    have n14 : (op == 14) = false := by simp; omega
    have n15 : (op == 15) = false := by simp; omega
    have n16 : (op == 16) = false := by simp; omega
    have n17 : (op == 17) = false := by simp; omega
    have n18 : (op == 18) = false := by simp; omega
    have n19 : (op == 19) = false := by simp; omega
    rw [n1, n3, n4, n5, n6, n7, n8, n2, n9, n10, n11, n12, n13, n14, n16, n17, n18, n19, n15]
    rfl)
  go_enter Tryz.func88, Tryz.ntmps88
  go_wp2_with fail
  go_quiet (fail)
  go_wp2_with fail
  go_ret
  exact ⟨rB G.out.symm, kept_drewN K0.out _⟩
theorem fitsOp (w : World) (op z r m k e s : Int) (h0 : 0 ≤ s) : Calls Tryz.prog 88 #[.agg #[.int .i64 op, .int .i64 z, .int .i64 r, .int .i64 m, .int .i64 k, .int .i64 e, .int .i64 s]] w fun r' w' => r' = .returned (.bool (Pl.inKind ⟨op, z, r, m, k, e, s⟩)) ∧ Kept 0 0 w w' := by
  by_cases h : op < 1 ∨ 19 < op
  · exact fitsOpNo w op z r m k e s h
  · have hs : op = 1 ∨ op = 2 ∨ op = 3 ∨ op = 4 ∨ op = 5 ∨ op = 6 ∨ op = 7 ∨ op = 8 ∨ op = 9 ∨ op = 10 ∨ op = 11 ∨ op = 12 ∨ op = 13 ∨ op = 14 ∨ op = 15 ∨ op = 16 ∨ op = 17 ∨ op = 18 ∨ op = 19 := by omega
    rcases hs with rfl | rfl | rfl | rfl | rfl | rfl | rfl | rfl | rfl | rfl | rfl | rfl | rfl | rfl | rfl | rfl | rfl | rfl | rfl
    · exact fitsOp1 w z r m k e s h0
    · exact fitsOp2 w z r m k e s h0
    · exact fitsOp3 w z r m k e s h0
    · exact fitsOp4 w z r m k e s h0
    · exact fitsOp5 w z r m k e s h0
    · exact fitsOp6 w z r m k e s h0
    · exact fitsOp7 w z r m k e s h0
    · exact fitsOp8 w z r m k e s h0
    · exact fitsOp9 w z r m k e s h0
    · exact fitsOp10 w z r m k e s h0
    · exact fitsOp11 w z r m k e s h0
    · exact fitsOp12 w z r m k e s h0
    · exact fitsOp13 w z r m k e s h0
    · exact fitsOp14 w z r m k e s h0
    · exact fitsOp15 w z r m k e s h0
    · exact fitsOp16 w z r m k e s h0
    · exact fitsOp17 w z r m k e s h0
    · exact fitsOp18 w z r m k e s h0
    · exact fitsOp19 w z r m k e s h0
end Go.Proofs.YtblddehlkaolbaaGreat

