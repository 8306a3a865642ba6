/- What the program's IsPrivileged, LongIns and EncodeIns answer, for every argument. -/
import Derived.Test.YtlbnllhabdnjjaaImplInsE
import Derived.Test.YtlbnllhabdnjjaaImplSup
namespace Go.Proofs.Ytlbnllhabdnjjaa
open Go.RowKit
set_option linter.unusedVariables false
theorem implIsPriv (w : World) (op z r m k e s : Int) (wfop : (Lit.int .i64 op).wf = true) (wfz : (Lit.int .i64 z).wf = true) (wfr : (Lit.int .i64 r).wf = true) (wfm : (Lit.int .i64 m).wf = true) (wfk : (Lit.int .i64 k).wf = true) (wfe : (Lit.int .i64 e).wf = true) (wfs : (Lit.int .i64 s).wf = true) : Calls Try.prog 34 #[.agg #[.int .i64 op, .int .i64 z, .int .i64 r, .int .i64 m, .int .i64 k, .int .i64 e, .int .i64 s]] w fun e' w' => e' = .returned (.tuple #[.bool (Pl.inOk ⟨op, z, r, m, k, e, s⟩ && Pl.priv ⟨op, z, r, m, k, e, s⟩), .bool (Pl.inOk ⟨op, z, r, m, k, e, s⟩)]) ∧ Kept 0 0 w w' := by
  have K0 := hide (kept_alloc w (.cells #[.int .i64 op, .int .i64 z, .int .i64 r, .int .i64 m, .int .i64 k, .int .i64 e, .int .i64 s] 29))
  have B0 := hide (Blk.new w #[.int .i64 op, .int .i64 z, .int .i64 r, .int .i64 m, .int .i64 k, .int .i64 e, .int .i64 s] 29)
  cases h : Pl.inOk ⟨op, z, r, m, k, e, s⟩
  · go_enter Try.func34, Try.ntmps34
    go_wp2_with (go_at_call 12; refine (implGoodIns _ op z r m k e s wfop wfz wfr wfm wfk wfe wfs).mono ?_; rw [h]; rintro e9 w2 ⟨rfl, k2⟩; have B2 := hide (B0.out.kept0 k2); have K2 := hide (K0.out.trans k2); obtain ⟨c0, c1, c2, c3, c4, c5, c6⟩ := B2.out.c7; clear k2)
    go_ret2
    exact ⟨rfl, K2.out⟩
  · go_enter Try.func34, Try.ntmps34
    go_wp2_with (first | (go_at_call 12; refine (implGoodIns _ op z r m k e s wfop wfz wfr wfm wfk wfe wfs).mono ?_; rw [h]; rintro e9 w2 ⟨rfl, k2⟩; have B2 := hide (B0.out.kept0 k2); have K2 := hide (K0.out.trans k2); obtain ⟨c0, c1, c2, c3, c4, c5, c6⟩ := B2.out.c7; clear k2) | (go_at_call 58; refine (needsSuper _ op z r m k e s).mono ?_; rintro e9 w3 ⟨rfl, k3⟩; have K3 := hide (K2.out.trans k3); clear k3))
    go_ret2
    exact ⟨rfl, K3.out⟩
theorem decM {n v : Int} (h : Pl.wordOk n = true) : 0 ≤ n ∧ n ≤ 65535 ∧ (Lit.int .i64 (Pl.decode n v).m).wf = true ∧ (if Pl.lng (Pl.decode n v).m = true then (2 : Int) else 1) = Pl.longW n := by
  simp [Pl.wordOk, Pl.within] at h
  refine ⟨h.1, h.2, wfSm ?_ ?_, ?_⟩
  · show -1 ≤ n / 32 % 8; omega
  · show n / 32 % 8 ≤ 65536; omega
  · show (if Pl.lng (n / 32 % 8) = true then (2 : Int) else 1) = _
    unfold Pl.lng Pl.longW
    rw [show Pl.modeOk (n / 32 % 8) = true from by simp [Pl.modeOk, Pl.within]; omega]
    rfl
theorem implLongIns (w : World) (n : Int) (wfn : (Lit.int .i64 n).wf = true) : Calls Try.prog 22 #[.int .i64 n] w fun e' w' => e' = .returned (.tuple #[.int .i64 (if Pl.wordOk n = true then Pl.longW n else 0), .bool (Pl.wordOk n)]) ∧ Kept 0 0 w w' := by
  obtain ⟨lo, hi⟩ := wfB wfn
  cases h : Pl.wordOk n
  · go_enter Try.func22, Try.ntmps22
    go_wp2_with (go_at_call 52; refine (isWord _ _ lo hi).mono ?_; rintro e9 w9 ⟨rfl, hw⟩; have hw2 := hw.symm; clear hw; subst hw2; rw [h])
    go_ret2
    exact ⟨rfl, Kept.refl _ _ _⟩
  · obtain ⟨n0, n1, wm, hl⟩ := decM (v := 0) h
    obtain ⟨x, hx⟩ : ∃ x, Pl.decode n 0 = x := ⟨_, rfl⟩
    rw [hx] at wm hl
    have HX := hide hx
    have HL := hide hl
    clear hx hl
    go_enter Try.func22, Try.ntmps22
    go_wp2_with (first | (go_at_call 52; refine (isWord _ _ lo hi).mono ?_; rintro e9 w9 ⟨rfl, hw⟩; have hw2 := hw.symm; clear hw; subst hw2; rw [h]) | (go_at_call 53; refine (insOf _ n 0 n0 n1).mono ?_; rw [HX.out]; rintro e9 w2 ⟨rfl, k2⟩) | (go_at_call 54; refine (lengthOf _ _ _ _ _ _ _ _ wm).mono ?_; rw [HL.out]; rintro e9 w3 ⟨rfl, k3⟩))
    go_ret2
    exact ⟨rfl, k2.trans k3⟩
set_option maxRecDepth 20000 in
set_option maxHeartbeats 4000000 in
theorem wordsOf (w : World) (op z r m k e s : Int) (h : Pl.inOk ⟨op, z, r, m, k, e, s⟩ = true) : Calls Try.prog 48 #[.agg #[.int .i64 op, .int .i64 z, .int .i64 r, .int .i64 m, .int .i64 k, .int .i64 e, .int .i64 s]] w fun e' w' => ∃ (g c : Nat), e' = .returned (.slice (some ⟨g, 0, none⟩) (Pl.encode ⟨op, z, r, m, k, e, s⟩).length c) ∧ w.heap.size ≤ g ∧ g < w'.heap.size ∧ Own w' g (Pl.encode ⟨op, z, r, m, k, e, s⟩) ∧ Kept 0 0 w w' := by
  obtain ⟨a1, a2, a3, a4, a5, a6, a7, a8, a9, b1, b2, b3, b4, b5⟩ := Pl.modeR h
  simp only at a1 a2 a3 a4 a5 a6 a7 a8 a9 b1 b2 b3 b4 b5
  have wfm : (Lit.int .i64 m).wf = true := wfSm (by omega) (by omega)
  obtain ⟨N, hN⟩ : ∃ N, Pl.word1 ⟨op, z, r, m, k, e, s⟩ % 65536 = N := ⟨_, rfl⟩
  have HN := hide hN
  have HV : Hid (Pl.word1 ⟨op, z, r, m, k, e, s⟩ = N) := hide (by rw [← hN]; have : Pl.word1 ⟨op, z, r, m, k, e, s⟩ = op * 2048 + (z - 1) * 1024 + r * 256 + m * 32 + k * 8 + s := rfl; omega)
  have HL : Hid (Pl.lng m = Pl.extM m) := hide (by unfold Pl.lng; rw [show Pl.modeOk m = true from by simp [Pl.modeOk, Pl.within]; omega]; rfl)
  have K0 := hide (kept_alloc w (.cells #[.int .i64 op, .int .i64 z, .int .i64 r, .int .i64 m, .int .i64 k, .int .i64 e, .int .i64 s] 29))
  have B0 := hide (Blk.new w #[.int .i64 op, .int .i64 z, .int .i64 r, .int .i64 m, .int .i64 k, .int .i64 e, .int .i64 s] 29)
  clear hN a1 a2 a3 a4 a5 a6 a7 a8 a9 b1 b2 b3 b4 b5
  cases hE : Pl.extM m
  · have E : Hid (Pl.encode ⟨op, z, r, m, k, e, s⟩ = [N]) := hide (by simp [Pl.encode, hE, HV.out])
    go_enter Try.func48, Try.ntmps48
    go_wp2_with (first | (go_at_call 68; refine (isLong _ op z r m k e s wfm).mono ?_; rw [HL.out, hE]; rintro e9 w1 ⟨rfl, k1⟩; have B1 := hide (B0.out.kept0 k1); have K1 := hide (K0.out.trans k1); obtain ⟨c0, c1, c2, c3, c4, c5, c6⟩ := B1.out.c7; clear k1) | (go_at_call 60; refine (firstWord _ op z r m k e s).mono ?_; rw [HN.out]; rintro e9 w2 ⟨rfl, k2⟩; have K2 := hide (K1.out.trans k2); clear k2))
    go_ret
    have B2 := Blk.new w2 #[.int .i64 N] 3
    exact ⟨w2.heap.size, 1, by rw [E.out]; rfl, K2.out.size, B2.lt, by rw [E.out]; exact own_of_blk (xs := [N]) B2, kept_new K2.out _⟩
  · have E : Hid (Pl.encode ⟨op, z, r, m, k, e, s⟩ = [N, e]) := hide (by simp [Pl.encode, hE, HV.out])
    go_enter Try.func48, Try.ntmps48
    go_wp2_with (go_at_call 68; refine (isLong _ op z r m k e s wfm).mono ?_; rw [HL.out, hE]; rintro e9 w1 ⟨rfl, k1⟩; have B1 := hide (B0.out.kept0 k1); have K1 := hide (K0.out.trans k1); have s1 := hide k1.size; clear k1)
    refine wp_region_inv2 (fun A0 l A W => ∃ g : Nat, FR [5, 6, 7, 8, 9, 10, 2] A0 A ∧ Once l 0 (A.tmps[5]? = some (.agg #[.int .i64 op, .int .i64 z, .int .i64 r, .int .i64 m, .int .i64 k, .int .i64 e, .int .i64 s])) ∧ Once l 1 (A.tmps[6]? = some (.int .i64 N)) ∧ Once l 2 (A.tmps[7]? = some (.pointer (some ⟨w.heap.size, 3, none⟩))) ∧ Once l 3 (A.tmps[8]? = some (.pointer (some ⟨w.heap.size, 5, none⟩))) ∧ Once l 4 (A.tmps[9]? = some (.int .i64 e)) ∧ Once l 5 (A.tmps[10]? = some (.slice (some ⟨g, 0, none⟩) 2 2)) ∧ Once l 6 (A.tmps[2]? = some (.slice (some ⟨g, 0, none⟩) 2 2)) ∧ Once l 5 (Blk W g #[.int .i64 N, .int .i64 e] 3 ∧ w1.heap.size ≤ g) ∧ (l.getD 6 true = true → l.getD 5 true = true) ∧ Kept 0 0 w1 W) (by kernel_rfl) (by kernel_rfl) ?start ?fin ?step
    case start => exact ⟨0, FR.refl _ _, once_start (by decide), once_start (by decide), once_start (by decide), once_start (by decide), once_start (by decide), once_start (by decide), once_start (by decide), once_start (by decide), (fun q => by rw [start_at (by decide)] at q; cases q), kept_drew (Kept.refl _ _ _)⟩
    case fin =>
      intro l A W h hl
      obtain ⟨g, hFR, o0, o1, o2, o3, o4, o5, o6, ox, o6w, hK⟩ := h
      have g6 := o6 (hl 6 (by decide))
      have QX := hide (ox (hl 5 (by decide)))
      have QQ := hide hK
      have hc9 := hFR.chain
      simp only [List.foldl] at hc9
      rw [getD_of g6] at hc9
      clear ox o6w hl hK hFR g6 o0 o1 o2 o3 o4 o5 o6
      generalize A.tmps.getD 5 undef = s5 at hc9
      generalize A.tmps.getD 6 undef = s6 at hc9
      generalize A.tmps.getD 7 undef = s7 at hc9
      generalize A.tmps.getD 8 undef = s8 at hc9
      generalize A.tmps.getD 9 undef = s9 at hc9
      generalize A.tmps.getD 10 undef = s10 at hc9
      subst hc9
      go_simp
      go_wp2_with fail
      go_ret
      have q2 := QX.out.2
      have q3 := K1.out.size
      exact ⟨g, 2, by rw [E.out]; rfl, by omega, QX.out.1.lt, by rw [E.out]; exact own_of_blk (xs := [N, e]) QX.out.1, K1.out.trans QQ.out⟩
    case step =>
      intro l A W i hI hm
      obtain ⟨g, hFR, o0, o1, o2, o3, o4, o5, o6, ox, o6w, hK⟩ := hI
      obtain ⟨hi1, hi2⟩ := ready_new hm
      have hsz : Hid (10 < A.tmps.size) := hide (by rw [hFR.size]; simp)
      have m1 : A.tmps[1]? = some (.pointer (some ⟨w.heap.size, 0, none⟩)) := (hFR.out 1 (by decide)).trans rfl
      rcases i with _ | _ | _ | _ | _ | _ | _ | i
      · have BL := hide (B1.out.kept0 hK)
        obtain ⟨x0, x1, x2, x3, x4, x5, x6⟩ := BL.out.c7
        refine wpOp_step rfl (fun KK hK2 => ?_)
        go_simp
        exact hK2 (A.put (some 5) (.agg #[.int .i64 op, .int .i64 z, .int .i64 r, .int .i64 m, .int .i64 k, .int .i64 e, .int .i64 s])) _ ⟨g, hFR.put (by decide) _, .now (put_eq (by have hz := hsz.out; omega)), o1.past (by decide) (fun h => (put_ne (by decide)).trans h), o2.past (by decide) (fun h => (put_ne (by decide)).trans h), o3.past (by decide) (fun h => (put_ne (by decide)).trans h), o4.past (by decide) (fun h => (put_ne (by decide)).trans h), o5.past (by decide) (fun h => (put_ne (by decide)).trans h), o6.past (by decide) (fun h => (put_ne (by decide)).trans h), ox.past (by decide) id, (fun q => by rw [getD_set_ne (by decide)] at q ⊢; exact o6w q), hK⟩
      · have e0 := o0 (ready_dep hm 0 (by kernel_rfl))
        refine wpOp_step rfl (fun KK hK2 => ?_)
        go_simp
        refine (firstWord W op z r m k e s).mono ?_
        rw [HN.out]
        rintro r9 y ⟨rfl, kd⟩
        go_simp
        exact hK2 (A.put (some 6) (.int .i64 N)) _ ⟨g, hFR.put (by decide) _, o0.past (by decide) (fun h => (put_ne (by decide)).trans h), .now (put_eq (by have hz := hsz.out; omega)), o2.past (by decide) (fun h => (put_ne (by decide)).trans h), o3.past (by decide) (fun h => (put_ne (by decide)).trans h), o4.past (by decide) (fun h => (put_ne (by decide)).trans h), o5.past (by decide) (fun h => (put_ne (by decide)).trans h), o6.past (by decide) (fun h => (put_ne (by decide)).trans h), ox.past (by decide) (fun h => ⟨h.1.kept0 kd, h.2⟩), (fun q => by rw [getD_set_ne (by decide)] at q; rw [getD_set_ne (by decide)]; exact o6w q), (hK.trans kd)⟩
      · refine wpOp_step rfl (fun KK hK2 => ?_)
        go_simp
        exact hK2 (A.put (some 7) (.pointer (some ⟨w.heap.size, 3, none⟩))) _ ⟨g, hFR.put (by decide) _, o0.past (by decide) (fun h => (put_ne (by decide)).trans h), o1.past (by decide) (fun h => (put_ne (by decide)).trans h), .now (put_eq (by have hz := hsz.out; omega)), o3.past (by decide) (fun h => (put_ne (by decide)).trans h), o4.past (by decide) (fun h => (put_ne (by decide)).trans h), o5.past (by decide) (fun h => (put_ne (by decide)).trans h), o6.past (by decide) (fun h => (put_ne (by decide)).trans h), ox.past (by decide) id, (fun q => by rw [getD_set_ne (by decide)] at q ⊢; exact o6w q), hK⟩
      · have e2 := o2 (ready_dep hm 2 (by kernel_rfl))
        refine wpOp_step rfl (fun KK hK2 => ?_)
        go_simp
        exact hK2 (A.put (some 8) (.pointer (some ⟨w.heap.size, 5, none⟩))) _ ⟨g, hFR.put (by decide) _, o0.past (by decide) (fun h => (put_ne (by decide)).trans h), o1.past (by decide) (fun h => (put_ne (by decide)).trans h), o2.past (by decide) (fun h => (put_ne (by decide)).trans h), .now (put_eq (by have hz := hsz.out; omega)), o4.past (by decide) (fun h => (put_ne (by decide)).trans h), o5.past (by decide) (fun h => (put_ne (by decide)).trans h), o6.past (by decide) (fun h => (put_ne (by decide)).trans h), ox.past (by decide) id, (fun q => by rw [getD_set_ne (by decide)] at q ⊢; exact o6w q), hK⟩
      · have e3 := o3 (ready_dep hm 3 (by kernel_rfl))
        have BL := hide (B1.out.kept0 hK)
        obtain ⟨x0, x1, x2, x3, x4, x5, x6⟩ := BL.out.c7
        refine wpOp_step rfl (fun KK hK2 => ?_)
        go_simp
        exact hK2 (A.put (some 9) (.int .i64 e)) _ ⟨g, hFR.put (by decide) _, o0.past (by decide) (fun h => (put_ne (by decide)).trans h), o1.past (by decide) (fun h => (put_ne (by decide)).trans h), o2.past (by decide) (fun h => (put_ne (by decide)).trans h), o3.past (by decide) (fun h => (put_ne (by decide)).trans h), .now (put_eq (by have hz := hsz.out; omega)), o5.past (by decide) (fun h => (put_ne (by decide)).trans h), o6.past (by decide) (fun h => (put_ne (by decide)).trans h), ox.past (by decide) id, (fun q => by rw [getD_set_ne (by decide)] at q ⊢; exact o6w q), hK⟩
      · have e1 := o1 (ready_dep hm 1 (by kernel_rfl))
        have e4 := o4 (ready_dep hm 4 (by kernel_rfl))
        have n6 : ¬ l.getD 6 true = true := fun q => by have := o6w q; rw [hi2] at this; cases this
        refine wpOp_step rfl (fun KK hK2 => ?_)
        go_simp
        exact hK2 (A.put (some 10) (.slice (some ⟨W.heap.size, 0, none⟩) 2 2)) _ ⟨W.heap.size, hFR.put (by decide) _, o0.past (by decide) (fun h => (put_ne (by decide)).trans h), o1.past (by decide) (fun h => (put_ne (by decide)).trans h), o2.past (by decide) (fun h => (put_ne (by decide)).trans h), o3.past (by decide) (fun h => (put_ne (by decide)).trans h), o4.past (by decide) (fun h => (put_ne (by decide)).trans h), .now (put_eq (by have hz := hsz.out; omega)), (fun q => by rw [getD_set_ne (by decide)] at q; exact absurd q n6), .now ⟨Blk.new W _ _, hK.size⟩, (fun q => by rw [getD_set_ne (by decide)] at q; exact getD_set_eq), (kept_new hK _)⟩
      · have e5 := o5 (ready_dep hm 5 (by kernel_rfl))
        refine wpOp_step rfl (fun KK hK2 => ?_)
        go_simp
        exact hK2 (A.put (some 2) (.slice (some ⟨g, 0, none⟩) 2 2)) _ ⟨g, hFR.put (by decide) _, o0.past (by decide) (fun h => (put_ne (by decide)).trans h), o1.past (by decide) (fun h => (put_ne (by decide)).trans h), o2.past (by decide) (fun h => (put_ne (by decide)).trans h), o3.past (by decide) (fun h => (put_ne (by decide)).trans h), o4.past (by decide) (fun h => (put_ne (by decide)).trans h), o5.past (by decide) (fun h => (put_ne (by decide)).trans h), .now (put_eq (by have hz := hsz.out; omega)), ox.past (by decide) id, (fun _ => by rw [getD_set_ne (by decide)]; exact ready_dep hm 5 (by kernel_rfl)), hK⟩
      · simp at hi1
        omega
theorem implEncodeIns (w : World) (op z r m k e s : Int) (wfop : (Lit.int .i64 op).wf = true) (wfz : (Lit.int .i64 z).wf = true) (wfr : (Lit.int .i64 r).wf = true) (wfm : (Lit.int .i64 m).wf = true) (wfk : (Lit.int .i64 k).wf = true) (wfe : (Lit.int .i64 e).wf = true) (wfs : (Lit.int .i64 s).wf = true) : Calls Try.prog 14 #[.agg #[.int .i64 op, .int .i64 z, .int .i64 r, .int .i64 m, .int .i64 k, .int .i64 e, .int .i64 s]] w fun e' w' => ∃ (a : Option Addr) (c : Nat), e' = .returned (.tuple #[.slice a (Pl.enc ⟨op, z, r, m, k, e, s⟩).length c, .bool (Pl.inOk ⟨op, z, r, m, k, e, s⟩)]) ∧ SlotIn w' w.heap.size w'.heap.size a (Pl.enc ⟨op, z, r, m, k, e, s⟩) ∧ Kept 0 0 w w' := by
  have K0 := hide (kept_alloc w (.cells #[.int .i64 op, .int .i64 z, .int .i64 r, .int .i64 m, .int .i64 k, .int .i64 e, .int .i64 s] 29))
  have B0 := hide (Blk.new w #[.int .i64 op, .int .i64 z, .int .i64 r, .int .i64 m, .int .i64 k, .int .i64 e, .int .i64 s] 29)
  cases h : Pl.inOk ⟨op, z, r, m, k, e, s⟩
  · have E : Hid (Pl.enc ⟨op, z, r, m, k, e, s⟩ = []) := hide (by simp [Pl.enc, h])
    go_enter Try.func14, Try.ntmps14
    go_wp2_with (go_at_call 12; refine (implGoodIns _ op z r m k e s wfop wfz wfr wfm wfk wfe wfs).mono ?_; rw [h]; rintro e9 w2 ⟨rfl, k2⟩; have B2 := hide (B0.out.kept0 k2); have K2 := hide (K0.out.trans k2); obtain ⟨c0, c1, c2, c3, c4, c5, c6⟩ := B2.out.c7; clear k2)
    go_ret2
    exact ⟨none, 0, by rw [E.out]; rfl, .inl ⟨rfl, E.out⟩, K2.out⟩
  · have E : Hid (Pl.enc ⟨op, z, r, m, k, e, s⟩ = Pl.encode ⟨op, z, r, m, k, e, s⟩) := hide (by simp [Pl.enc, h])
    go_enter Try.func14, Try.ntmps14
    go_wp2_with (first | (go_at_call 12; refine (implGoodIns _ op z r m k e s wfop wfz wfr wfm wfk wfe wfs).mono ?_; rw [h]; rintro e9 w2 ⟨rfl, k2⟩; have B2 := hide (B0.out.kept0 k2); have K2 := hide (K0.out.trans k2); obtain ⟨c0, c1, c2, c3, c4, c5, c6⟩ := B2.out.c7; clear k2) | (go_at_call 48; refine (wordsOf _ op z r m k e s h).mono ?_; rintro e9 w3 ⟨g, c, rfl, hg1, hg2, hO, k3⟩; have S2 := hide K2.out.size; have HO := hide hO; have L1 := hide hg1; have L2 := hide hg2; have K3 := hide (K2.out.trans k3); clear hg1 hg2 hO k3))
    go_ret2
    have s2 := S2.out
    have l1 := L1.out
    exact ⟨some ⟨g, 0, none⟩, c, by rw [E.out]; rfl, .inr ⟨g, rfl, by omega, L2.out, by rw [E.out]; exact HO.out⟩, K3.out⟩
end Go.Proofs.Ytlbnllhabdnjjaa
