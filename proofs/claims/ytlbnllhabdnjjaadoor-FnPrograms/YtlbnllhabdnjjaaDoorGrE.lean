/- What the program's IsPrivileged, LongIns and EncodeIns answer, for every argument. What the program's DecodeIns answers, for every argument: the second number is looked at only where the first word asks for it. -/
import Derived.Test.YtlbnllhabdnjjaaDoorGrD
import Derived.Test.YtlbnllhabdnjjaaDoorImplSup
namespace Go.Proofs.YtlbnllhabdnjjaaDoor
open Go.RowKit
set_option linter.unusedVariables false
theorem implIsPriv (w : World) (op z r m k e s : Int) (wfop : (Lit.int .i64 op).wf = true) (wfz : (Lit.int .i64 z).wf = true) (wfr : (Lit.int .i64 r).wf = true) (wfm : (Lit.int .i64 m).wf = true) (wfk : (Lit.int .i64 k).wf = true) (wfe : (Lit.int .i64 e).wf = true) (wfs : (Lit.int .i64 s).wf = true) : Calls Tryd.prog 16 #[.agg #[.int .i64 op, .int .i64 z, .int .i64 r, .int .i64 m, .int .i64 k, .int .i64 e, .int .i64 s]] w fun e' w' => e' = .returned (.tuple #[.bool (Pl.inOk ⟨op, z, r, m, k, e, s⟩ && Pl.priv ⟨op, z, r, m, k, e, s⟩), .bool (Pl.inOk ⟨op, z, r, m, k, e, s⟩)]) ∧ Kept 0 0 w w' := by
  have K0 := hide (kept_alloc w (.cells #[.int .i64 op, .int .i64 z, .int .i64 r, .int .i64 m, .int .i64 k, .int .i64 e, .int .i64 s] 36))
  have B0 := hide (Blk.new w #[.int .i64 op, .int .i64 z, .int .i64 r, .int .i64 m, .int .i64 k, .int .i64 e, .int .i64 s] 36)
  cases h : Pl.inOk ⟨op, z, r, m, k, e, s⟩
  · go_enter Tryd.func16, Tryd.ntmps16
    go_wp2_with (go_at_call 20; refine (implGoodIns _ op z r m k e s wfop wfz wfr wfm wfk wfe wfs).mono ?_; rw [h]; rintro e9 w2 ⟨rfl, k2⟩; have B2 := hide (B0.out.kept0 k2); have K2 := hide (K0.out.trans k2); obtain ⟨c0, c1, c2, c3, c4, c5, c6⟩ := B2.out.c7; clear k2)
    go_ret2
    exact ⟨rfl, K2.out⟩
  · go_enter Tryd.func16, Tryd.ntmps16
    go_wp2_with (first | (go_at_call 20; refine (implGoodIns _ op z r m k e s wfop wfz wfr wfm wfk wfe wfs).mono ?_; rw [h]; rintro e9 w2 ⟨rfl, k2⟩; have B2 := hide (B0.out.kept0 k2); have K2 := hide (K0.out.trans k2); obtain ⟨c0, c1, c2, c3, c4, c5, c6⟩ := B2.out.c7; clear k2) | (go_at_call 34; refine (needsSuper _ op z r m k e s).mono ?_; rintro e9 w3 ⟨rfl, k3⟩; have K3 := hide (K2.out.trans k3); clear k3))
    go_ret2
    exact ⟨rfl, K3.out⟩
theorem decM {n v : Int} (h : Pl.wordOk n = true) : 0 ≤ n ∧ n ≤ 65535 ∧ (Lit.int .i64 (Pl.decode n v).m).wf = true ∧ (if Pl.lng (Pl.decode n v).m = true then (2 : Int) else 1) = Pl.longW n := by
  simp [Pl.wordOk, Pl.within] at h
  refine ⟨h.1, h.2, wfSm ?_ ?_, ?_⟩
  · show -1 ≤ n / 32 % 8; omega
  · show n / 32 % 8 ≤ 65536; omega
  · show (if Pl.lng (n / 32 % 8) = true then (2 : Int) else 1) = _
    unfold Pl.lng Pl.longW
    rw [show Pl.modeOk (n / 32 % 8) = true from by simp [Pl.modeOk, Pl.within]; omega]
    rfl
set_option maxRecDepth 20000 in
set_option maxHeartbeats 4000000 in
theorem wordsOf (w : World) (op z r m k e s : Int) (h : Pl.inOk ⟨op, z, r, m, k, e, s⟩ = true) : Calls Tryd.prog 21 #[.agg #[.int .i64 op, .int .i64 z, .int .i64 r, .int .i64 m, .int .i64 k, .int .i64 e, .int .i64 s]] w fun e' w' => ∃ (g c : Nat), e' = .returned (.slice (some ⟨g, 0, none⟩) (Pl.encode ⟨op, z, r, m, k, e, s⟩).length c) ∧ w.heap.size ≤ g ∧ g < w'.heap.size ∧ Own w' g (Pl.encode ⟨op, z, r, m, k, e, s⟩) ∧ Kept 0 0 w w' := by
  obtain ⟨a1, a2, a3, a4, a5, a6, a7, a8, a9, b1, b2, b3, b4, b5⟩ := Pl.modeR h
  simp only at a1 a2 a3 a4 a5 a6 a7 a8 a9 b1 b2 b3 b4 b5
  have wfm : (Lit.int .i64 m).wf = true := wfSm (by omega) (by omega)
  obtain ⟨N, hN⟩ : ∃ N, Pl.word1 ⟨op, z, r, m, k, e, s⟩ % 65536 = N := ⟨_, rfl⟩
  have HN := hide hN
  have HV : Hid (Pl.word1 ⟨op, z, r, m, k, e, s⟩ = N) := hide (by rw [← hN]; have : Pl.word1 ⟨op, z, r, m, k, e, s⟩ = op * 2048 + (z - 1) * 1024 + r * 256 + m * 32 + k * 8 + s := rfl; omega)
  have HL : Hid (Pl.lng m = Pl.extM m) := hide (by unfold Pl.lng; rw [show Pl.modeOk m = true from by simp [Pl.modeOk, Pl.within]; omega]; rfl)
  have K0 := hide (kept_alloc w (.cells #[.int .i64 op, .int .i64 z, .int .i64 r, .int .i64 m, .int .i64 k, .int .i64 e, .int .i64 s] 36))
  have B0 := hide (Blk.new w #[.int .i64 op, .int .i64 z, .int .i64 r, .int .i64 m, .int .i64 k, .int .i64 e, .int .i64 s] 36)
  clear hN a1 a2 a3 a4 a5 a6 a7 a8 a9 b1 b2 b3 b4 b5
  cases hE : Pl.extM m
  · have E : Hid (Pl.encode ⟨op, z, r, m, k, e, s⟩ = [N]) := hide (by simp [Pl.encode, hE, HV.out])
    go_enter Tryd.func21, Tryd.ntmps21
    go_wp2_with (first | (go_at_call 43; refine (isLong _ op z r m k e s wfm).mono ?_; rw [HL.out, hE]; rintro e9 w1 ⟨rfl, k1⟩; have B1 := hide (B0.out.kept0 k1); have K1 := hide (K0.out.trans k1); obtain ⟨c0, c1, c2, c3, c4, c5, c6⟩ := B1.out.c7; clear k1) | (go_at_call 44; refine (firstWord _ op z r m k e s).mono ?_; rw [HN.out]; rintro e9 w2 ⟨rfl, k2⟩; have K2 := hide (K1.out.trans k2); clear k2))
    go_ret
    have B2 := Blk.new w2 #[.int .i64 N] 3
    exact ⟨w2.heap.size, 1, by rw [E.out]; rfl, K2.out.size, B2.lt, by rw [E.out]; exact own_of_blk (xs := [N]) B2, kept_new K2.out _⟩
  · have E : Hid (Pl.encode ⟨op, z, r, m, k, e, s⟩ = [N, e]) := hide (by simp [Pl.encode, hE, HV.out])
    go_enter Tryd.func21, Tryd.ntmps21
    go_wp2_with (go_at_call 43; refine (isLong _ op z r m k e s wfm).mono ?_; rw [HL.out, hE]; rintro e9 w1 ⟨rfl, k1⟩; have B1 := hide (B0.out.kept0 k1); have K1 := hide (K0.out.trans k1); have s1 := hide k1.size; clear k1)
    refine wp_region_inv2 (fun A0 l A W => ∃ g : Nat, FR [5, 6, 7, 8, 9, 10, 2] A0 A ∧ Once l 0 (A.tmps[5]? = some (.agg #[.int .i64 op, .int .i64 z, .int .i64 r, .int .i64 m, .int .i64 k, .int .i64 e, .int .i64 s])) ∧ Once l 1 (A.tmps[6]? = some (.int .i64 N)) ∧ Once l 2 (A.tmps[7]? = some (.pointer (some ⟨w.heap.size, 3, none⟩))) ∧ Once l 3 (A.tmps[8]? = some (.pointer (some ⟨w.heap.size, 5, none⟩))) ∧ Once l 4 (A.tmps[9]? = some (.int .i64 e)) ∧ Once l 5 (A.tmps[10]? = some (.slice (some ⟨g, 0, none⟩) 2 2)) ∧ Once l 6 (A.tmps[2]? = some (.slice (some ⟨g, 0, none⟩) 2 2)) ∧ Once l 5 (Blk W g #[.int .i64 N, .int .i64 e] 3 ∧ w1.heap.size ≤ g) ∧ (l.getD 6 true = true → l.getD 5 true = true) ∧ Kept 0 0 w1 W) (by kernel_rfl) (by kernel_rfl) ?start ?fin ?step
    case start => exact ⟨0, FR.refl _ _, once_start (by decide), once_start (by decide), once_start (by decide), once_start (by decide), once_start (by decide), once_start (by decide), once_start (by decide), once_start (by decide), (fun q => by rw [start_at (by decide)] at q; cases q), kept_drew (Kept.refl _ _ _)⟩
    case fin =>
      intro l A W h hl
      obtain ⟨g, hFR, o0, o1, o2, o3, o4, o5, o6, ox, o6w, hK⟩ := h
      have g6 := o6 (hl 6 (by decide))
      have QX := hide (ox (hl 5 (by decide)))
      have QQ := hide hK
      have hc9 := hFR.chain
      simp only [List.foldl] at hc9
      rw [getD_of g6] at hc9
      clear ox o6w hl hK hFR g6 o0 o1 o2 o3 o4 o5 o6
      generalize A.tmps.getD 5 undef = s5 at hc9
      generalize A.tmps.getD 6 undef = s6 at hc9
      generalize A.tmps.getD 7 undef = s7 at hc9
      generalize A.tmps.getD 8 undef = s8 at hc9
      generalize A.tmps.getD 9 undef = s9 at hc9
      generalize A.tmps.getD 10 undef = s10 at hc9
      subst hc9
      go_simp
      go_wp2_with fail
      go_ret
      have q2 := QX.out.2
      have q3 := K1.out.size
      exact ⟨g, 2, by rw [E.out]; rfl, by omega, QX.out.1.lt, by rw [E.out]; exact own_of_blk (xs := [N, e]) QX.out.1, K1.out.trans QQ.out⟩
    case step =>
      intro l A W i hI hm
      obtain ⟨g, hFR, o0, o1, o2, o3, o4, o5, o6, ox, o6w, hK⟩ := hI
      obtain ⟨hi1, hi2⟩ := ready_new hm
      have hsz : Hid (10 < A.tmps.size) := hide (by rw [hFR.size]; simp)
      have m1 : A.tmps[1]? = some (.pointer (some ⟨w.heap.size, 0, none⟩)) := (hFR.out 1 (by decide)).trans rfl
      rcases i with _ | _ | _ | _ | _ | _ | _ | i
      · have BL := hide (B1.out.kept0 hK)
        obtain ⟨x0, x1, x2, x3, x4, x5, x6⟩ := BL.out.c7
        refine wpOp_step rfl (fun KK hK2 => ?_)
        go_simp
        exact hK2 (A.put (some 5) (.agg #[.int .i64 op, .int .i64 z, .int .i64 r, .int .i64 m, .int .i64 k, .int .i64 e, .int .i64 s])) _ ⟨g, hFR.put (by decide) _, .now (put_eq (by have hz := hsz.out; omega)), o1.past (by decide) (fun h => (put_ne (by decide)).trans h), o2.past (by decide) (fun h => (put_ne (by decide)).trans h), o3.past (by decide) (fun h => (put_ne (by decide)).trans h), o4.past (by decide) (fun h => (put_ne (by decide)).trans h), o5.past (by decide) (fun h => (put_ne (by decide)).trans h), o6.past (by decide) (fun h => (put_ne (by decide)).trans h), ox.past (by decide) id, (fun q => by rw [getD_set_ne (by decide)] at q ⊢; exact o6w q), hK⟩
      · have e0 := o0 (ready_dep hm 0 (by kernel_rfl))
        refine wpOp_step rfl (fun KK hK2 => ?_)
        go_simp
        refine (firstWord W op z r m k e s).mono ?_
        rw [HN.out]
        rintro r9 y ⟨rfl, kd⟩
        go_simp
        exact hK2 (A.put (some 6) (.int .i64 N)) _ ⟨g, hFR.put (by decide) _, o0.past (by decide) (fun h => (put_ne (by decide)).trans h), .now (put_eq (by have hz := hsz.out; omega)), o2.past (by decide) (fun h => (put_ne (by decide)).trans h), o3.past (by decide) (fun h => (put_ne (by decide)).trans h), o4.past (by decide) (fun h => (put_ne (by decide)).trans h), o5.past (by decide) (fun h => (put_ne (by decide)).trans h), o6.past (by decide) (fun h => (put_ne (by decide)).trans h), ox.past (by decide) (fun h => ⟨h.1.kept0 kd, h.2⟩), (fun q => by rw [getD_set_ne (by decide)] at q; rw [getD_set_ne (by decide)]; exact o6w q), (hK.trans kd)⟩
      · refine wpOp_step rfl (fun KK hK2 => ?_)
        go_simp
        exact hK2 (A.put (some 7) (.pointer (some ⟨w.heap.size, 3, none⟩))) _ ⟨g, hFR.put (by decide) _, o0.past (by decide) (fun h => (put_ne (by decide)).trans h), o1.past (by decide) (fun h => (put_ne (by decide)).trans h), .now (put_eq (by have hz := hsz.out; omega)), o3.past (by decide) (fun h => (put_ne (by decide)).trans h), o4.past (by decide) (fun h => (put_ne (by decide)).trans h), o5.past (by decide) (fun h => (put_ne (by decide)).trans h), o6.past (by decide) (fun h => (put_ne (by decide)).trans h), ox.past (by decide) id, (fun q => by rw [getD_set_ne (by decide)] at q ⊢; exact o6w q), hK⟩
      · have e2 := o2 (ready_dep hm 2 (by kernel_rfl))
        refine wpOp_step rfl (fun KK hK2 => ?_)
        go_simp
        exact hK2 (A.put (some 8) (.pointer (some ⟨w.heap.size, 5, none⟩))) _ ⟨g, hFR.put (by decide) _, o0.past (by decide) (fun h => (put_ne (by decide)).trans h), o1.past (by decide) (fun h => (put_ne (by decide)).trans h), o2.past (by decide) (fun h => (put_ne (by decide)).trans h), .now (put_eq (by have hz := hsz.out; omega)), o4.past (by decide) (fun h => (put_ne (by decide)).trans h), o5.past (by decide) (fun h => (put_ne (by decide)).trans h), o6.past (by decide) (fun h => (put_ne (by decide)).trans h), ox.past (by decide) id, (fun q => by rw [getD_set_ne (by decide)] at q ⊢; exact o6w q), hK⟩
      · have e3 := o3 (ready_dep hm 3 (by kernel_rfl))
        have BL := hide (B1.out.kept0 hK)
        obtain ⟨x0, x1, x2, x3, x4, x5, x6⟩ := BL.out.c7
        refine wpOp_step rfl (fun KK hK2 => ?_)
        go_simp
        exact hK2 (A.put (some 9) (.int .i64 e)) _ ⟨g, hFR.put (by decide) _, o0.past (by decide) (fun h => (put_ne (by decide)).trans h), o1.past (by decide) (fun h => (put_ne (by decide)).trans h), o2.past (by decide) (fun h => (put_ne (by decide)).trans h), o3.past (by decide) (fun h => (put_ne (by decide)).trans h), .now (put_eq (by have hz := hsz.out; omega)), o5.past (by decide) (fun h => (put_ne (by decide)).trans h), o6.past (by decide) (fun h => (put_ne (by decide)).trans h), ox.past (by decide) id, (fun q => by rw [getD_set_ne (by decide)] at q ⊢; exact o6w q), hK⟩
      · have e1 := o1 (ready_dep hm 1 (by kernel_rfl))
        have e4 := o4 (ready_dep hm 4 (by kernel_rfl))
        have n6 : ¬ l.getD 6 true = true := fun q => by have := o6w q; rw [hi2] at this; cases this
        refine wpOp_step rfl (fun KK hK2 => ?_)
        go_simp
        exact hK2 (A.put (some 10) (.slice (some ⟨W.heap.size, 0, none⟩) 2 2)) _ ⟨W.heap.size, hFR.put (by decide) _, o0.past (by decide) (fun h => (put_ne (by decide)).trans h), o1.past (by decide) (fun h => (put_ne (by decide)).trans h), o2.past (by decide) (fun h => (put_ne (by decide)).trans h), o3.past (by decide) (fun h => (put_ne (by decide)).trans h), o4.past (by decide) (fun h => (put_ne (by decide)).trans h), .now (put_eq (by have hz := hsz.out; omega)), (fun q => by rw [getD_set_ne (by decide)] at q; exact absurd q n6), .now ⟨Blk.new W _ _, hK.size⟩, (fun q => by rw [getD_set_ne (by decide)] at q; exact getD_set_eq), (kept_new hK _)⟩
      · have e5 := o5 (ready_dep hm 5 (by kernel_rfl))
        refine wpOp_step rfl (fun KK hK2 => ?_)
        go_simp
        exact hK2 (A.put (some 2) (.slice (some ⟨g, 0, none⟩) 2 2)) _ ⟨g, hFR.put (by decide) _, o0.past (by decide) (fun h => (put_ne (by decide)).trans h), o1.past (by decide) (fun h => (put_ne (by decide)).trans h), o2.past (by decide) (fun h => (put_ne (by decide)).trans h), o3.past (by decide) (fun h => (put_ne (by decide)).trans h), o4.past (by decide) (fun h => (put_ne (by decide)).trans h), o5.past (by decide) (fun h => (put_ne (by decide)).trans h), .now (put_eq (by have hz := hsz.out; omega)), ox.past (by decide) id, (fun _ => by rw [getD_set_ne (by decide)]; exact ready_dep hm 5 (by kernel_rfl)), hK⟩
      · simp at hi1
        omega
end Go.Proofs.YtlbnllhabdnjjaaDoor
namespace Go.Proofs.YtlbnllhabdnjjaaDoor
open Go.RowKit
set_option linter.unusedVariables false
def Pl.pdecOk (w v : Int) : Bool := Pl.wordOk w && Pl.inOk (Pl.decode w v)
def Pl.pdec (w v : Int) : Pl.In := if Pl.pdecOk w v = true then Pl.decode w v else Pl.inNo
def Pl.pdecN (w v : Int) : Int := if Pl.pdecOk w v = true then Pl.longW w else 0
theorem decWf {n v : Int} (h : Pl.wordOk n = true) (wfv : (Lit.int .i64 v).wf = true) : (Lit.int .i64 (Pl.decode n v).op).wf = true ∧ (Lit.int .i64 (Pl.decode n v).z).wf = true ∧ (Lit.int .i64 (Pl.decode n v).r).wf = true ∧ (Lit.int .i64 (Pl.decode n v).m).wf = true ∧ (Lit.int .i64 (Pl.decode n v).k).wf = true ∧ (Lit.int .i64 (Pl.decode n v).e).wf = true ∧ (Lit.int .i64 (Pl.decode n v).s).wf = true := by
  simp [Pl.wordOk, Pl.within] at h
  rw [Pl.decode_e]
  simp only [Pl.decode]
  refine ⟨wfSm (by omega) (by omega), wfSm (by omega) (by omega), wfSm (by omega) (by omega), wfSm (by omega) (by omega), wfSm (by omega) (by omega), ?_, wfSm (by omega) (by omega)⟩
  cases Pl.extM (n / 32 % 8)
  · exact wfSm (n := 0) (by decide) (by decide)
  · exact wfv
set_option maxRecDepth 20000 in
set_option maxHeartbeats 4000000 in
theorem pDecodeIns (w : World) (n v : Int) (wfn : (Lit.int .i64 n).wf = true) (wfv : (Lit.int .i64 v).wf = true) : Calls Tryd.prog 53 #[.int .i64 n, .int .i64 v] w fun e' w' => e' = .returned (.tuple #[.agg #[.int .i64 (Pl.pdec n v).op, .int .i64 (Pl.pdec n v).z, .int .i64 (Pl.pdec n v).r, .int .i64 (Pl.pdec n v).m, .int .i64 (Pl.pdec n v).k, .int .i64 (Pl.pdec n v).e, .int .i64 (Pl.pdec n v).s], .int .i64 (Pl.pdecN n v), .bool (Pl.pdecOk n v)]) ∧ Kept 0 0 w w' := by
  obtain ⟨lo, hi⟩ := wfB wfn
  have K0 := hide (kept_alloc w (.cells #[.int .i64 0, .int .i64 0, .int .i64 0, .int .i64 0, .int .i64 0, .int .i64 0, .int .i64 0] 36))
  have R0 := hide (Blk.new w #[.int .i64 0, .int .i64 0, .int .i64 0, .int .i64 0, .int .i64 0, .int .i64 0, .int .i64 0] 36)
  cases h : Pl.wordOk n
  · have G : Hid (Pl.pdecOk n v = false) := hide (by simp only [Pl.pdecOk, h]; rfl)
    go_enter Tryd.func53, Tryd.ntmps53
    go_wp2_with (go_at_call 63; refine (isWord _ _ lo hi).mono ?_; rintro e9 w9 ⟨rfl, hw⟩; have hw2 := hw.symm; clear hw; subst hw2; rw [h])
    refine bodyPost_ret (v := .tuple #[.agg #[.int .i64 0, .int .i64 0, .int .i64 0, .int .i64 0, .int .i64 0, .int .i64 0, .int .i64 0], .int .i64 0, .bool false]) ?_ rfl ⟨by simp [Pl.pdec, Pl.pdecN, G.out, Pl.inNo], ?_⟩
    · rw [results_ct2 rfl]; go_simp
    · exact K0.out
  · obtain ⟨n0, n1, wm, hl⟩ := decM (v := v) h
    have wx := decWf h wfv
    obtain ⟨x, hx⟩ : ∃ x, Pl.decode n v = x := ⟨_, rfl⟩
    rw [hx] at wm hl wx
    have HX := hide hx
    have HL := hide hl
    clear hx hl
    cases hg : Pl.inOk x
    · have G : Hid (Pl.pdecOk n v = false) := hide (by simp only [Pl.pdecOk, h, HX.out, hg]; rfl)
      go_enter Tryd.func53, Tryd.ntmps53
      go_wp2_with (first | (go_at_call 63; refine (isWord _ _ lo hi).mono ?_; rintro e9 w9 ⟨rfl, hw⟩; have hw2 := hw.symm; clear hw; subst hw2; rw [h]) | (go_at_call 60; refine (insOf _ n v n0 n1).mono ?_; rw [HX.out]; rintro e9 w2 ⟨rfl, k2⟩; have R2 := hide (R0.out.kept0 k2); have K2 := hide (K0.out.trans k2); have s2 := R2.out.lt; obtain ⟨y0, y1, y2, y3, y4, y5, y6⟩ := R2.out.c7; have fy0 := R2.out.frozen 0; have fy1 := R2.out.frozen 1; have fy2 := R2.out.frozen 2; have fy3 := R2.out.frozen 3; have fy4 := R2.out.frozen 4; have fy5 := R2.out.frozen 5; have fy6 := R2.out.frozen 6; clear k2) | (go_at_call 20; refine (implGoodIns _ x.op x.z x.r x.m x.k x.e x.s wx.1 wx.2.1 wx.2.2.1 wx.2.2.2.1 wx.2.2.2.2.1 wx.2.2.2.2.2.1 wx.2.2.2.2.2.2).mono ?_; rw [show Pl.inOk ⟨x.op, x.z, x.r, x.m, x.k, x.e, x.s⟩ = Pl.inOk x from rfl, hg]; rintro e9 w3 ⟨rfl, k3⟩; have R3 := hide ((R2.out.alloc _).kept0 k3); have X3 := hide ((Blk.new w2 #[.int .i64 x.op, .int .i64 x.z, .int .i64 x.r, .int .i64 x.m, .int .i64 x.k, .int .i64 x.e, .int .i64 x.s] 36).kept0 k3); have K3 := hide ((kept_new K2.out _).trans k3); have s3 := R3.out.lt; obtain ⟨q0, q1, q2, q3, q4, q5, q6⟩ := R3.out.c7; have fq0 := R3.out.frozen 0; have fq1 := R3.out.frozen 1; have fq2 := R3.out.frozen 2; have fq3 := R3.out.frozen 3; have fq4 := R3.out.frozen 4; have fq5 := R3.out.frozen 5; have fq6 := R3.out.frozen 6; clear k3))
      have s0 := R0.out.lt
      refine bodyPost_ret (v := .tuple #[.agg #[.int .i64 0, .int .i64 0, .int .i64 0, .int .i64 0, .int .i64 0, .int .i64 0, .int .i64 0], .int .i64 0, .bool false]) ?_ rfl ⟨by simp [Pl.pdec, Pl.pdecN, G.out, Pl.inNo], ?_⟩
      · rw [results_ct2 rfl]; go_simp
      · exact (kept_set (kept_set (kept_set (kept_set (kept_set (kept_set (kept_set K3.out _ _ _ (.inr (by omega))) _ _ _ (.inr (by omega))) _ _ _ (.inr (by omega))) _ _ _ (.inr (by omega))) _ _ _ (.inr (by omega))) _ _ _ (.inr (by omega))) _ _ _ (.inr (by omega)))
    · have G : Hid (Pl.pdecOk n v = true) := hide (by simp only [Pl.pdecOk, h, HX.out, hg]; rfl)
      have EX : Hid (Pl.pdec n v = x) := hide (by simp [Pl.pdec, G.out, HX.out])
      have EN : Hid (Pl.pdecN n v = Pl.longW n) := hide (by simp [Pl.pdecN, G.out])
      rw [EX.out, EN.out, G.out]
      obtain ⟨L, hL⟩ : ∃ L, Pl.longW n = L := ⟨_, rfl⟩
      rw [hL] at HL ⊢
      clear hL
      go_enter Tryd.func53, Tryd.ntmps53
      go_wp2_with (first | (go_at_call 63; refine (isWord _ _ lo hi).mono ?_; rintro e9 w9 ⟨rfl, hw⟩; have hw2 := hw.symm; clear hw; subst hw2; rw [h]) | (go_at_call 60; refine (insOf _ n v n0 n1).mono ?_; rw [HX.out]; rintro e9 w2 ⟨rfl, k2⟩; have R2 := hide (R0.out.kept0 k2); have K2 := hide (K0.out.trans k2); have s2 := R2.out.lt; obtain ⟨y0, y1, y2, y3, y4, y5, y6⟩ := R2.out.c7; have fy0 := R2.out.frozen 0; have fy1 := R2.out.frozen 1; have fy2 := R2.out.frozen 2; have fy3 := R2.out.frozen 3; have fy4 := R2.out.frozen 4; have fy5 := R2.out.frozen 5; have fy6 := R2.out.frozen 6; clear k2) | (go_at_call 20; refine (implGoodIns _ x.op x.z x.r x.m x.k x.e x.s wx.1 wx.2.1 wx.2.2.1 wx.2.2.2.1 wx.2.2.2.2.1 wx.2.2.2.2.2.1 wx.2.2.2.2.2.2).mono ?_; rw [show Pl.inOk ⟨x.op, x.z, x.r, x.m, x.k, x.e, x.s⟩ = Pl.inOk x from rfl, hg]; rintro e9 w3 ⟨rfl, k3⟩; have R3 := hide ((R2.out.alloc _).kept0 k3); have X3 := hide ((Blk.new w2 #[.int .i64 x.op, .int .i64 x.z, .int .i64 x.r, .int .i64 x.m, .int .i64 x.k, .int .i64 x.e, .int .i64 x.s] 36).kept0 k3); have K3 := hide ((kept_new K2.out _).trans k3); have s3 := R3.out.lt; clear k3))
      have hne : Hid (w.heap.size < w2.heap.size) := hide R2.out.lt
      refine wp_region_inv2 (fun A0 l A W => FR [19, 20, 21, 5, 6] A0 A ∧ Once l 0 (A.tmps[19]? = some (.agg #[.int .i64 x.op, .int .i64 x.z, .int .i64 x.r, .int .i64 x.m, .int .i64 x.k, .int .i64 x.e, .int .i64 x.s])) ∧ Once l 1 (A.tmps[20]? = some (.agg #[.int .i64 x.op, .int .i64 x.z, .int .i64 x.r, .int .i64 x.m, .int .i64 x.k, .int .i64 x.e, .int .i64 x.s])) ∧ Once l 2 (A.tmps[21]? = some (.int .i64 L)) ∧ Once l 3 (True) ∧ Once l 4 (A.tmps[5]? = some (.int .i64 L)) ∧ Once l 5 (A.tmps[6]? = some (.bool true)) ∧ Blk W w.heap.size (bif l.getD 3 true then #[.int .i64 x.op, .int .i64 x.z, .int .i64 x.r, .int .i64 x.m, .int .i64 x.k, .int .i64 x.e, .int .i64 x.s] else #[.int .i64 0, .int .i64 0, .int .i64 0, .int .i64 0, .int .i64 0, .int .i64 0, .int .i64 0]) 36 ∧ Blk W w2.heap.size #[.int .i64 x.op, .int .i64 x.z, .int .i64 x.r, .int .i64 x.m, .int .i64 x.k, .int .i64 x.e, .int .i64 x.s] 36 ∧ Kept 0 0 w W) (by kernel_rfl) (by kernel_rfl) ?start ?fin ?step
      case start => exact ⟨FR.refl _ _, once_start (by decide), once_start (by decide), once_start (by decide), once_start (by decide), once_start (by decide), once_start (by decide), (by rw [start_at (by decide)]; exact R3.out), X3.out, kept_drew K3.out⟩
      case fin =>
        intro l A W h hl
        obtain ⟨hFR, o0, o1, o2, o3, o4, o5, oR, oX, hK⟩ := h
        have g4 := o4 (hl 4 (by decide))
        have QR : Hid (Blk W w.heap.size #[.int .i64 x.op, .int .i64 x.z, .int .i64 x.r, .int .i64 x.m, .int .i64 x.k, .int .i64 x.e, .int .i64 x.s] 36) := hide (by rw [hl 3 (by decide)] at oR; exact oR)
        obtain ⟨q0, q1, q2, q3, q4, q5, q6⟩ := QR.out.c7
        have g5 := o5 (hl 5 (by decide))
        have QQ := hide hK
        have hc9 := hFR.chain
        simp only [List.foldl] at hc9
        rw [getD_of g4, getD_of g5] at hc9
        clear oR oX hl hK hFR g4 g5 o0 o1 o2 o3 o4 o5
        generalize A.tmps.getD 19 undef = s19 at hc9
        generalize A.tmps.getD 20 undef = s20 at hc9
        generalize A.tmps.getD 21 undef = s21 at hc9
        subst hc9
        go_simp
        go_wp2_with fail
        refine bodyPost_ret (v := .tuple #[.agg #[.int .i64 x.op, .int .i64 x.z, .int .i64 x.r, .int .i64 x.m, .int .i64 x.k, .int .i64 x.e, .int .i64 x.s], .int .i64 L, .bool true]) ?_ rfl ⟨rfl, QQ.out⟩
        rw [results_ct2 rfl]; go_simp
      case step =>
        intro l A W i hI hm
        obtain ⟨hFR, o0, o1, o2, o3, o4, o5, oR, oX, hK⟩ := hI
        obtain ⟨hi1, hi2⟩ := ready_new hm
        have hsz : Hid (21 < A.tmps.size) := hide (by rw [hFR.size]; simp)
        have m4 : A.tmps[4]? = some (.pointer (some ⟨w.heap.size, 0, none⟩)) := (hFR.out 4 (by decide)).trans rfl
        have m7 : A.tmps[7]? = some (.pointer (some ⟨w2.heap.size, 0, none⟩)) := (hFR.out 7 (by decide)).trans rfl
        rcases i with _ | _ | _ | _ | _ | _ | i
        · have OX := hide oX
          obtain ⟨x0, x1, x2, x3, x4, x5, x6⟩ := OX.out.c7
          refine wpOp_step rfl (fun KK hK2 => ?_)
          go_simp
          exact hK2 (A.put (some 19) (.agg #[.int .i64 x.op, .int .i64 x.z, .int .i64 x.r, .int .i64 x.m, .int .i64 x.k, .int .i64 x.e, .int .i64 x.s])) _ ⟨hFR.put (by decide) _, .now (put_eq (by have hz := hsz.out; omega)), o1.past (by decide) (fun h => (put_ne (by decide)).trans h), o2.past (by decide) (fun h => (put_ne (by decide)).trans h), o3.past (by decide) id, o4.past (by decide) (fun h => (put_ne (by decide)).trans h), o5.past (by decide) (fun h => (put_ne (by decide)).trans h), by rw [getD_set_ne (by decide)]; exact oR, oX, hK⟩
        · have OX := hide oX
          obtain ⟨x0, x1, x2, x3, x4, x5, x6⟩ := OX.out.c7
          refine wpOp_step rfl (fun KK hK2 => ?_)
          go_simp
          exact hK2 (A.put (some 20) (.agg #[.int .i64 x.op, .int .i64 x.z, .int .i64 x.r, .int .i64 x.m, .int .i64 x.k, .int .i64 x.e, .int .i64 x.s])) _ ⟨hFR.put (by decide) _, o0.past (by decide) (fun h => (put_ne (by decide)).trans h), .now (put_eq (by have hz := hsz.out; omega)), o2.past (by decide) (fun h => (put_ne (by decide)).trans h), o3.past (by decide) id, o4.past (by decide) (fun h => (put_ne (by decide)).trans h), o5.past (by decide) (fun h => (put_ne (by decide)).trans h), by rw [getD_set_ne (by decide)]; exact oR, oX, hK⟩
        · have e1 := o1 (ready_dep hm 1 (by kernel_rfl))
          refine wpOp_step rfl (fun KK hK2 => ?_)
          go_simp
          refine (lengthOf W x.op x.z x.r x.m x.k x.e x.s wm).mono ?_
          rw [HL.out]
          rintro r9 y ⟨rfl, kd⟩
          go_simp
          exact hK2 (A.put (some 21) (.int .i64 L)) _ ⟨hFR.put (by decide) _, o0.past (by decide) (fun h => (put_ne (by decide)).trans h), o1.past (by decide) (fun h => (put_ne (by decide)).trans h), .now (put_eq (by have hz := hsz.out; omega)), o3.past (by decide) id, o4.past (by decide) (fun h => (put_ne (by decide)).trans h), o5.past (by decide) (fun h => (put_ne (by decide)).trans h), by rw [getD_set_ne (by decide)]; exact oR.kept0 kd, oX.kept0 kd, (hK.trans kd)⟩
        · have e0 := o0 (ready_dep hm 0 (by kernel_rfl))
          have oR2 : Blk W w.heap.size #[.int .i64 0, .int .i64 0, .int .i64 0, .int .i64 0, .int .i64 0, .int .i64 0, .int .i64 0] 36 := by rw [hi2] at oR; exact oR
          have OR := hide oR2
          obtain ⟨q0, q1, q2, q3, q4, q5, q6⟩ := OR.out.c7
          have fq0 := OR.out.frozen 0; have fq1 := OR.out.frozen 1; have fq2 := OR.out.frozen 2; have fq3 := OR.out.frozen 3; have fq4 := OR.out.frozen 4; have fq5 := OR.out.frozen 5; have fq6 := OR.out.frozen 6
          have nh : w2.heap.size ≠ w.heap.size := by have := hne.out; omega
          refine wpOp_step rfl (fun KK hK2 => ?_)
          go_simp
          exact hK2 A _ ⟨hFR, o0.past (by decide) id, o1.past (by decide) id, o2.past (by decide) id, .now trivial, o4.past (by decide) id, o5.past (by decide) id, by rw [getD_set_eq]; exact (((((((oR2.set 0 (.int .i64 x.op)).set 1 (.int .i64 x.z)).set 2 (.int .i64 x.r)).set 3 (.int .i64 x.m)).set 4 (.int .i64 x.k)).set 5 (.int .i64 x.e)).set 6 (.int .i64 x.s)), (((((((oX.other w.heap.size 0 (.int .i64 x.op) nh).other w.heap.size 1 (.int .i64 x.z) nh).other w.heap.size 2 (.int .i64 x.r) nh).other w.heap.size 3 (.int .i64 x.m) nh).other w.heap.size 4 (.int .i64 x.k) nh).other w.heap.size 5 (.int .i64 x.e) nh).other w.heap.size 6 (.int .i64 x.s) nh), (kept_set (kept_set (kept_set (kept_set (kept_set (kept_set (kept_set hK _ _ _ (.inr (by omega))) _ _ _ (.inr (by omega))) _ _ _ (.inr (by omega))) _ _ _ (.inr (by omega))) _ _ _ (.inr (by omega))) _ _ _ (.inr (by omega))) _ _ _ (.inr (by omega)))⟩
        · have e2 := o2 (ready_dep hm 2 (by kernel_rfl))
          refine wpOp_step rfl (fun KK hK2 => ?_)
          go_simp
          exact hK2 (A.put (some 5) (.int .i64 L)) _ ⟨hFR.put (by decide) _, o0.past (by decide) (fun h => (put_ne (by decide)).trans h), o1.past (by decide) (fun h => (put_ne (by decide)).trans h), o2.past (by decide) (fun h => (put_ne (by decide)).trans h), o3.past (by decide) id, .now (put_eq (by have hz := hsz.out; omega)), o5.past (by decide) (fun h => (put_ne (by decide)).trans h), by rw [getD_set_ne (by decide)]; exact oR, oX, hK⟩
        · refine wpOp_step rfl (fun KK hK2 => ?_)
          go_simp
          exact hK2 (A.put (some 6) (.bool true)) _ ⟨hFR.put (by decide) _, o0.past (by decide) (fun h => (put_ne (by decide)).trans h), o1.past (by decide) (fun h => (put_ne (by decide)).trans h), o2.past (by decide) (fun h => (put_ne (by decide)).trans h), o3.past (by decide) id, o4.past (by decide) (fun h => (put_ne (by decide)).trans h), .now (put_eq (by have hz := hsz.out; omega)), by rw [getD_set_ne (by decide)]; exact oR, oX, hK⟩
        · simp at hi1
          omega
end Go.Proofs.YtlbnllhabdnjjaaDoor
