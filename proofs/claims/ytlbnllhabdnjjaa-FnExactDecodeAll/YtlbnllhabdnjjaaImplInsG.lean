/- What the program's DecodeIns answers, for every argument: the second number is looked at only where the first word asks for it. -/
import Derived.Test.YtlbnllhabdnjjaaImplInsF
namespace Go.Proofs.Ytlbnllhabdnjjaa
open Go.RowKit
set_option linter.unusedVariables false
def Pl.pdecOk (w v : Int) : Bool := Pl.wordOk w && Pl.inOk (Pl.decode w v)
def Pl.pdec (w v : Int) : Pl.In := if Pl.pdecOk w v = true then Pl.decode w v else Pl.inNo
def Pl.pdecN (w v : Int) : Int := if Pl.pdecOk w v = true then Pl.longW w else 0
theorem decWf {n v : Int} (h : Pl.wordOk n = true) (wfv : (Lit.int .i64 v).wf = true) : (Lit.int .i64 (Pl.decode n v).op).wf = true ∧ (Lit.int .i64 (Pl.decode n v).z).wf = true ∧ (Lit.int .i64 (Pl.decode n v).r).wf = true ∧ (Lit.int .i64 (Pl.decode n v).m).wf = true ∧ (Lit.int .i64 (Pl.decode n v).k).wf = true ∧ (Lit.int .i64 (Pl.decode n v).e).wf = true ∧ (Lit.int .i64 (Pl.decode n v).s).wf = true := by
  simp [Pl.wordOk, Pl.within] at h
  rw [Pl.decode_e]
  simp only [Pl.decode]
  refine ⟨wfSm (by omega) (by omega), wfSm (by omega) (by omega), wfSm (by omega) (by omega), wfSm (by omega) (by omega), wfSm (by omega) (by omega), ?_, wfSm (by omega) (by omega)⟩
  cases Pl.extM (n / 32 % 8)
  · exact wfSm (n := 0) (by decide) (by decide)
  · exact wfv
set_option maxRecDepth 20000 in
set_option maxHeartbeats 4000000 in
theorem pDecodeIns (w : World) (n v : Int) (wfn : (Lit.int .i64 n).wf = true) (wfv : (Lit.int .i64 v).wf = true) : Calls Try.prog 19 #[.int .i64 n, .int .i64 v] w fun e' w' => e' = .returned (.tuple #[.agg #[.int .i64 (Pl.pdec n v).op, .int .i64 (Pl.pdec n v).z, .int .i64 (Pl.pdec n v).r, .int .i64 (Pl.pdec n v).m, .int .i64 (Pl.pdec n v).k, .int .i64 (Pl.pdec n v).e, .int .i64 (Pl.pdec n v).s], .int .i64 (Pl.pdecN n v), .bool (Pl.pdecOk n v)]) ∧ Kept 0 0 w w' := by
  obtain ⟨lo, hi⟩ := wfB wfn
  have K0 := hide (kept_alloc w (.cells #[.int .i64 0, .int .i64 0, .int .i64 0, .int .i64 0, .int .i64 0, .int .i64 0, .int .i64 0] 29))
  have R0 := hide (Blk.new w #[.int .i64 0, .int .i64 0, .int .i64 0, .int .i64 0, .int .i64 0, .int .i64 0, .int .i64 0] 29)
  cases h : Pl.wordOk n
  · have G : Hid (Pl.pdecOk n v = false) := hide (by simp only [Pl.pdecOk, h]; rfl)
    go_enter Try.func19, Try.ntmps19
    go_wp2_with (go_at_call 52; refine (isWord _ _ lo hi).mono ?_; rintro e9 w9 ⟨rfl, hw⟩; have hw2 := hw.symm; clear hw; subst hw2; rw [h])
    refine bodyPost_ret (v := .tuple #[.agg #[.int .i64 0, .int .i64 0, .int .i64 0, .int .i64 0, .int .i64 0, .int .i64 0, .int .i64 0], .int .i64 0, .bool false]) ?_ rfl ⟨by simp [Pl.pdec, Pl.pdecN, G.out, Pl.inNo], ?_⟩
    · rw [results_ct2 rfl]; go_simp
    · exact K0.out
  · obtain ⟨n0, n1, wm, hl⟩ := decM (v := v) h
    have wx := decWf h wfv
    obtain ⟨x, hx⟩ : ∃ x, Pl.decode n v = x := ⟨_, rfl⟩
    rw [hx] at wm hl wx
    have HX := hide hx
    have HL := hide hl
    clear hx hl
    cases hg : Pl.inOk x
    · have G : Hid (Pl.pdecOk n v = false) := hide (by simp only [Pl.pdecOk, h, HX.out, hg]; rfl)
      go_enter Try.func19, Try.ntmps19
      go_wp2_with (first | (go_at_call 52; refine (isWord _ _ lo hi).mono ?_; rintro e9 w9 ⟨rfl, hw⟩; have hw2 := hw.symm; clear hw; subst hw2; rw [h]) | (go_at_call 53; refine (insOf _ n v n0 n1).mono ?_; rw [HX.out]; rintro e9 w2 ⟨rfl, k2⟩; have R2 := hide (R0.out.kept0 k2); have K2 := hide (K0.out.trans k2); have s2 := R2.out.lt; obtain ⟨y0, y1, y2, y3, y4, y5, y6⟩ := R2.out.c7; have fy0 := R2.out.frozen 0; have fy1 := R2.out.frozen 1; have fy2 := R2.out.frozen 2; have fy3 := R2.out.frozen 3; have fy4 := R2.out.frozen 4; have fy5 := R2.out.frozen 5; have fy6 := R2.out.frozen 6; clear k2) | (go_at_call 12; refine (implGoodIns _ x.op x.z x.r x.m x.k x.e x.s wx.1 wx.2.1 wx.2.2.1 wx.2.2.2.1 wx.2.2.2.2.1 wx.2.2.2.2.2.1 wx.2.2.2.2.2.2).mono ?_; rw [show Pl.inOk ⟨x.op, x.z, x.r, x.m, x.k, x.e, x.s⟩ = Pl.inOk x from rfl, hg]; rintro e9 w3 ⟨rfl, k3⟩; have R3 := hide ((R2.out.alloc _).kept0 k3); have X3 := hide ((Blk.new w2 #[.int .i64 x.op, .int .i64 x.z, .int .i64 x.r, .int .i64 x.m, .int .i64 x.k, .int .i64 x.e, .int .i64 x.s] 29).kept0 k3); have K3 := hide ((kept_new K2.out _).trans k3); have s3 := R3.out.lt; obtain ⟨q0, q1, q2, q3, q4, q5, q6⟩ := R3.out.c7; have fq0 := R3.out.frozen 0; have fq1 := R3.out.frozen 1; have fq2 := R3.out.frozen 2; have fq3 := R3.out.frozen 3; have fq4 := R3.out.frozen 4; have fq5 := R3.out.frozen 5; have fq6 := R3.out.frozen 6; clear k3))
      have s0 := R0.out.lt
      refine bodyPost_ret (v := .tuple #[.agg #[.int .i64 0, .int .i64 0, .int .i64 0, .int .i64 0, .int .i64 0, .int .i64 0, .int .i64 0], .int .i64 0, .bool false]) ?_ rfl ⟨by simp [Pl.pdec, Pl.pdecN, G.out, Pl.inNo], ?_⟩
      · rw [results_ct2 rfl]; go_simp
      · exact (kept_set (kept_set (kept_set (kept_set (kept_set (kept_set (kept_set K3.out _ _ _ (.inr (by omega))) _ _ _ (.inr (by omega))) _ _ _ (.inr (by omega))) _ _ _ (.inr (by omega))) _ _ _ (.inr (by omega))) _ _ _ (.inr (by omega))) _ _ _ (.inr (by omega)))
    · have G : Hid (Pl.pdecOk n v = true) := hide (by simp only [Pl.pdecOk, h, HX.out, hg]; rfl)
      have EX : Hid (Pl.pdec n v = x) := hide (by simp [Pl.pdec, G.out, HX.out])
      have EN : Hid (Pl.pdecN n v = Pl.longW n) := hide (by simp [Pl.pdecN, G.out])
      rw [EX.out, EN.out, G.out]
      obtain ⟨L, hL⟩ : ∃ L, Pl.longW n = L := ⟨_, rfl⟩
      rw [hL] at HL ⊢
      clear hL
      go_enter Try.func19, Try.ntmps19
      go_wp2_with (first | (go_at_call 52; refine (isWord _ _ lo hi).mono ?_; rintro e9 w9 ⟨rfl, hw⟩; have hw2 := hw.symm; clear hw; subst hw2; rw [h]) | (go_at_call 53; refine (insOf _ n v n0 n1).mono ?_; rw [HX.out]; rintro e9 w2 ⟨rfl, k2⟩; have R2 := hide (R0.out.kept0 k2); have K2 := hide (K0.out.trans k2); have s2 := R2.out.lt; obtain ⟨y0, y1, y2, y3, y4, y5, y6⟩ := R2.out.c7; have fy0 := R2.out.frozen 0; have fy1 := R2.out.frozen 1; have fy2 := R2.out.frozen 2; have fy3 := R2.out.frozen 3; have fy4 := R2.out.frozen 4; have fy5 := R2.out.frozen 5; have fy6 := R2.out.frozen 6; clear k2) | (go_at_call 12; refine (implGoodIns _ x.op x.z x.r x.m x.k x.e x.s wx.1 wx.2.1 wx.2.2.1 wx.2.2.2.1 wx.2.2.2.2.1 wx.2.2.2.2.2.1 wx.2.2.2.2.2.2).mono ?_; rw [show Pl.inOk ⟨x.op, x.z, x.r, x.m, x.k, x.e, x.s⟩ = Pl.inOk x from rfl, hg]; rintro e9 w3 ⟨rfl, k3⟩; have R3 := hide ((R2.out.alloc _).kept0 k3); have X3 := hide ((Blk.new w2 #[.int .i64 x.op, .int .i64 x.z, .int .i64 x.r, .int .i64 x.m, .int .i64 x.k, .int .i64 x.e, .int .i64 x.s] 29).kept0 k3); have K3 := hide ((kept_new K2.out _).trans k3); have s3 := R3.out.lt; clear k3))
      have hne : Hid (w.heap.size < w2.heap.size) := hide R2.out.lt
      refine wp_region_inv2 (fun A0 l A W => FR [19, 20, 21, 5, 6] A0 A ∧ Once l 0 (A.tmps[19]? = some (.agg #[.int .i64 x.op, .int .i64 x.z, .int .i64 x.r, .int .i64 x.m, .int .i64 x.k, .int .i64 x.e, .int .i64 x.s])) ∧ Once l 1 (A.tmps[20]? = some (.agg #[.int .i64 x.op, .int .i64 x.z, .int .i64 x.r, .int .i64 x.m, .int .i64 x.k, .int .i64 x.e, .int .i64 x.s])) ∧ Once l 2 (A.tmps[21]? = some (.int .i64 L)) ∧ Once l 3 (True) ∧ Once l 4 (A.tmps[5]? = some (.int .i64 L)) ∧ Once l 5 (A.tmps[6]? = some (.bool true)) ∧ Blk W w.heap.size (bif l.getD 3 true then #[.int .i64 x.op, .int .i64 x.z, .int .i64 x.r, .int .i64 x.m, .int .i64 x.k, .int .i64 x.e, .int .i64 x.s] else #[.int .i64 0, .int .i64 0, .int .i64 0, .int .i64 0, .int .i64 0, .int .i64 0, .int .i64 0]) 29 ∧ Blk W w2.heap.size #[.int .i64 x.op, .int .i64 x.z, .int .i64 x.r, .int .i64 x.m, .int .i64 x.k, .int .i64 x.e, .int .i64 x.s] 29 ∧ Kept 0 0 w W) (by kernel_rfl) (by kernel_rfl) ?start ?fin ?step
      case start => exact ⟨FR.refl _ _, once_start (by decide), once_start (by decide), once_start (by decide), once_start (by decide), once_start (by decide), once_start (by decide), (by rw [start_at (by decide)]; exact R3.out), X3.out, kept_drew K3.out⟩
      case fin =>
        intro l A W h hl
        obtain ⟨hFR, o0, o1, o2, o3, o4, o5, oR, oX, hK⟩ := h
        have g4 := o4 (hl 4 (by decide))
        have QR : Hid (Blk W w.heap.size #[.int .i64 x.op, .int .i64 x.z, .int .i64 x.r, .int .i64 x.m, .int .i64 x.k, .int .i64 x.e, .int .i64 x.s] 29) := hide (by rw [hl 3 (by decide)] at oR; exact oR)
        obtain ⟨q0, q1, q2, q3, q4, q5, q6⟩ := QR.out.c7
        have g5 := o5 (hl 5 (by decide))
        have QQ := hide hK
        have hc9 := hFR.chain
        simp only [List.foldl] at hc9
        rw [getD_of g4, getD_of g5] at hc9
        clear oR oX hl hK hFR g4 g5 o0 o1 o2 o3 o4 o5
        generalize A.tmps.getD 19 undef = s19 at hc9
        generalize A.tmps.getD 20 undef = s20 at hc9
        generalize A.tmps.getD 21 undef = s21 at hc9
        subst hc9
        go_simp
        go_wp2_with fail
        refine bodyPost_ret (v := .tuple #[.agg #[.int .i64 x.op, .int .i64 x.z, .int .i64 x.r, .int .i64 x.m, .int .i64 x.k, .int .i64 x.e, .int .i64 x.s], .int .i64 L, .bool true]) ?_ rfl ⟨rfl, QQ.out⟩
        rw [results_ct2 rfl]; go_simp
      case step =>
        intro l A W i hI hm
        obtain ⟨hFR, o0, o1, o2, o3, o4, o5, oR, oX, hK⟩ := hI
        obtain ⟨hi1, hi2⟩ := ready_new hm
        have hsz : Hid (21 < A.tmps.size) := hide (by rw [hFR.size]; simp)
        have m4 : A.tmps[4]? = some (.pointer (some ⟨w.heap.size, 0, none⟩)) := (hFR.out 4 (by decide)).trans rfl
        have m7 : A.tmps[7]? = some (.pointer (some ⟨w2.heap.size, 0, none⟩)) := (hFR.out 7 (by decide)).trans rfl
        rcases i with _ | _ | _ | _ | _ | _ | i
        · have OX := hide oX
          obtain ⟨x0, x1, x2, x3, x4, x5, x6⟩ := OX.out.c7
          refine wpOp_step rfl (fun KK hK2 => ?_)
          go_simp
          exact hK2 (A.put (some 19) (.agg #[.int .i64 x.op, .int .i64 x.z, .int .i64 x.r, .int .i64 x.m, .int .i64 x.k, .int .i64 x.e, .int .i64 x.s])) _ ⟨hFR.put (by decide) _, .now (put_eq (by have hz := hsz.out; omega)), o1.past (by decide) (fun h => (put_ne (by decide)).trans h), o2.past (by decide) (fun h => (put_ne (by decide)).trans h), o3.past (by decide) id, o4.past (by decide) (fun h => (put_ne (by decide)).trans h), o5.past (by decide) (fun h => (put_ne (by decide)).trans h), by rw [getD_set_ne (by decide)]; exact oR, oX, hK⟩
        · have OX := hide oX
          obtain ⟨x0, x1, x2, x3, x4, x5, x6⟩ := OX.out.c7
          refine wpOp_step rfl (fun KK hK2 => ?_)
          go_simp
          exact hK2 (A.put (some 20) (.agg #[.int .i64 x.op, .int .i64 x.z, .int .i64 x.r, .int .i64 x.m, .int .i64 x.k, .int .i64 x.e, .int .i64 x.s])) _ ⟨hFR.put (by decide) _, o0.past (by decide) (fun h => (put_ne (by decide)).trans h), .now (put_eq (by have hz := hsz.out; omega)), o2.past (by decide) (fun h => (put_ne (by decide)).trans h), o3.past (by decide) id, o4.past (by decide) (fun h => (put_ne (by decide)).trans h), o5.past (by decide) (fun h => (put_ne (by decide)).trans h), by rw [getD_set_ne (by decide)]; exact oR, oX, hK⟩
        · have e1 := o1 (ready_dep hm 1 (by kernel_rfl))
          refine wpOp_step rfl (fun KK hK2 => ?_)
          go_simp
          refine (lengthOf W x.op x.z x.r x.m x.k x.e x.s wm).mono ?_
          rw [HL.out]
          rintro r9 y ⟨rfl, kd⟩
          go_simp
          exact hK2 (A.put (some 21) (.int .i64 L)) _ ⟨hFR.put (by decide) _, o0.past (by decide) (fun h => (put_ne (by decide)).trans h), o1.past (by decide) (fun h => (put_ne (by decide)).trans h), .now (put_eq (by have hz := hsz.out; omega)), o3.past (by decide) id, o4.past (by decide) (fun h => (put_ne (by decide)).trans h), o5.past (by decide) (fun h => (put_ne (by decide)).trans h), by rw [getD_set_ne (by decide)]; exact oR.kept0 kd, oX.kept0 kd, (hK.trans kd)⟩
        · have e0 := o0 (ready_dep hm 0 (by kernel_rfl))
          have oR2 : Blk W w.heap.size #[.int .i64 0, .int .i64 0, .int .i64 0, .int .i64 0, .int .i64 0, .int .i64 0, .int .i64 0] 29 := by rw [hi2] at oR; exact oR
          have OR := hide oR2
          obtain ⟨q0, q1, q2, q3, q4, q5, q6⟩ := OR.out.c7
          have fq0 := OR.out.frozen 0; have fq1 := OR.out.frozen 1; have fq2 := OR.out.frozen 2; have fq3 := OR.out.frozen 3; have fq4 := OR.out.frozen 4; have fq5 := OR.out.frozen 5; have fq6 := OR.out.frozen 6
          have nh : w2.heap.size ≠ w.heap.size := by have := hne.out; omega
          refine wpOp_step rfl (fun KK hK2 => ?_)
          go_simp
          exact hK2 A _ ⟨hFR, o0.past (by decide) id, o1.past (by decide) id, o2.past (by decide) id, .now trivial, o4.past (by decide) id, o5.past (by decide) id, by rw [getD_set_eq]; exact (((((((oR2.set 0 (.int .i64 x.op)).set 1 (.int .i64 x.z)).set 2 (.int .i64 x.r)).set 3 (.int .i64 x.m)).set 4 (.int .i64 x.k)).set 5 (.int .i64 x.e)).set 6 (.int .i64 x.s)), (((((((oX.other w.heap.size 0 (.int .i64 x.op) nh).other w.heap.size 1 (.int .i64 x.z) nh).other w.heap.size 2 (.int .i64 x.r) nh).other w.heap.size 3 (.int .i64 x.m) nh).other w.heap.size 4 (.int .i64 x.k) nh).other w.heap.size 5 (.int .i64 x.e) nh).other w.heap.size 6 (.int .i64 x.s) nh), (kept_set (kept_set (kept_set (kept_set (kept_set (kept_set (kept_set hK _ _ _ (.inr (by omega))) _ _ _ (.inr (by omega))) _ _ _ (.inr (by omega))) _ _ _ (.inr (by omega))) _ _ _ (.inr (by omega))) _ _ _ (.inr (by omega))) _ _ _ (.inr (by omega)))⟩
        · have e2 := o2 (ready_dep hm 2 (by kernel_rfl))
          refine wpOp_step rfl (fun KK hK2 => ?_)
          go_simp
          exact hK2 (A.put (some 5) (.int .i64 L)) _ ⟨hFR.put (by decide) _, o0.past (by decide) (fun h => (put_ne (by decide)).trans h), o1.past (by decide) (fun h => (put_ne (by decide)).trans h), o2.past (by decide) (fun h => (put_ne (by decide)).trans h), o3.past (by decide) id, .now (put_eq (by have hz := hsz.out; omega)), o5.past (by decide) (fun h => (put_ne (by decide)).trans h), by rw [getD_set_ne (by decide)]; exact oR, oX, hK⟩
        · refine wpOp_step rfl (fun KK hK2 => ?_)
          go_simp
          exact hK2 (A.put (some 6) (.bool true)) _ ⟨hFR.put (by decide) _, o0.past (by decide) (fun h => (put_ne (by decide)).trans h), o1.past (by decide) (fun h => (put_ne (by decide)).trans h), o2.past (by decide) (fun h => (put_ne (by decide)).trans h), o3.past (by decide) id, o4.past (by decide) (fun h => (put_ne (by decide)).trans h), .now (put_eq (by have hz := hsz.out; omega)), by rw [getD_set_ne (by decide)]; exact oR, oX, hK⟩
        · simp at hi1
          omega
end Go.Proofs.Ytlbnllhabdnjjaa
