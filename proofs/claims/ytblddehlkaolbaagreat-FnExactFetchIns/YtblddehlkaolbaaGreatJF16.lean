/- What the program's GoodIns answers, for every argument. The program's row of privileged instructions, a map whose keys are structs: what is put in is found, in whatever order it was put. What the program's IsPrivileged, LongIns and EncodeIns answer, for every argument. What the program's DecodeIns answers, for every argument: the second number is looked at only where the first word asks for it. What the program's fetch answers, of a processor that is worked on. What the program's GoodCpu answers, for every processor. What the program's FetchIns answers, for every processor. -/
import Derived.Test.YtblddehlkaolbaaGreatJF15
import Derived.Test.YtblddehlkaolbaaGreatJF13
import Derived.Test.YtblddehlkaolbaaGreatJF14
import Derived.Carry
import Derived.MapKept
import Derived.Test.YtblddehlkaolbaaGreatJF4
import Derived.ScopeJumps
import Derived.WalkMore
import Derived.Test.YtblddehlkaolbaaGreatJF12
import Derived.Test.YtblddehlkaolbaaGreatJF2
namespace Go.Proofs.YtblddehlkaolbaaGreat
open Go.RowKit
set_option linter.unusedVariables false
theorem implGoodIns (w : World) (op z r m k e s : Int) (wfop : (Lit.int .i64 op).wf = true) (wfz : (Lit.int .i64 z).wf = true) (wfr : (Lit.int .i64 r).wf = true) (wfm : (Lit.int .i64 m).wf = true) (wfk : (Lit.int .i64 k).wf = true) (wfe : (Lit.int .i64 e).wf = true) (wfs : (Lit.int .i64 s).wf = true) : Calls Tryz.prog 73 #[.agg #[.int .i64 op, .int .i64 z, .int .i64 r, .int .i64 m, .int .i64 k, .int .i64 e, .int .i64 s]] w fun r' w' => r' = .returned (.bool (Pl.inOk ⟨op, z, r, m, k, e, s⟩)) ∧ Kept 0 0 w w' := by
  have K0 := hide (kept_alloc w (.cells #[.int .i64 op, .int .i64 z, .int .i64 r, .int .i64 m, .int .i64 k, .int .i64 e, .int .i64 s] 34))
  have B0 := hide (Blk.new w #[.int .i64 op, .int .i64 z, .int .i64 r, .int .i64 m, .int .i64 k, .int .i64 e, .int .i64 s] 34)
  rw [Pl.ok_of_fits]
  simp only
  cases h1 : Pl.fits ⟨op, z, r, m, k, e, s⟩
  · go_enter Tryz.func73, Tryz.ntmps73
    go_wp2_with (go_at_call 85; refine (fitsWords _ op z r m k e s).mono ?_; rw [h1]; rintro e9 w1 ⟨rfl, k1⟩)
    go_ret
    exact ⟨rB (by simp), K0.out.trans k1⟩
  · have h0 : 0 ≤ s := ((Pl.fits_iff _).1 h1).2.2.2.2.2.1.1
    cases h2 : Pl.opOk m k e
    · go_enter Tryz.func73, Tryz.ntmps73
      go_wp2_with (first | (go_at_call 85; refine (fitsWords _ op z r m k e s).mono ?_; rw [h1]; rintro e9 w1 ⟨rfl, k1⟩; have B1 := hide (B0.out.kept0 k1); have K1 := hide (K0.out.trans k1); obtain ⟨b0, b1, b2, b3, b4, b5, b6⟩ := B1.out.c7; clear k1) | (go_at_call 86; refine (implGoodOperand _ m k e wfm wfk wfe).mono ?_; rw [h2]; rintro e9 w2 ⟨rfl, k2⟩; have B2 := hide (B1.out.kept0 k2); have K2 := hide (K1.out.trans k2); obtain ⟨c0, c1, c2, c3, c4, c5, c6⟩ := B2.out.c7; clear k2))
      go_ret
      exact ⟨rB (by simp), K2.out⟩
    · cases h3 : Pl.fitZ ⟨op, z, r, m, k, e, s⟩
      · go_enter Tryz.func73, Tryz.ntmps73
        go_wp2_with (first | (go_at_call 85; refine (fitsWords _ op z r m k e s).mono ?_; rw [h1]; rintro e9 w1 ⟨rfl, k1⟩; have B1 := hide (B0.out.kept0 k1); have K1 := hide (K0.out.trans k1); obtain ⟨b0, b1, b2, b3, b4, b5, b6⟩ := B1.out.c7; clear k1) | (go_at_call 86; refine (implGoodOperand _ m k e wfm wfk wfe).mono ?_; rw [h2]; rintro e9 w2 ⟨rfl, k2⟩; have B2 := hide (B1.out.kept0 k2); have K2 := hide (K1.out.trans k2); obtain ⟨c0, c1, c2, c3, c4, c5, c6⟩ := B2.out.c7; clear k2) | (go_at_call 87; refine (fitsSize _ op z r m k e s wfe).mono ?_; rw [h3]; rintro e9 w3 ⟨rfl, k3⟩; have B3 := hide (B2.out.kept0 k3); have K3 := hide (K2.out.trans k3); obtain ⟨d0, d1, d2, d3, d4, d5, d6⟩ := B3.out.c7; clear k3))
        go_ret
        exact ⟨rB (by simp), K3.out⟩
      · go_enter Tryz.func73, Tryz.ntmps73
        go_wp2_with (first | (go_at_call 85; refine (fitsWords _ op z r m k e s).mono ?_; rw [h1]; rintro e9 w1 ⟨rfl, k1⟩; have B1 := hide (B0.out.kept0 k1); have K1 := hide (K0.out.trans k1); obtain ⟨b0, b1, b2, b3, b4, b5, b6⟩ := B1.out.c7; clear k1) | (go_at_call 86; refine (implGoodOperand _ m k e wfm wfk wfe).mono ?_; rw [h2]; rintro e9 w2 ⟨rfl, k2⟩; have B2 := hide (B1.out.kept0 k2); have K2 := hide (K1.out.trans k2); obtain ⟨c0, c1, c2, c3, c4, c5, c6⟩ := B2.out.c7; clear k2) | (go_at_call 87; refine (fitsSize _ op z r m k e s wfe).mono ?_; rw [h3]; rintro e9 w3 ⟨rfl, k3⟩; have B3 := hide (B2.out.kept0 k3); have K3 := hide (K2.out.trans k3); obtain ⟨d0, d1, d2, d3, d4, d5, d6⟩ := B3.out.c7; clear k3) | (go_at_call 88; refine (fitsOp _ op z r m k e s h0).mono ?_; rintro e9 w4 ⟨rfl, k4⟩; have B4 := hide (B3.out.kept0 k4); have K4 := hide (K3.out.trans k4); clear k4))
        go_ret
        exact ⟨rB (by simp), K4.out⟩
end Go.Proofs.YtblddehlkaolbaaGreat

namespace Go.Proofs.YtblddehlkaolbaaGreat
open Go.RowKit
set_option linter.unusedVariables false
/-- a key, and the entries of a row of keys -/
def kv (p : Int × Int) : Value := .agg #[.int .i64 p.1, .int .i64 p.2]
end Go.Proofs.YtblddehlkaolbaaGreat

namespace Go.Proofs.YtblddehlkaolbaaGreat
open Go.RowKit
set_option linter.unusedVariables false
theorem decM {n v : Int} (h : Pl.wordOk n = true) : 0 ≤ n ∧ n ≤ 65535 ∧ (Lit.int .i64 (Pl.decode n v).m).wf = true ∧ (if Pl.lng (Pl.decode n v).m = true then (2 : Int) else 1) = Pl.longW n := by
  simp [Pl.wordOk, Pl.within] at h
  refine ⟨h.1, h.2, wfSm ?_ ?_, ?_⟩
  · show -1 ≤ n / 32 % 8; omega
  · show n / 32 % 8 ≤ 65536; omega
  · show (if Pl.lng (n / 32 % 8) = true then (2 : Int) else 1) = _
    unfold Pl.lng Pl.longW
    rw [show Pl.modeOk (n / 32 % 8) = true from by simp [Pl.modeOk, Pl.within]; omega]
    rfl
theorem implLongIns (w : World) (n : Int) (wfn : (Lit.int .i64 n).wf = true) : Calls Tryz.prog 43 #[.int .i64 n] w fun e' w' => e' = .returned (.tuple #[.int .i64 (if Pl.wordOk n = true then Pl.longW n else 0), .bool (Pl.wordOk n)]) ∧ Kept 0 0 w w' := by
  obtain ⟨lo, hi⟩ := wfB wfn
  cases h : Pl.wordOk n
  · go_enter Tryz.func43, Tryz.ntmps43
    go_wp2_with (go_at_call 65; refine (isWord _ _ lo hi).mono ?_; rintro e9 w9 ⟨rfl, hw⟩; have hw2 := hw.symm; clear hw; subst hw2; rw [h])
    go_ret2
    exact ⟨rfl, Kept.refl _ _ _⟩
  · obtain ⟨n0, n1, wm, hl⟩ := decM (v := 0) h
    obtain ⟨x, hx⟩ : ∃ x, Pl.decode n 0 = x := ⟨_, rfl⟩
    rw [hx] at wm hl
    have HX := hide hx
    have HL := hide hl
    clear hx hl
    go_enter Tryz.func43, Tryz.ntmps43
    go_wp2_with (first | (go_at_call 65; refine (isWord _ _ lo hi).mono ?_; rintro e9 w9 ⟨rfl, hw⟩; have hw2 := hw.symm; clear hw; subst hw2; rw [h]) | (go_at_call 72; refine (insOf _ n 0 n0 n1).mono ?_; rw [HX.out]; rintro e9 w2 ⟨rfl, k2⟩) | (go_at_call 71; refine (lengthOf _ _ _ _ _ _ _ _ wm).mono ?_; rw [HL.out]; rintro e9 w3 ⟨rfl, k3⟩))
    go_ret2
    exact ⟨rfl, k2.trans k3⟩
end Go.Proofs.YtblddehlkaolbaaGreat

namespace Go.Proofs.YtblddehlkaolbaaGreat
open Go.RowKit
set_option linter.unusedVariables false
def Pl.pdecOk (w v : Int) : Bool := Pl.wordOk w && Pl.inOk (Pl.decode w v)
def Pl.pdec (w v : Int) : Pl.In := if Pl.pdecOk w v = true then Pl.decode w v else Pl.inNo
def Pl.pdecN (w v : Int) : Int := if Pl.pdecOk w v = true then Pl.longW w else 0
theorem decWf {n v : Int} (h : Pl.wordOk n = true) (wfv : (Lit.int .i64 v).wf = true) : (Lit.int .i64 (Pl.decode n v).op).wf = true ∧ (Lit.int .i64 (Pl.decode n v).z).wf = true ∧ (Lit.int .i64 (Pl.decode n v).r).wf = true ∧ (Lit.int .i64 (Pl.decode n v).m).wf = true ∧ (Lit.int .i64 (Pl.decode n v).k).wf = true ∧ (Lit.int .i64 (Pl.decode n v).e).wf = true ∧ (Lit.int .i64 (Pl.decode n v).s).wf = true := by
  simp [Pl.wordOk, Pl.within] at h
  rw [Pl.decode_e]
  simp only [Pl.decode]
  refine ⟨wfSm (by omega) (by omega), wfSm (by omega) (by omega), wfSm (by omega) (by omega), wfSm (by omega) (by omega), wfSm (by omega) (by omega), ?_, wfSm (by omega) (by omega)⟩
  cases Pl.extM (n / 32 % 8)
  · exact wfSm (n := 0) (by decide) (by decide)
  · exact wfv
set_option maxRecDepth 20000 in
set_option maxHeartbeats 4000000 in
theorem pDecodeIns (w : World) (n v : Int) (wfn : (Lit.int .i64 n).wf = true) (wfv : (Lit.int .i64 v).wf = true) : Calls Tryz.prog 44 #[.int .i64 n, .int .i64 v] w fun e' w' => e' = .returned (.tuple #[.agg #[.int .i64 (Pl.pdec n v).op, .int .i64 (Pl.pdec n v).z, .int .i64 (Pl.pdec n v).r, .int .i64 (Pl.pdec n v).m, .int .i64 (Pl.pdec n v).k, .int .i64 (Pl.pdec n v).e, .int .i64 (Pl.pdec n v).s], .int .i64 (Pl.pdecN n v), .bool (Pl.pdecOk n v)]) ∧ Kept 0 0 w w' := by
  obtain ⟨lo, hi⟩ := wfB wfn
  have K0 := hide (kept_alloc w (.cells #[.int .i64 0, .int .i64 0, .int .i64 0, .int .i64 0, .int .i64 0, .int .i64 0, .int .i64 0] 34))
  have R0 := hide (Blk.new w #[.int .i64 0, .int .i64 0, .int .i64 0, .int .i64 0, .int .i64 0, .int .i64 0, .int .i64 0] 34)
  cases h : Pl.wordOk n
  · have G : Hid (Pl.pdecOk n v = false) := hide (by simp only [Pl.pdecOk, h]; rfl)
    go_enter Tryz.func44, Tryz.ntmps44
    go_wp2_with (go_at_call 65; refine (isWord _ _ lo hi).mono ?_; rintro e9 w9 ⟨rfl, hw⟩; have hw2 := hw.symm; clear hw; subst hw2; rw [h])
    refine bodyPost_ret (v := .tuple #[.agg #[.int .i64 0, .int .i64 0, .int .i64 0, .int .i64 0, .int .i64 0, .int .i64 0, .int .i64 0], .int .i64 0, .bool false]) ?_ rfl ⟨by simp [Pl.pdec, Pl.pdecN, G.out, Pl.inNo], ?_⟩
    · rw [results_ct2 rfl]; go_simp
    · exact K0.out
  · obtain ⟨n0, n1, wm, hl⟩ := decM (v := v) h
    have wx := decWf h wfv
    obtain ⟨x, hx⟩ : ∃ x, Pl.decode n v = x := ⟨_, rfl⟩
    rw [hx] at wm hl wx
    have HX := hide hx
    have HL := hide hl
    clear hx hl
    cases hg : Pl.inOk x
    · have G : Hid (Pl.pdecOk n v = false) := hide (by simp only [Pl.pdecOk, h, HX.out, hg]; rfl)
      go_enter Tryz.func44, Tryz.ntmps44
      go_wp2_with (first | (go_at_call 65; refine (isWord _ _ lo hi).mono ?_; rintro e9 w9 ⟨rfl, hw⟩; have hw2 := hw.symm; clear hw; subst hw2; rw [h]) | (go_at_call 72; refine (insOf _ n v n0 n1).mono ?_; rw [HX.out]; rintro e9 w2 ⟨rfl, k2⟩; have R2 := hide (R0.out.kept0 k2); have K2 := hide (K0.out.trans k2); have s2 := R2.out.lt; obtain ⟨y0, y1, y2, y3, y4, y5, y6⟩ := R2.out.c7; have fy0 := R2.out.frozen 0; have fy1 := R2.out.frozen 1; have fy2 := R2.out.frozen 2; have fy3 := R2.out.frozen 3; have fy4 := R2.out.frozen 4; have fy5 := R2.out.frozen 5; have fy6 := R2.out.frozen 6; clear k2) | (go_at_call 73; refine (implGoodIns _ x.op x.z x.r x.m x.k x.e x.s wx.1 wx.2.1 wx.2.2.1 wx.2.2.2.1 wx.2.2.2.2.1 wx.2.2.2.2.2.1 wx.2.2.2.2.2.2).mono ?_; rw [show Pl.inOk ⟨x.op, x.z, x.r, x.m, x.k, x.e, x.s⟩ = Pl.inOk x from rfl, hg]; rintro e9 w3 ⟨rfl, k3⟩; have R3 := hide ((R2.out.alloc _).kept0 k3); have X3 := hide ((Blk.new w2 #[.int .i64 x.op, .int .i64 x.z, .int .i64 x.r, .int .i64 x.m, .int .i64 x.k, .int .i64 x.e, .int .i64 x.s] 34).kept0 k3); have K3 := hide ((kept_new K2.out _).trans k3); have s3 := R3.out.lt; obtain ⟨q0, q1, q2, q3, q4, q5, q6⟩ := R3.out.c7; have fq0 := R3.out.frozen 0; have fq1 := R3.out.frozen 1; have fq2 := R3.out.frozen 2; have fq3 := R3.out.frozen 3; have fq4 := R3.out.frozen 4; have fq5 := R3.out.frozen 5; have fq6 := R3.out.frozen 6; clear k3))
      have s0 := R0.out.lt
      refine bodyPost_ret (v := .tuple #[.agg #[.int .i64 0, .int .i64 0, .int .i64 0, .int .i64 0, .int .i64 0, .int .i64 0, .int .i64 0], .int .i64 0, .bool false]) ?_ rfl ⟨by simp [Pl.pdec, Pl.pdecN, G.out, Pl.inNo], ?_⟩
      · rw [results_ct2 rfl]; go_simp
      · exact (kept_set (kept_set (kept_set (kept_set (kept_set (kept_set (kept_set K3.out _ _ _ (.inr (by omega))) _ _ _ (.inr (by omega))) _ _ _ (.inr (by omega))) _ _ _ (.inr (by omega))) _ _ _ (.inr (by omega))) _ _ _ (.inr (by omega))) _ _ _ (.inr (by omega)))
    · have G : Hid (Pl.pdecOk n v = true) := hide (by simp only [Pl.pdecOk, h, HX.out, hg]; rfl)
      have EX : Hid (Pl.pdec n v = x) := hide (by simp [Pl.pdec, G.out, HX.out])
      have EN : Hid (Pl.pdecN n v = Pl.longW n) := hide (by simp [Pl.pdecN, G.out])
      rw [EX.out, EN.out, G.out]
      obtain ⟨L, hL⟩ : ∃ L, Pl.longW n = L := ⟨_, rfl⟩
      rw [hL] at HL ⊢
      clear hL
      go_enter Tryz.func44, Tryz.ntmps44
      go_wp2_with (first | (go_at_call 65; refine (isWord _ _ lo hi).mono ?_; rintro e9 w9 ⟨rfl, hw⟩; have hw2 := hw.symm; clear hw; subst hw2; rw [h]) | (go_at_call 72; refine (insOf _ n v n0 n1).mono ?_; rw [HX.out]; rintro e9 w2 ⟨rfl, k2⟩; have R2 := hide (R0.out.kept0 k2); have K2 := hide (K0.out.trans k2); have s2 := R2.out.lt; obtain ⟨y0, y1, y2, y3, y4, y5, y6⟩ := R2.out.c7; have fy0 := R2.out.frozen 0; have fy1 := R2.out.frozen 1; have fy2 := R2.out.frozen 2; have fy3 := R2.out.frozen 3; have fy4 := R2.out.frozen 4; have fy5 := R2.out.frozen 5; have fy6 := R2.out.frozen 6; clear k2) | (go_at_call 73; refine (implGoodIns _ x.op x.z x.r x.m x.k x.e x.s wx.1 wx.2.1 wx.2.2.1 wx.2.2.2.1 wx.2.2.2.2.1 wx.2.2.2.2.2.1 wx.2.2.2.2.2.2).mono ?_; rw [show Pl.inOk ⟨x.op, x.z, x.r, x.m, x.k, x.e, x.s⟩ = Pl.inOk x from rfl, hg]; rintro e9 w3 ⟨rfl, k3⟩; have R3 := hide ((R2.out.alloc _).kept0 k3); have X3 := hide ((Blk.new w2 #[.int .i64 x.op, .int .i64 x.z, .int .i64 x.r, .int .i64 x.m, .int .i64 x.k, .int .i64 x.e, .int .i64 x.s] 34).kept0 k3); have K3 := hide ((kept_new K2.out _).trans k3); have s3 := R3.out.lt; clear k3))
      have hne : Hid (w.heap.size < w2.heap.size) := hide R2.out.lt
      refine wp_region_inv2 (fun A0 l A W => FR [19, 20, 21, 5, 6] A0 A ∧ Once l 0 (A.tmps[19]? = some (.agg #[.int .i64 x.op, .int .i64 x.z, .int .i64 x.r, .int .i64 x.m, .int .i64 x.k, .int .i64 x.e, .int .i64 x.s])) ∧ Once l 1 (A.tmps[20]? = some (.agg #[.int .i64 x.op, .int .i64 x.z, .int .i64 x.r, .int .i64 x.m, .int .i64 x.k, .int .i64 x.e, .int .i64 x.s])) ∧ Once l 2 (A.tmps[21]? = some (.int .i64 L)) ∧ Once l 3 (True) ∧ Once l 4 (A.tmps[5]? = some (.int .i64 L)) ∧ Once l 5 (A.tmps[6]? = some (.bool true)) ∧ Blk W w.heap.size (bif l.getD 3 true then #[.int .i64 x.op, .int .i64 x.z, .int .i64 x.r, .int .i64 x.m, .int .i64 x.k, .int .i64 x.e, .int .i64 x.s] else #[.int .i64 0, .int .i64 0, .int .i64 0, .int .i64 0, .int .i64 0, .int .i64 0, .int .i64 0]) 34 ∧ Blk W w2.heap.size #[.int .i64 x.op, .int .i64 x.z, .int .i64 x.r, .int .i64 x.m, .int .i64 x.k, .int .i64 x.e, .int .i64 x.s] 34 ∧ Kept 0 0 w W) (by kernel_rfl) (by kernel_rfl) ?start ?fin ?step
      case start => exact ⟨FR.refl _ _, once_start (by decide), once_start (by decide), once_start (by decide), once_start (by decide), once_start (by decide), once_start (by decide), (by rw [start_at (by decide)]; exact R3.out), X3.out, kept_drew K3.out⟩
      case fin =>
        intro l A W h hl
        obtain ⟨hFR, o0, o1, o2, o3, o4, o5, oR, oX, hK⟩ := h
        have g4 := o4 (hl 4 (by decide))
        have QR : Hid (Blk W w.heap.size #[.int .i64 x.op, .int .i64 x.z, .int .i64 x.r, .int .i64 x.m, .int .i64 x.k, .int .i64 x.e, .int .i64 x.s] 34) := hide (by rw [hl 3 (by decide)] at oR; exact oR)
        obtain ⟨q0, q1, q2, q3, q4, q5, q6⟩ := QR.out.c7
        have g5 := o5 (hl 5 (by decide))
        have QQ := hide hK
        have hc9 := hFR.chain
        simp only [List.foldl] at hc9
        rw [getD_of g4, getD_of g5] at hc9
        clear oR oX hl hK hFR g4 g5 o0 o1 o2 o3 o4 o5
        generalize A.tmps.getD 19 undef = s19 at hc9
        generalize A.tmps.getD 20 undef = s20 at hc9
        generalize A.tmps.getD 21 undef = s21 at hc9
        subst hc9
        go_simp
        go_wp2_with fail
        refine bodyPost_ret (v := .tuple #[.agg #[.int .i64 x.op, .int .i64 x.z, .int .i64 x.r, .int .i64 x.m, .int .i64 x.k, .int .i64 x.e, .int .i64 x.s], .int .i64 L, .bool true]) ?_ rfl ⟨rfl, QQ.out⟩
        rw [results_ct2 rfl]; go_simp
      case step =>
        intro l A W i hI hm
        obtain ⟨hFR, o0, o1, o2, o3, o4, o5, oR, oX, hK⟩ := hI
        obtain ⟨hi1, hi2⟩ := ready_new hm
        have hsz : Hid (21 < A.tmps.size) := hide (by rw [hFR.size]; simp)
        have m4 : A.tmps[4]? = some (.pointer (some ⟨w.heap.size, 0, none⟩)) := (hFR.out 4 (by decide)).trans rfl
        have m7 : A.tmps[7]? = some (.pointer (some ⟨w2.heap.size, 0, none⟩)) := (hFR.out 7 (by decide)).trans rfl
        rcases i with _ | _ | _ | _ | _ | _ | i
        · have OX := hide oX
          obtain ⟨x0, x1, x2, x3, x4, x5, x6⟩ := OX.out.c7
          refine wpOp_step rfl (fun KK hK2 => ?_)
          go_simp
          exact hK2 (A.put (some 19) (.agg #[.int .i64 x.op, .int .i64 x.z, .int .i64 x.r, .int .i64 x.m, .int .i64 x.k, .int .i64 x.e, .int .i64 x.s])) _ ⟨hFR.put (by decide) _, .now (put_eq (by have hz := hsz.out; omega)), o1.past (by decide) (fun h => (put_ne (by decide)).trans h), o2.past (by decide) (fun h => (put_ne (by decide)).trans h), o3.past (by decide) id, o4.past (by decide) (fun h => (put_ne (by decide)).trans h), o5.past (by decide) (fun h => (put_ne (by decide)).trans h), by rw [getD_set_ne (by decide)]; exact oR, oX, hK⟩
        · have OX := hide oX
          obtain ⟨x0, x1, x2, x3, x4, x5, x6⟩ := OX.out.c7
          refine wpOp_step rfl (fun KK hK2 => ?_)
          go_simp
          exact hK2 (A.put (some 20) (.agg #[.int .i64 x.op, .int .i64 x.z, .int .i64 x.r, .int .i64 x.m, .int .i64 x.k, .int .i64 x.e, .int .i64 x.s])) _ ⟨hFR.put (by decide) _, o0.past (by decide) (fun h => (put_ne (by decide)).trans h), .now (put_eq (by have hz := hsz.out; omega)), o2.past (by decide) (fun h => (put_ne (by decide)).trans h), o3.past (by decide) id, o4.past (by decide) (fun h => (put_ne (by decide)).trans h), o5.past (by decide) (fun h => (put_ne (by decide)).trans h), by rw [getD_set_ne (by decide)]; exact oR, oX, hK⟩
        · have e1 := o1 (ready_dep hm 1 (by kernel_rfl))
          refine wpOp_step rfl (fun KK hK2 => ?_)
          go_simp
          refine (lengthOf W x.op x.z x.r x.m x.k x.e x.s wm).mono ?_
          rw [HL.out]
          rintro r9 y ⟨rfl, kd⟩
          go_simp
          exact hK2 (A.put (some 21) (.int .i64 L)) _ ⟨hFR.put (by decide) _, o0.past (by decide) (fun h => (put_ne (by decide)).trans h), o1.past (by decide) (fun h => (put_ne (by decide)).trans h), .now (put_eq (by have hz := hsz.out; omega)), o3.past (by decide) id, o4.past (by decide) (fun h => (put_ne (by decide)).trans h), o5.past (by decide) (fun h => (put_ne (by decide)).trans h), by rw [getD_set_ne (by decide)]; exact oR.kept0 kd, oX.kept0 kd, (hK.trans kd)⟩
        · have e0 := o0 (ready_dep hm 0 (by kernel_rfl))
          have oR2 : Blk W w.heap.size #[.int .i64 0, .int .i64 0, .int .i64 0, .int .i64 0, .int .i64 0, .int .i64 0, .int .i64 0] 34 := by rw [hi2] at oR; exact oR
          have OR := hide oR2
          obtain ⟨q0, q1, q2, q3, q4, q5, q6⟩ := OR.out.c7
          have fq0 := OR.out.frozen 0; have fq1 := OR.out.frozen 1; have fq2 := OR.out.frozen 2; have fq3 := OR.out.frozen 3; have fq4 := OR.out.frozen 4; have fq5 := OR.out.frozen 5; have fq6 := OR.out.frozen 6
          have nh : w2.heap.size ≠ w.heap.size := by have := hne.out; omega
          refine wpOp_step rfl (fun KK hK2 => ?_)
          go_simp
          exact hK2 A _ ⟨hFR, o0.past (by decide) id, o1.past (by decide) id, o2.past (by decide) id, .now trivial, o4.past (by decide) id, o5.past (by decide) id, by rw [getD_set_eq]; exact (((((((oR2.set 0 (.int .i64 x.op)).set 1 (.int .i64 x.z)).set 2 (.int .i64 x.r)).set 3 (.int .i64 x.m)).set 4 (.int .i64 x.k)).set 5 (.int .i64 x.e)).set 6 (.int .i64 x.s)), (((((((oX.other w.heap.size 0 (.int .i64 x.op) nh).other w.heap.size 1 (.int .i64 x.z) nh).other w.heap.size 2 (.int .i64 x.r) nh).other w.heap.size 3 (.int .i64 x.m) nh).other w.heap.size 4 (.int .i64 x.k) nh).other w.heap.size 5 (.int .i64 x.e) nh).other w.heap.size 6 (.int .i64 x.s) nh), (kept_set (kept_set (kept_set (kept_set (kept_set (kept_set (kept_set hK _ _ _ (.inr (by omega))) _ _ _ (.inr (by omega))) _ _ _ (.inr (by omega))) _ _ _ (.inr (by omega))) _ _ _ (.inr (by omega))) _ _ _ (.inr (by omega))) _ _ _ (.inr (by omega)))⟩
        · have e2 := o2 (ready_dep hm 2 (by kernel_rfl))
          refine wpOp_step rfl (fun KK hK2 => ?_)
          go_simp
          exact hK2 (A.put (some 5) (.int .i64 L)) _ ⟨hFR.put (by decide) _, o0.past (by decide) (fun h => (put_ne (by decide)).trans h), o1.past (by decide) (fun h => (put_ne (by decide)).trans h), o2.past (by decide) (fun h => (put_ne (by decide)).trans h), o3.past (by decide) id, .now (put_eq (by have hz := hsz.out; omega)), o5.past (by decide) (fun h => (put_ne (by decide)).trans h), by rw [getD_set_ne (by decide)]; exact oR, oX, hK⟩
        · refine wpOp_step rfl (fun KK hK2 => ?_)
          go_simp
          exact hK2 (A.put (some 6) (.bool true)) _ ⟨hFR.put (by decide) _, o0.past (by decide) (fun h => (put_ne (by decide)).trans h), o1.past (by decide) (fun h => (put_ne (by decide)).trans h), o2.past (by decide) (fun h => (put_ne (by decide)).trans h), o3.past (by decide) id, o4.past (by decide) (fun h => (put_ne (by decide)).trans h), .now (put_eq (by have hz := hsz.out; omega)), by rw [getD_set_ne (by decide)]; exact oR, oX, hK⟩
        · simp at hi1
          omega
end Go.Proofs.YtblddehlkaolbaaGreat

namespace Go.Proofs.YtblddehlkaolbaaGreat
open Go.RowKit
set_option linter.unusedVariables false
theorem wp_scope_once {P : Program} {a : Act} {w : World} {Q : Exit → Act → World → Prop} {c rest : Code} (l : Nat) (hf : findLabel c l = some rest)
    (first : c.wp P (Exit.jump l (fun a' w' => rest.wp P (Exit.noGoto Q) a' w') Q) a w) : (Code.scope c).wp P Q a w := by
  refine wp_scope_jumps l (fun a' w' => rest.wp P (Exit.noGoto Q) a' w') (fun _ _ => 0) hf first (fun a' w' h => ?_)
  refine Code.wp_mono (fun e a'' w'' hq => ?_) h
  cases e <;> first | exact hq | exact (hq : False).elim
theorem results_ctc {fn : Func} {p u q : Tmp} {ty tz : TypeId} (h : fn.results = #[.cell p ty, .tmp u, .cell q tz]) (tmps : Array Value) (P : Program) (w : World) :
    (results fn tmps).run P w = ((asAddr (tmps.getD p undef)).run P w).andThen fun a w₁ => ((loadVar ty a).run P w₁).andThen fun v w₂ => ((asAddr (tmps.getD q undef)).run P w₂).andThen fun b w₃ => ((loadVar tz b).run P w₃).andThen fun x w₄ => .ok (.tuple #[v, tmps.getD u undef, x]) w₄ := by
  simp only [results, h]
  simp [Sem.run_bind, Result.andThen]
namespace Pl
def Mc.fetF (c : Mc) : Ft := bif c.fetch.fine then ftNo else c.fetch.f
theorem accF_with (p q : Int) (k s a : Int) : Mc.accF { ftNo with pc := p, wo := q } k s a = { Mc.accF ftNo k s a with pc := p, wo := q } := by
  unfold Mc.accF
  show (bif (code k s a != 0) && true then _ else _) = _
  cases code k s a != 0 <;> rfl
theorem accF_no {k s a : Int} (h : ((Mc.accF ftNo k s a).v != 0) = false) : code k s a = 0 ∧ Mc.accF ftNo k s a = ftNo := by
  unfold Mc.accF at *
  cases hc : code k s a != 0
  · exact ⟨by simpa using hc, rfl⟩
  · rw [hc] at h
    cases h2 : code k s a == 2 <;> rw [h2] at h <;> cases h
theorem accF_yes {k s a : Int} (h : ((Mc.accF ftNo k s a).v != 0) = true) : ¬ code k s a = 0 := by
  intro hc
  unfold Mc.accF at h
  rw [hc] at h
  cases h
theorem lv_zero {xs : List Int} {k s a : Int} (h : ¬ code k s a = 0) : lv xs k s a 0 = 0 := by
  unfold lv; rw [if_neg (fun q => h q.1)]
theorem fetch_A {c : Mc} (h1 : c.fe1.fine = false) : c.fetch = c.fe1 ∧ c.fetI = inNo ∧ c.fetN = 0 ∧ c.fetF = c.fe1.f := by
  have e : c.fetch = c.fe1 := by unfold Mc.fetch; rw [h1]; rfl
  refine ⟨e, ?_, ?_, ?_⟩
  · unfold Mc.fetI; rw [h1]; rfl
  · unfold Mc.fetN; rw [h1]; rfl
  · unfold Mc.fetF; rw [e, h1]; rfl
theorem fetch_B {c : Mc} (h1 : c.fe1.fine = true) (h3 : c.fe3.fine = false) : c.fetch = c.fe3 ∧ c.fetI = inNo ∧ c.fetN = 0 ∧ c.fetF = c.fe3.f := by
  have e : c.fetch = c.fe3 := by unfold Mc.fetch; rw [h1, h3]; rfl
  refine ⟨e, ?_, ?_, ?_⟩
  · unfold Mc.fetI; rw [h1, h3]; rfl
  · unfold Mc.fetN; rw [h1, h3]; rfl
  · unfold Mc.fetF; rw [e, h3]; rfl
theorem fetch_C {c : Mc} (h1 : c.fe1.fine = true) (h3 : c.fe3.fine = true) (hx : inOk c.feX = false) : c.fetch = c.fe4 ∧ c.fetI = inNo ∧ c.fetN = 0 ∧ c.fetF = c.fe4.f := by
  have e : c.fetch = c.fe4 := by unfold Mc.fetch; rw [h1, h3, hx]; rfl
  refine ⟨e, ?_, ?_, ?_⟩
  · unfold Mc.fetI; rw [h1, h3, hx]; rfl
  · unfold Mc.fetN; rw [h1, h3, hx]; rfl
  · unfold Mc.fetF; rw [e]; rfl
theorem fetch_D {c : Mc} (h1 : c.fe1.fine = true) (h3 : c.fe3.fine = true) (hx : inOk c.feX = true) : c.fetch = c.fe3 ∧ c.fetI = c.feX ∧ c.fetN = longW c.feW ∧ c.fetF = ftNo := by
  have e : c.fetch = c.fe3 := by unfold Mc.fetch; rw [h1, h3, hx]; rfl
  refine ⟨e, ?_, ?_, ?_⟩
  · unfold Mc.fetI; rw [h1, h3, hx]; rfl
  · unfold Mc.fetN; rw [h1, h3, hx]; rfl
  · unfold Mc.fetF; rw [e, h3]; rfl
theorem longW_12 (n : Int) : longW n = 1 ∨ longW n = 2 := by unfold longW; split <;> simp
end Pl
theorem CAt.fx {w : World} {lo b g : Nat} {c d : Pl.Mc} {h : Bool} (a : CAt w lo b g c h) (hr : d.r = c.r) (hx : d.bx = c.bx) (hl : d.bl = c.bl) (hm : d.bm = c.bm) (hs : d.st = c.st) : CAt w lo b g d h := by
  unfold CAt CBk at *
  rw [hr, hx, hl, hm, hs]
  exact a
set_option maxRecDepth 100000 in
set_option maxHeartbeats 8000000 in
theorem cFetch (w : World) (lo b g : Nat) (c : Pl.Mc) (h : Bool) (hC : CAt w lo b g c h) (G : Pl.GM c) (hf : c.f = Pl.ftNo) :
    Calls Tryz.prog 21 #[.pointer (some ⟨b, 0, none⟩)] w fun e w' => ∃ g', e = .returned (.tuple #[.agg (insC c.fetI), .int .i64 c.fetN, .agg (ftC c.fetF)]) ∧ CAt w' lo b g' (c.fetch) h ∧ Since w b (b + 1) g w' g' := by
  obtain ⟨l0, l1, l2, l3, l4⟩ := hC.lt
  have p0 := G.p0
  have p1 := G.p1
  have HG := hide G
  have K0 := hide (kept_new (kept_new (kept_alloc w (.cells #[.int .i64 0, .int .i64 0, .int .i64 0, .int .i64 0, .int .i64 0, .int .i64 0, .int .i64 0] 34)) (.cells #[.int .i64 0, .int .i64 0, .int .i64 0, .int .i64 0, .bool false] 36)) (.cells #[.int .i64 0, .int .i64 0] 91))
  have C0 := hide (((hC.alloc (.cells #[.int .i64 0, .int .i64 0, .int .i64 0, .int .i64 0, .int .i64 0, .int .i64 0, .int .i64 0] 34)).alloc (.cells #[.int .i64 0, .int .i64 0, .int .i64 0, .int .i64 0, .bool false] 36)).alloc (.cells #[.int .i64 0, .int .i64 0] 91))
  have I0 := hide (((Blk.new w #[.int .i64 0, .int .i64 0, .int .i64 0, .int .i64 0, .int .i64 0, .int .i64 0, .int .i64 0] 34).alloc (.cells #[.int .i64 0, .int .i64 0, .int .i64 0, .int .i64 0, .bool false] 36)).alloc (.cells #[.int .i64 0, .int .i64 0] 91))
  have R0 := (Blk.new (w.alloc (.cells #[.int .i64 0, .int .i64 0, .int .i64 0, .int .i64 0, .int .i64 0, .int .i64 0, .int .i64 0] 34)) #[.int .i64 0, .int .i64 0, .int .i64 0, .int .i64 0, .bool false] 36).alloc (.cells #[.int .i64 0, .int .i64 0] 91)
  have D0 := Blk.new ((w.alloc (.cells #[.int .i64 0, .int .i64 0, .int .i64 0, .int .i64 0, .int .i64 0, .int .i64 0, .int .i64 0] 34)).alloc (.cells #[.int .i64 0, .int .i64 0, .int .i64 0, .int .i64 0, .bool false] 36)) #[.int .i64 0, .int .i64 0] 91
  simp only [World.size_alloc] at R0 D0
  replace R0 := hide R0
  replace D0 := hide D0
  obtain ⟨X, hX⟩ : ∃ X : World, ((w.alloc (.cells #[.int .i64 0, .int .i64 0, .int .i64 0, .int .i64 0, .int .i64 0, .int .i64 0, .int .i64 0] 34)).alloc (.cells #[.int .i64 0, .int .i64 0, .int .i64 0, .int .i64 0, .bool false] 36)).alloc (.cells #[.int .i64 0, .int .i64 0] 91) = X := ⟨_, rfl⟩
  rw [hX] at K0 C0 I0 R0 D0
  have x9 := C0.out.cP
  have HA1 := hide (Pl.ask_read (k := 3) (.inr rfl) p0 p1)
  obtain ⟨V1, hV1⟩ : ∃ V, V = c.feW := ⟨_, rfl⟩
  have HV1 : Hid (V1 = if (3 : Int) = 2 then 0 else Pl.lv c.bx 3 2 c.r.p 0) := hide hV1
  obtain ⟨F1, hF1⟩ : ∃ F, F = Pl.Mc.accF Pl.ftNo 3 2 c.r.p := ⟨_, rfl⟩
  have HF1 := hide hF1
  have E1 : Hid (c.fe1.f = { F1 with pc := c.r.p, wo := 0 }) := hide (by
    show Pl.Mc.accF { c.f with pc := c.r.p } 3 2 c.r.p = _
    rw [hf, hF1]; exact Pl.accF_with c.r.p 0 3 2 c.r.p)
  have epp : c.r.p % 65536 = c.r.p := by omega
  have HW1 := hide hV1
  clear hC G hF1 hV1
  go_enter Tryz.func21, Tryz.ntmps21
  go_wp2_with fail
  refine wp_scope_once 0 rfl ?_
  go_wp2_with fail
  go_step3
  go_wp2_with (first | (go_at_call 41; refine (wrapWord _ _).mono ?_; rintro e w' ⟨rfl, hw⟩; have hw2 := hw.symm; clear hw; subst hw2) | (go_at_call 40; refine (cAccess _ lo b g c h 3 2 c.r.p 0 C0.out HG.out HA1.out V1 HV1 F1 HF1).mono ?_; rintro e W3 ⟨g3, rfl, hc3, hs3⟩; unfold ftC; have S3 := hide ((((Since.refl w b (b + 1) g).any K0.out).trans hs3).alloc (.cells #[.int .i64 F1.v, .int .i64 F1.pc, .int .i64 F1.ad, .int .i64 F1.wo, .bool F1.wr] 36)); have C3 := hide (hc3.alloc (.cells #[.int .i64 F1.v, .int .i64 F1.pc, .int .i64 F1.ad, .int .i64 F1.wo, .bool F1.wr] 36)); have I3 := hide ((hs3.blk I0.out (by omega) (by omega)).alloc (.cells #[.int .i64 F1.v, .int .i64 F1.pc, .int .i64 F1.ad, .int .i64 F1.wo, .bool F1.wr] 36)); have R3 := hide ((hs3.blk R0.out (by omega) (by omega)).alloc (.cells #[.int .i64 F1.v, .int .i64 F1.pc, .int .i64 F1.ad, .int .i64 F1.wo, .bool F1.wr] 36)); have D3 := hide ((hs3.blk D0.out (by omega) (by omega)).alloc (.cells #[.int .i64 F1.v, .int .i64 F1.pc, .int .i64 F1.ad, .int .i64 F1.wo, .bool F1.wr] 36)); have L3 := hide (Blk.new W3 #[.int .i64 F1.v, .int .i64 F1.pc, .int .i64 F1.ad, .int .i64 F1.wo, .bool F1.wr] 36); have sX := D0.out.lt; have s3 := hs3.size; obtain ⟨y0, y1, y2, y3, y4⟩ := hc3.lt; have n0 := hs3.ne (b := w.heap.size) I0.out.lt (by omega); have n1 := hs3.ne (b := w.heap.size + 1) R0.out.lt (by omega); have n2 := hs3.ne (b := w.heap.size + 1 + 1) D0.out.lt (by omega); have d3 := D3.out.all; have df3 := D3.out.fz; have l3c := fun v => (L3.out.other (w.heap.size + 1 + 1) 0 v (by omega)).all; clear hc3 hs3))
  refine (isFault F1 _).mono ?_
  rintro e W4 ⟨rfl, k4⟩
  have C4 := hide ((C3.out.other (w.heap.size + 1 + 1) 0 (.int .i64 V1) (by omega) (by omega)).any k4)
  have I4 := hide ((I3.out.other (w.heap.size + 1 + 1) 0 (.int .i64 V1) (by omega)).kept0 k4)
  have R4 := hide ((R3.out.other (w.heap.size + 1 + 1) 0 (.int .i64 V1) (by omega)).kept0 k4)
  have L4 := hide ((L3.out.other (w.heap.size + 1 + 1) 0 (.int .i64 V1) (by omega)).kept0 k4)
  have D4 : Hid (Blk W4 (w.heap.size + 1 + 1) #[.int .i64 V1, .int .i64 0] 91) := hide ((D3.out.set 0 (.int .i64 V1)).kept0 k4)
  have S4 := hide ((S3.out.mine (kept_one (W3.alloc (.cells #[.int .i64 F1.v, .int .i64 F1.pc, .int .i64 F1.ad, .int .i64 F1.wo, .bool F1.wr] 36)) (w.heap.size + 1 + 1) 0 (.int .i64 V1)) (by omega)).any k4)
  have s4 := L4.out.lt
  clear k4 C3 I3 R3 L3 D3 S3 d3 df3 l3c x9
  have d4 := D4.out.all
  have e4 := L4.out.all
  have ef4 := L4.out.fz
  have i4 := I4.out.all
  have if4 := I4.out.fz
  have r4 := R4.out.all
  have rf4 := R4.out.fz
  cases hv : (F1.v != 0)
  · obtain ⟨hc0, hFn⟩ := Pl.accF_no (by rw [← HF1.out]; exact hv)
    have EF1 : Hid (F1 = Pl.ftNo) := hide (by rw [HF1.out]; exact hFn)
    have h1 : c.fe1.fine = true := by unfold Pl.Mc.fine; rw [E1.out]; simpa using hv
    have hw : Pl.okv 2 V1 = true := by rw [HW1.out]; exact Pl.GM.accV (c := c.fe0) (HG.out.ft _) HA1.out
    have hw2 := Pl.top_ok hw
    obtain ⟨v0, v1⟩ : 0 ≤ V1 ∧ V1 ≤ 65535 := by omega
    have okW : Pl.wordOk V1 = true := by simp [Pl.wordOk, Pl.within]; omega
    have wfV1 : (Lit.int .i64 V1).wf = true := wfSm (by omega) (by omega)
    have E2 : Hid (c.fe2.f = ⟨0, c.r.p, 0, V1, false⟩) := hide (by
      show ({ c.fe1.f with wo := c.feW } : Pl.Ft) = _
      rw [E1.out, EF1.out, HW1.out]; rfl)
    clear hw hw2 hc0 hFn
    go_wp2_with fail
    refine (implLongIns _ V1 wfV1).mono ?_
    rintro e W5 ⟨rfl, k5⟩
    rw [if_pos okW, okW]
    have C5 := hide (C4.out.any k5)
    have I5 := hide (I4.out.kept0 k5)
    have R5 := hide (R4.out.kept0 k5)
    have D5 := hide (D4.out.kept0 k5)
    have S5 := hide (S4.out.any k5)
    have s5 := k5.size
    have d5 := D5.out.all
    clear k5
    clear d4 e4 ef4 i4 if4 r4 rf4
    rcases Pl.longW_12 V1 with hl | hl
    · have hl2 : (Pl.longW c.feW == 2) = false := by rw [← HW1.out, hl]; rfl
      have E3 : Hid (c.fe3.f = ⟨0, c.r.p, 0, V1, false⟩) := hide (by unfold Pl.Mc.fe3; rw [hl2]; exact E2.out)
      have EQ3 : Hid (c.fe3 = c.fe2) := hide (by unfold Pl.Mc.fe3; rw [hl2]; rfl)
      have h3 : c.fe3.fine = true := by unfold Pl.Mc.fine; rw [E3.out]; rfl
      have EX : Hid (c.feX = Pl.decode V1 0) := hide (by unfold Pl.Mc.feX Pl.Mc.feN; rw [hl2, ← HW1.out]; rfl)
      rw [hl]
      clear hl2
      go_wp2_with fail
      refine (pDecodeIns _ V1 0 wfV1 (by decide)).mono ?_
      rintro e W9 ⟨rfl, k9⟩
      obtain ⟨x, hx⟩ : ∃ x, x = Pl.pdec V1 0 := ⟨_, rfl⟩
      obtain ⟨N, hN⟩ : ∃ N, N = Pl.pdecN V1 0 := ⟨_, rfl⟩
      rw [← hx, ← hN]
      have C9 := hide ((C5.out.any k9).alloc (.cells #[.int .i64 x.op, .int .i64 x.z, .int .i64 x.r, .int .i64 x.m, .int .i64 x.k, .int .i64 x.e, .int .i64 x.s] 34))
      have I9 := hide ((I5.out.kept0 k9).alloc (.cells #[.int .i64 x.op, .int .i64 x.z, .int .i64 x.r, .int .i64 x.m, .int .i64 x.k, .int .i64 x.e, .int .i64 x.s] 34))
      have R9 := hide ((R5.out.kept0 k9).alloc (.cells #[.int .i64 x.op, .int .i64 x.z, .int .i64 x.r, .int .i64 x.m, .int .i64 x.k, .int .i64 x.e, .int .i64 x.s] 34))
      have D9 := hide ((D5.out.kept0 k9).alloc (.cells #[.int .i64 x.op, .int .i64 x.z, .int .i64 x.r, .int .i64 x.m, .int .i64 x.k, .int .i64 x.e, .int .i64 x.s] 34))
      have S9 := hide ((S5.out.any k9).alloc (.cells #[.int .i64 x.op, .int .i64 x.z, .int .i64 x.r, .int .i64 x.m, .int .i64 x.k, .int .i64 x.e, .int .i64 x.s] 34))
      have s9 := k9.size
      have i9 := I9.out.all
      have if9 := I9.out.fz
      have r9 := R9.out.all
      have rf9 := R9.out.fz
      have d9 := D9.out.all
      clear k9
      have HX := hide hx
      have HN := hide hN
      clear hx hN
      cases hk : Pl.pdecOk V1 0
      · have hb : Pl.inOk c.feX = false := by
          have := hk; unfold Pl.pdecOk at this; rw [okW, Bool.true_and] at this
          rw [show c.feX = Pl.decode V1 0 from EX.out]; exact this
        obtain ⟨ES, EI, EN, EF⟩ := Pl.fetch_C h1 h3 hb
        replace ES := hide (ES.trans (show c.fe4 = { c.fe3 with f := { c.fe3.f with v := 4 } } from rfl))
        replace EI := hide EI
        replace EN := hide EN
        have EF : Hid (c.fetF = ⟨4, c.r.p, 0, V1, false⟩) := hide (by rw [EF]; show ({ c.fe3.f with v := 4 } : Pl.Ft) = _; rw [E3.out])
        clear hb
        go_wp2_with fail
        go_region
        go_wp2_with fail
        have K7 := (((((((kept_one (W9.alloc (.cells #[.int .i64 x.op, .int .i64 x.z, .int .i64 x.r, .int .i64 x.m, .int .i64 x.k, .int .i64 x.e, .int .i64 x.s] 34)) w.heap.size 0 (.int .i64 0)).one 1 (.int .i64 0)).one 2 (.int .i64 0)).one 3 (.int .i64 0)).one 4 (.int .i64 0)).one 5 (.int .i64 0)).one 6 (.int .i64 0))
        have K8 := (kept_drew ((((((kept_one ((((((((W9.alloc (.cells #[.int .i64 x.op, .int .i64 x.z, .int .i64 x.r, .int .i64 x.m, .int .i64 x.k, .int .i64 x.e, .int .i64 x.s] 34)).setCell ⟨w.heap.size, 0, none⟩ (.int .i64 0)).setCell ⟨w.heap.size, 1, none⟩ (.int .i64 0)).setCell ⟨w.heap.size, 2, none⟩ (.int .i64 0)).setCell ⟨w.heap.size, 3, none⟩ (.int .i64 0)).setCell ⟨w.heap.size, 4, none⟩ (.int .i64 0)).setCell ⟨w.heap.size, 5, none⟩ (.int .i64 0)).setCell ⟨w.heap.size, 6, none⟩ (.int .i64 0)) (w.heap.size + 1) 0 (.int .i64 4)).one 1 (.int .i64 c.r.p)).one 2 (.int .i64 0)).one 3 (.int .i64 V1)).one 4 (.bool false))))
        first | simp only [Exit.jump] | rw [Exit.noGoto_ret]
        refine bodyPost_ret (v := .tuple #[.agg #[.int .i64 0, .int .i64 0, .int .i64 0, .int .i64 0, .int .i64 0, .int .i64 0, .int .i64 0], .int .i64 0, .agg #[.int .i64 4, .int .i64 c.r.p, .int .i64 0, .int .i64 V1, .bool false]]) ?_ rfl ⟨g3, ?_, ?_, ((S9.out).mine K7 (by omega)).mine K8 (by omega)⟩
        · rw [results_ctc rfl]; go_simp
        · rw [EI.out, EN.out, EF.out]; rfl
        · rw [ES.out, EQ3.out]; exact (((C9.out).kept K7 (by omega) (by omega)).kept K8 (by omega) (by omega)).fx rfl rfl rfl rfl rfl
      · have hb : Pl.inOk c.feX = true := by
          have := hk; unfold Pl.pdecOk at this; rw [okW, Bool.true_and] at this
          rw [show c.feX = Pl.decode V1 0 from EX.out]; exact this
        obtain ⟨ES, EI, EN, EF⟩ := Pl.fetch_D h1 h3 hb
        replace ES := hide ES
        have EI : Hid (c.fetI = x) := hide (by rw [EI, HX.out]; unfold Pl.pdec; rw [if_pos hk]; exact EX.out)
        have EN : Hid (c.fetN = N) := hide (by rw [EN, HN.out]; unfold Pl.pdecN; rw [if_pos hk, HW1.out])
        replace EF := hide EF
        clear hb
        go_wp2_with fail
        have K7 := (((((((kept_one (W9.alloc (.cells #[.int .i64 x.op, .int .i64 x.z, .int .i64 x.r, .int .i64 x.m, .int .i64 x.k, .int .i64 x.e, .int .i64 x.s] 34)) w.heap.size 0 (.int .i64 x.op)).one 1 (.int .i64 x.z)).one 2 (.int .i64 x.r)).one 3 (.int .i64 x.m)).one 4 (.int .i64 x.k)).one 5 (.int .i64 x.e)).one 6 (.int .i64 x.s))
        have K8 := ((((((kept_one ((((((((W9.alloc (.cells #[.int .i64 x.op, .int .i64 x.z, .int .i64 x.r, .int .i64 x.m, .int .i64 x.k, .int .i64 x.e, .int .i64 x.s] 34)).setCell ⟨w.heap.size, 0, none⟩ (.int .i64 x.op)).setCell ⟨w.heap.size, 1, none⟩ (.int .i64 x.z)).setCell ⟨w.heap.size, 2, none⟩ (.int .i64 x.r)).setCell ⟨w.heap.size, 3, none⟩ (.int .i64 x.m)).setCell ⟨w.heap.size, 4, none⟩ (.int .i64 x.k)).setCell ⟨w.heap.size, 5, none⟩ (.int .i64 x.e)).setCell ⟨w.heap.size, 6, none⟩ (.int .i64 x.s)) (w.heap.size + 1) 0 (.int .i64 0)).one 1 (.int .i64 0)).one 2 (.int .i64 0)).one 3 (.int .i64 0)).one 4 (.bool false)))
        first | simp only [Exit.jump] | rw [Exit.noGoto_ret]
        refine bodyPost_ret (v := .tuple #[.agg #[.int .i64 x.op, .int .i64 x.z, .int .i64 x.r, .int .i64 x.m, .int .i64 x.k, .int .i64 x.e, .int .i64 x.s], .int .i64 N, .agg #[.int .i64 0, .int .i64 0, .int .i64 0, .int .i64 0, .bool false]]) ?_ rfl ⟨g3, ?_, ?_, ((S9.out).mine K7 (by omega)).mine K8 (by omega)⟩
        · rw [results_ctc rfl]; go_simp
        · rw [EI.out, EN.out, EF.out]; rfl
        · rw [ES.out, EQ3.out]; exact (((C9.out).kept K7 (by omega) (by omega)).kept K8 (by omega) (by omega)).fx rfl rfl rfl rfl rfl
    · have hl2 : (Pl.longW c.feW == 2) = true := by rw [← HW1.out, hl]; rfl
      obtain ⟨A, hA⟩ : ∃ A, A = c.feA := ⟨_, rfl⟩
      have eA : (c.r.p + 2) % 65536 = A := hA.symm
      have a0 : 0 ≤ A := by omega
      have a1 : A ≤ 65535 := by omega
      have HA2 := hide (Pl.ask_read (k := 3) (.inr rfl) a0 a1)
      have HG1 := hide (HG.out.acc HA1.out)
      obtain ⟨V2, hV2⟩ : ∃ V, V = c.fe2.accV 3 2 A 0 := ⟨_, rfl⟩
      have HV2 : Hid (V2 = if (3 : Int) = 2 then 0 else Pl.lv (c.acc 3 2 c.r.p 0).bx 3 2 A 0) := hide hV2
      obtain ⟨F2, hF2⟩ : ∃ F, F = Pl.Mc.accF Pl.ftNo 3 2 A := ⟨_, rfl⟩
      have HF2 := hide hF2
      have EQ3 : Hid (c.fe3 = c.fe2.acc 3 2 A 0) := hide (by unfold Pl.Mc.fe3; rw [hl2, hA]; rfl)
      have E3 : Hid (c.fe3.f = { F2 with pc := c.r.p, wo := V1 }) := hide (by
        rw [EQ3.out]
        show Pl.Mc.accF c.fe2.f 3 2 A = _
        rw [E2.out, hF2]; exact Pl.accF_with c.r.p V1 3 2 A)
      have EX : Hid (c.feX = Pl.decode V1 V2) := hide (by unfold Pl.Mc.feX Pl.Mc.feN; rw [hl2, ← HW1.out, hV2, hA]; rfl)
      have hw : Pl.okv 2 V2 = true := by rw [hV2]; exact Pl.GM.accV (c := c.acc 3 2 c.r.p 0) HG1.out HA2.out
      have hw2 := Pl.top_ok hw
      have wfV2 : (Lit.int .i64 V2).wf = true := wfSm (by omega) (by omega)
      rw [hl]
      clear hl2 hA hV2 hF2 hw hw2
      go_wp2_with fail
      go_step3
      refine ⟨rfl, ?_⟩
      go_wp2_with (first | (go_at_call 41; refine (wrapWord _ _).mono ?_; rintro e w' ⟨rfl, hw⟩; have hw2 := hw.symm; clear hw; subst hw2; rw [eA]) | (go_at_call 40; refine (cAccess _ lo b g3 (c.acc 3 2 c.r.p 0) h 3 2 A 0 C5.out HG1.out HA2.out V2 HV2 F2 HF2).mono ?_; rintro e W6 ⟨g6, rfl, hc6, hs6⟩; unfold ftC; have S6 := hide ((S5.out.trans hs6).alloc (.cells #[.int .i64 F2.v, .int .i64 F2.pc, .int .i64 F2.ad, .int .i64 F2.wo, .bool F2.wr] 36)); have C6 := hide (hc6.alloc (.cells #[.int .i64 F2.v, .int .i64 F2.pc, .int .i64 F2.ad, .int .i64 F2.wo, .bool F2.wr] 36)); have I6 := hide ((hs6.blk I5.out (by omega) (by omega)).alloc (.cells #[.int .i64 F2.v, .int .i64 F2.pc, .int .i64 F2.ad, .int .i64 F2.wo, .bool F2.wr] 36)); have R6 := hide ((hs6.blk R5.out (by omega) (by omega)).alloc (.cells #[.int .i64 F2.v, .int .i64 F2.pc, .int .i64 F2.ad, .int .i64 F2.wo, .bool F2.wr] 36)); have D6 := hide ((hs6.blk D5.out (by omega) (by omega)).alloc (.cells #[.int .i64 F2.v, .int .i64 F2.pc, .int .i64 F2.ad, .int .i64 F2.wo, .bool F2.wr] 36)); have L6 := hide (Blk.new W6 #[.int .i64 F2.v, .int .i64 F2.pc, .int .i64 F2.ad, .int .i64 F2.wo, .bool F2.wr] 36); have s6 := hs6.size; obtain ⟨z0, z1, z2, z3, z4⟩ := hc6.lt; have m0 := hs6.ne (b := w.heap.size) I5.out.lt (by omega); have m1 := hs6.ne (b := w.heap.size + 1) R5.out.lt (by omega); have m2 := hs6.ne (b := w.heap.size + 1 + 1) D5.out.lt (by omega); have d6 := D6.out.all; have df6 := D6.out.fz; have l6c := fun v => (L6.out.other (w.heap.size + 1 + 1) 1 v (by omega)).all; clear hc6 hs6))
      refine (isFault F2 _).mono ?_
      rintro e W7 ⟨rfl, k7⟩
      have C7 := hide ((C6.out.other (w.heap.size + 1 + 1) 1 (.int .i64 V2) (by omega) (by omega)).any k7)
      have I7 := hide ((I6.out.other (w.heap.size + 1 + 1) 1 (.int .i64 V2) (by omega)).kept0 k7)
      have R7 := hide ((R6.out.other (w.heap.size + 1 + 1) 1 (.int .i64 V2) (by omega)).kept0 k7)
      have L7 := hide ((L6.out.other (w.heap.size + 1 + 1) 1 (.int .i64 V2) (by omega)).kept0 k7)
      have D7 : Hid (Blk W7 (w.heap.size + 1 + 1) #[.int .i64 V1, .int .i64 V2] 91) := hide ((D6.out.set 1 (.int .i64 V2)).kept0 k7)
      have S7 := hide ((S6.out.mine (kept_one (W6.alloc (.cells #[.int .i64 F2.v, .int .i64 F2.pc, .int .i64 F2.ad, .int .i64 F2.wo, .bool F2.wr] 36)) (w.heap.size + 1 + 1) 1 (.int .i64 V2)) (by omega)).any k7)
      have s7 := L7.out.lt
      clear k7 C6 I6 R6 L6 D6 S6 d6 df6 l6c d5
      have d7 := D7.out.all
      have e7 := L7.out.all
      have ef7 := L7.out.fz
      have i7 := I7.out.all
      have if7 := I7.out.fz
      have r7 := R7.out.all
      have rf7 := R7.out.fz
      cases hv2 : (F2.v != 0)
      · obtain ⟨hc0, hFn⟩ := Pl.accF_no (by rw [← HF2.out]; exact hv2)
        have EF2 : Hid (F2 = Pl.ftNo) := hide (by rw [HF2.out]; exact hFn)
        have h3 : c.fe3.fine = true := by unfold Pl.Mc.fine; rw [E3.out]; simpa using hv2
        replace E3 : Hid (c.fe3.f = ⟨0, c.r.p, 0, V1, false⟩) := hide (by rw [E3.out, EF2.out]; rfl)
        clear hc0 hFn
        go_wp2_with fail
        refine (implLongIns _ V1 wfV1).mono ?_
        rintro e W8 ⟨rfl, k8⟩
        rw [if_pos okW, okW, hl]
        have C8 := hide (C7.out.any k8)
        have I8 := hide (I7.out.kept0 k8)
        have R8 := hide (R7.out.kept0 k8)
        have D8 := hide (D7.out.kept0 k8)
        have S8 := hide (S7.out.any k8)
        have s8 := k8.size
        have d8 := D8.out.all
        clear k8
        clear d7 e7 ef7 i7 if7 r7 rf7
        go_wp2_with fail
        refine (pDecodeIns _ V1 V2 wfV1 wfV2).mono ?_
        rintro e W9 ⟨rfl, k9⟩
        obtain ⟨x, hx⟩ : ∃ x, x = Pl.pdec V1 V2 := ⟨_, rfl⟩
        obtain ⟨N, hN⟩ : ∃ N, N = Pl.pdecN V1 V2 := ⟨_, rfl⟩
        rw [← hx, ← hN]
        have C9 := hide ((C8.out.any k9).alloc (.cells #[.int .i64 x.op, .int .i64 x.z, .int .i64 x.r, .int .i64 x.m, .int .i64 x.k, .int .i64 x.e, .int .i64 x.s] 34))
        have I9 := hide ((I8.out.kept0 k9).alloc (.cells #[.int .i64 x.op, .int .i64 x.z, .int .i64 x.r, .int .i64 x.m, .int .i64 x.k, .int .i64 x.e, .int .i64 x.s] 34))
        have R9 := hide ((R8.out.kept0 k9).alloc (.cells #[.int .i64 x.op, .int .i64 x.z, .int .i64 x.r, .int .i64 x.m, .int .i64 x.k, .int .i64 x.e, .int .i64 x.s] 34))
        have D9 := hide ((D8.out.kept0 k9).alloc (.cells #[.int .i64 x.op, .int .i64 x.z, .int .i64 x.r, .int .i64 x.m, .int .i64 x.k, .int .i64 x.e, .int .i64 x.s] 34))
        have S9 := hide ((S8.out.any k9).alloc (.cells #[.int .i64 x.op, .int .i64 x.z, .int .i64 x.r, .int .i64 x.m, .int .i64 x.k, .int .i64 x.e, .int .i64 x.s] 34))
        have s9 := k9.size
        have i9 := I9.out.all
        have if9 := I9.out.fz
        have r9 := R9.out.all
        have rf9 := R9.out.fz
        have d9 := D9.out.all
        clear k9
        have HX := hide hx
        have HN := hide hN
        clear hx hN
        cases hk : Pl.pdecOk V1 V2
        · have hb : Pl.inOk c.feX = false := by
            have := hk; unfold Pl.pdecOk at this; rw [okW, Bool.true_and] at this
            rw [show c.feX = Pl.decode V1 V2 from EX.out]; exact this
          obtain ⟨ES, EI, EN, EF⟩ := Pl.fetch_C h1 h3 hb
          replace ES := hide (ES.trans (show c.fe4 = { c.fe3 with f := { c.fe3.f with v := 4 } } from rfl))
          replace EI := hide EI
          replace EN := hide EN
          have EF : Hid (c.fetF = ⟨4, c.r.p, 0, V1, false⟩) := hide (by rw [EF]; show ({ c.fe3.f with v := 4 } : Pl.Ft) = _; rw [E3.out])
          clear hb
          go_wp2_with fail
          go_region
          go_wp2_with fail
          have K7 := (((((((kept_one (W9.alloc (.cells #[.int .i64 x.op, .int .i64 x.z, .int .i64 x.r, .int .i64 x.m, .int .i64 x.k, .int .i64 x.e, .int .i64 x.s] 34)) w.heap.size 0 (.int .i64 0)).one 1 (.int .i64 0)).one 2 (.int .i64 0)).one 3 (.int .i64 0)).one 4 (.int .i64 0)).one 5 (.int .i64 0)).one 6 (.int .i64 0))
          have K8 := (kept_drew ((((((kept_one ((((((((W9.alloc (.cells #[.int .i64 x.op, .int .i64 x.z, .int .i64 x.r, .int .i64 x.m, .int .i64 x.k, .int .i64 x.e, .int .i64 x.s] 34)).setCell ⟨w.heap.size, 0, none⟩ (.int .i64 0)).setCell ⟨w.heap.size, 1, none⟩ (.int .i64 0)).setCell ⟨w.heap.size, 2, none⟩ (.int .i64 0)).setCell ⟨w.heap.size, 3, none⟩ (.int .i64 0)).setCell ⟨w.heap.size, 4, none⟩ (.int .i64 0)).setCell ⟨w.heap.size, 5, none⟩ (.int .i64 0)).setCell ⟨w.heap.size, 6, none⟩ (.int .i64 0)) (w.heap.size + 1) 0 (.int .i64 4)).one 1 (.int .i64 c.r.p)).one 2 (.int .i64 0)).one 3 (.int .i64 V1)).one 4 (.bool false))))
          first | simp only [Exit.jump] | rw [Exit.noGoto_ret]
          refine bodyPost_ret (v := .tuple #[.agg #[.int .i64 0, .int .i64 0, .int .i64 0, .int .i64 0, .int .i64 0, .int .i64 0, .int .i64 0], .int .i64 0, .agg #[.int .i64 4, .int .i64 c.r.p, .int .i64 0, .int .i64 V1, .bool false]]) ?_ rfl ⟨g6, ?_, ?_, ((S9.out).mine K7 (by omega)).mine K8 (by omega)⟩
          · rw [results_ctc rfl]; go_simp
          · rw [EI.out, EN.out, EF.out]; rfl
          · rw [ES.out, EQ3.out]; exact (((C9.out).kept K7 (by omega) (by omega)).kept K8 (by omega) (by omega)).fx rfl rfl rfl rfl rfl
        · have hb : Pl.inOk c.feX = true := by
            have := hk; unfold Pl.pdecOk at this; rw [okW, Bool.true_and] at this
            rw [show c.feX = Pl.decode V1 V2 from EX.out]; exact this
          obtain ⟨ES, EI, EN, EF⟩ := Pl.fetch_D h1 h3 hb
          replace ES := hide ES
          have EI : Hid (c.fetI = x) := hide (by rw [EI, HX.out]; unfold Pl.pdec; rw [if_pos hk]; exact EX.out)
          have EN : Hid (c.fetN = N) := hide (by rw [EN, HN.out]; unfold Pl.pdecN; rw [if_pos hk, HW1.out])
          replace EF := hide EF
          clear hb
          go_wp2_with fail
          have K7 := (((((((kept_one (W9.alloc (.cells #[.int .i64 x.op, .int .i64 x.z, .int .i64 x.r, .int .i64 x.m, .int .i64 x.k, .int .i64 x.e, .int .i64 x.s] 34)) w.heap.size 0 (.int .i64 x.op)).one 1 (.int .i64 x.z)).one 2 (.int .i64 x.r)).one 3 (.int .i64 x.m)).one 4 (.int .i64 x.k)).one 5 (.int .i64 x.e)).one 6 (.int .i64 x.s))
          have K8 := ((((((kept_one ((((((((W9.alloc (.cells #[.int .i64 x.op, .int .i64 x.z, .int .i64 x.r, .int .i64 x.m, .int .i64 x.k, .int .i64 x.e, .int .i64 x.s] 34)).setCell ⟨w.heap.size, 0, none⟩ (.int .i64 x.op)).setCell ⟨w.heap.size, 1, none⟩ (.int .i64 x.z)).setCell ⟨w.heap.size, 2, none⟩ (.int .i64 x.r)).setCell ⟨w.heap.size, 3, none⟩ (.int .i64 x.m)).setCell ⟨w.heap.size, 4, none⟩ (.int .i64 x.k)).setCell ⟨w.heap.size, 5, none⟩ (.int .i64 x.e)).setCell ⟨w.heap.size, 6, none⟩ (.int .i64 x.s)) (w.heap.size + 1) 0 (.int .i64 0)).one 1 (.int .i64 0)).one 2 (.int .i64 0)).one 3 (.int .i64 0)).one 4 (.bool false)))
          first | simp only [Exit.jump] | rw [Exit.noGoto_ret]
          refine bodyPost_ret (v := .tuple #[.agg #[.int .i64 x.op, .int .i64 x.z, .int .i64 x.r, .int .i64 x.m, .int .i64 x.k, .int .i64 x.e, .int .i64 x.s], .int .i64 N, .agg #[.int .i64 0, .int .i64 0, .int .i64 0, .int .i64 0, .bool false]]) ?_ rfl ⟨g6, ?_, ?_, ((S9.out).mine K7 (by omega)).mine K8 (by omega)⟩
          · rw [results_ctc rfl]; go_simp
          · rw [EI.out, EN.out, EF.out]; rfl
          · rw [ES.out, EQ3.out]; exact (((C9.out).kept K7 (by omega) (by omega)).kept K8 (by omega) (by omega)).fx rfl rfl rfl rfl rfl
      · have h3 : c.fe3.fine = false := by unfold Pl.Mc.fine; rw [E3.out]; simpa using hv2
        obtain ⟨ES, EI, EN, EF⟩ := Pl.fetch_B h1 h3
        replace ES := hide ES
        replace EI := hide EI
        replace EN := hide EN
        replace EF := hide (EF.trans E3.out)
        go_wp2_with fail
        go_region
        go_wp2_with fail
        go_region
        go_wp2_with fail
        have K6 := ((kept_one W7 W6.heap.size 1 (.int .i64 c.r.p)).one 3 (.int .i64 V1))
        have K7 := (((((((kept_one ((W7.setCell ⟨W6.heap.size, 1, none⟩ (.int .i64 c.r.p)).setCell ⟨W6.heap.size, 3, none⟩ (.int .i64 V1)) w.heap.size 0 (.int .i64 0)).one 1 (.int .i64 0)).one 2 (.int .i64 0)).one 3 (.int .i64 0)).one 4 (.int .i64 0)).one 5 (.int .i64 0)).one 6 (.int .i64 0))
        have K8 := (kept_drew (kept_drew ((((((kept_one (((((((((W7.setCell ⟨W6.heap.size, 1, none⟩ (.int .i64 c.r.p)).setCell ⟨W6.heap.size, 3, none⟩ (.int .i64 V1)).setCell ⟨w.heap.size, 0, none⟩ (.int .i64 0)).setCell ⟨w.heap.size, 1, none⟩ (.int .i64 0)).setCell ⟨w.heap.size, 2, none⟩ (.int .i64 0)).setCell ⟨w.heap.size, 3, none⟩ (.int .i64 0)).setCell ⟨w.heap.size, 4, none⟩ (.int .i64 0)).setCell ⟨w.heap.size, 5, none⟩ (.int .i64 0)).setCell ⟨w.heap.size, 6, none⟩ (.int .i64 0)) (w.heap.size + 1) 0 (.int .i64 F2.v)).one 1 (.int .i64 c.r.p)).one 2 (.int .i64 F2.ad)).one 3 (.int .i64 V1)).one 4 (.bool F2.wr)))))
        first | simp only [Exit.jump] | rw [Exit.noGoto_ret]
        refine bodyPost_ret (v := .tuple #[.agg #[.int .i64 0, .int .i64 0, .int .i64 0, .int .i64 0, .int .i64 0, .int .i64 0, .int .i64 0], .int .i64 0, .agg #[.int .i64 F2.v, .int .i64 c.r.p, .int .i64 F2.ad, .int .i64 V1, .bool F2.wr]]) ?_ rfl ⟨g6, ?_, ?_, ((S7.out.mine K6 (by omega)).mine K7 (by omega)).mine K8 (by omega)⟩
        · rw [results_ctc rfl]; go_simp
        · rw [EI.out, EN.out, EF.out]; rfl
        · rw [ES.out, EQ3.out]; exact (((C7.out.kept K6 (by omega) (by omega)).kept K7 (by omega) (by omega)).kept K8 (by omega) (by omega)).fx rfl rfl rfl rfl rfl
  · have h1 : c.fe1.fine = false := by unfold Pl.Mc.fine; rw [E1.out]; simpa using hv
    have hV0 : V1 = 0 := by
      rw [HW1.out]
      exact Pl.lv_zero (Pl.accF_yes (by rw [← HF1.out]; exact hv))
    obtain ⟨ES, EI, EN, EF⟩ := Pl.fetch_A h1
    replace ES := hide ES
    replace EI := hide EI
    replace EN := hide EN
    have EF : Hid (c.fetF = { F1 with pc := c.r.p, wo := V1 }) := hide (by rw [EF, E1.out, hV0])
    clear hV0
    go_wp2_with fail
    go_region
    go_wp2_with fail
    go_region
    go_wp2_with fail
    have K6 := ((kept_one W4 W3.heap.size 1 (.int .i64 c.r.p)).one 3 (.int .i64 V1))
    have K7 := (((((((kept_one ((W4.setCell ⟨W3.heap.size, 1, none⟩ (.int .i64 c.r.p)).setCell ⟨W3.heap.size, 3, none⟩ (.int .i64 V1)) w.heap.size 0 (.int .i64 0)).one 1 (.int .i64 0)).one 2 (.int .i64 0)).one 3 (.int .i64 0)).one 4 (.int .i64 0)).one 5 (.int .i64 0)).one 6 (.int .i64 0))
    have K8 := (kept_drew (kept_drew ((((((kept_one (((((((((W4.setCell ⟨W3.heap.size, 1, none⟩ (.int .i64 c.r.p)).setCell ⟨W3.heap.size, 3, none⟩ (.int .i64 V1)).setCell ⟨w.heap.size, 0, none⟩ (.int .i64 0)).setCell ⟨w.heap.size, 1, none⟩ (.int .i64 0)).setCell ⟨w.heap.size, 2, none⟩ (.int .i64 0)).setCell ⟨w.heap.size, 3, none⟩ (.int .i64 0)).setCell ⟨w.heap.size, 4, none⟩ (.int .i64 0)).setCell ⟨w.heap.size, 5, none⟩ (.int .i64 0)).setCell ⟨w.heap.size, 6, none⟩ (.int .i64 0)) (w.heap.size + 1) 0 (.int .i64 F1.v)).one 1 (.int .i64 c.r.p)).one 2 (.int .i64 F1.ad)).one 3 (.int .i64 V1)).one 4 (.bool F1.wr)))))
    first | simp only [Exit.jump] | rw [Exit.noGoto_ret]
    refine bodyPost_ret (v := .tuple #[.agg #[.int .i64 0, .int .i64 0, .int .i64 0, .int .i64 0, .int .i64 0, .int .i64 0, .int .i64 0], .int .i64 0, .agg #[.int .i64 F1.v, .int .i64 c.r.p, .int .i64 F1.ad, .int .i64 V1, .bool F1.wr]]) ?_ rfl ⟨g3, ?_, ?_, ((S4.out.mine K6 (by omega)).mine K7 (by omega)).mine K8 (by omega)⟩
    · rw [results_ctc rfl]; go_simp
    · rw [EI.out, EN.out, EF.out]; rfl
    · rw [ES.out]; exact (((C4.out.kept K6 (by omega) (by omega)).kept K7 (by omega) (by omega)).kept K8 (by omega) (by omega)).fx rfl rfl rfl rfl rfl
end Go.Proofs.YtblddehlkaolbaaGreat

namespace Go.Proofs.YtblddehlkaolbaaGreat
open Go.RowKit
set_option linter.unusedVariables false
set_option maxHeartbeats 1000000 in
theorem implGoodCpu (w : World) (c : Pl.Cp) (a b e q : Option Addr) (ca cb ce cq : Nat) (ha : Came w a c.r.xs) (hb : Came w b c.r.ys) (he : Came w e c.bx) (hq : Came w q c.bl) (lx : c.r.xs.length ≤ 2000000) (ly : c.r.ys.length ≤ 2000000) (lb : c.bx.length ≤ 2000000) (ll : c.bl.length = 5 * c.bm) (lm : c.bm ≤ 2000000) (wf : Pl.WfR c.r) :
    Calls Tryz.prog 19 #[.agg #[.slice a c.r.xs.length ca, .slice b c.r.ys.length cb, .int .i64 c.r.o, .int .i64 c.r.p, .int .i64 c.r.f, .int .i64 c.r.m, .bool c.r.s, .bool c.r.t, .slice e c.bx.length ce, .slice q c.bm cq, .bool c.st, .bool c.ha]] w fun r w' => r = .returned (.bool (Pl.cpOk c)) ∧ Kept 0 0 w w' := by
  have K0 := hide (kept_alloc w (.cells #[.slice a c.r.xs.length ca, .slice b c.r.ys.length cb, .int .i64 c.r.o, .int .i64 c.r.p, .int .i64 c.r.f, .int .i64 c.r.m, .bool c.r.s, .bool c.r.t, .slice e c.bx.length ce, .slice q c.bm cq, .bool c.st, .bool c.ha] 44))
  have HBA := hide (Blk.new w #[.slice a c.r.xs.length ca, .slice b c.r.ys.length cb, .int .i64 c.r.o, .int .i64 c.r.p, .int .i64 c.r.f, .int .i64 c.r.m, .bool c.r.s, .bool c.r.t, .slice e c.bx.length ce, .slice q c.bm cq, .bool c.st, .bool c.ha] 44)
  obtain ⟨X, hX⟩ : ∃ X : World, w.alloc (.cells #[.slice a c.r.xs.length ca, .slice b c.r.ys.length cb, .int .i64 c.r.o, .int .i64 c.r.p, .int .i64 c.r.f, .int .i64 c.r.m, .bool c.r.s, .bool c.r.t, .slice e c.bx.length ce, .slice q c.bm cq, .bool c.st, .bool c.ha] 44) = X := ⟨_, rfl⟩
  rw [hX] at K0 HBA
  have HA := hide (ha.keptS K0.out)
  have HB := hide (hb.keptS K0.out)
  have HE := hide (he.keptS K0.out)
  have HQ := hide (hq.keptS K0.out)
  clear ha hb he hq
  have p := HBA.out.all
  cases h1 : Pl.rgOk c.r
  · go_enter Tryz.func19, Tryz.ntmps19
    go_wp2_with (go_at_call 36; refine (implGoodRegs _ c.r a b ca cb HA.out HB.out lx ly wf).mono ?_; rintro e9 W ⟨rfl, k9⟩; rw [h1]; have HK1 := hide k9; have HB1 := hide (HBA.out.kept0 k9); have HE1 := hide (HE.out.keptS k9); have HQ1 := hide (HQ.out.keptS k9); clear k9 p; have p := HB1.out.all)
    go_ret
    exact ⟨rB (by unfold Pl.cpOk; simp [h1]), K0.out.trans HK1.out⟩
  · cases h2 : Pl.goodBus c.bx c.bl c.bm
    · go_enter Tryz.func19, Tryz.ntmps19
      go_wp2_with (first | (go_at_call 37; have z9 := HB1; refine (goodBus _ e q ce cq c.bm c.bx c.bl HE1.out HQ1.out lb ll lm).mono ?_; rintro e9 W2 ⟨rfl, k9⟩; rw [h2]; have HK2 := hide k9; have HB2 := hide (HB1.out.kept0 k9); clear k9 p; have p := HB2.out.all) | (go_at_call 36; refine (implGoodRegs _ c.r a b ca cb HA.out HB.out lx ly wf).mono ?_; rintro e9 W ⟨rfl, k9⟩; rw [h1]; have HK1 := hide k9; have HB1 := hide (HBA.out.kept0 k9); have HE1 := hide (HE.out.keptS k9); have HQ1 := hide (HQ.out.keptS k9); clear k9 p; have p := HB1.out.all))
      go_ret
      exact ⟨rB (by unfold Pl.cpOk; simp [h1, h2]), (K0.out.trans HK1.out).trans HK2.out⟩
    · rcases Bool.eq_false_or_eq_true c.st with h3 | h3
      all_goals
        have H3 := hide h3
        clear h3
        go_enter Tryz.func19, Tryz.ntmps19
        go_wp2_with (first | (go_at_call 37; have z9 := HB1; refine (goodBus _ e q ce cq c.bm c.bx c.bl HE1.out HQ1.out lb ll lm).mono ?_; rintro e9 W2 ⟨rfl, k9⟩; rw [h2]; have HK2 := hide k9; have HB2 := hide (HB1.out.kept0 k9); clear k9 p; have p := HB2.out.all; rw [H3.out] at p) | (go_at_call 36; refine (implGoodRegs _ c.r a b ca cb HA.out HB.out lx ly wf).mono ?_; rintro e9 W ⟨rfl, k9⟩; rw [h1]; have HK1 := hide k9; have HB1 := hide (HBA.out.kept0 k9); have HE1 := hide (HE.out.keptS k9); have HQ1 := hide (HQ.out.keptS k9); clear k9 p; have p := HB1.out.all))
        go_ret
        exact ⟨rB (by unfold Pl.cpOk; simp [h1, h2, H3.out]), (K0.out.trans HK1.out).trans HK2.out⟩
end Go.Proofs.YtblddehlkaolbaaGreat

namespace Go.Proofs.YtblddehlkaolbaaGreat
open Go.RowKit
set_option linter.unusedVariables false
namespace Pl
theorem fetch_fine {c : Mc} : (c.fetch.fine = true → c.fetF = ftNo) ∧ (c.fetch.fine = false → c.fetI = inNo ∧ c.fetN = 0 ∧ c.fetF = c.fetch.f) := by
  refine ⟨fun h => by unfold Mc.fetF; rw [h]; rfl, fun h => ?_⟩
  have hF : c.fetF = c.fetch.f := by unfold Mc.fetF; rw [h]; rfl
  cases h1 : c.fe1.fine
  · exact ⟨(fetch_A h1).2.1, (fetch_A h1).2.2.1, hF⟩
  · cases h3 : c.fe3.fine
    · exact ⟨(fetch_B h1 h3).2.1, (fetch_B h1 h3).2.2.1, hF⟩
    · cases hx : inOk c.feX
      · exact ⟨(fetch_C h1 h3 hx).2.1, (fetch_C h1 h3 hx).2.2.1, hF⟩
      · rw [(fetch_D h1 h3 hx).1, h3] at h; cases h
theorem fi_good {c : Cp} (h : cpOk c = true) : fiI c = (Mc.ofC c).fetI ∧ fiN c = (Mc.ofC c).fetN ∧ fiF c = (Mc.ofC c).fetF := by
  unfold fiI fiN fiF fiG
  rw [h]
  cases hf : (Mc.ofC c).fetch.fine
  · obtain ⟨e1, e2, e3⟩ := fetch_fine.2 hf
    rw [e1, e2, e3]; exact ⟨rfl, rfl, rfl⟩
  · rw [fetch_fine.1 hf]; exact ⟨rfl, rfl, rfl⟩
end Pl
theorem results_ctct {fn : Func} {p u q v : Tmp} {ty tz : TypeId} (h : fn.results = #[.cell p ty, .tmp u, .cell q tz, .tmp v]) (tmps : Array Value) (P : Program) (w : World) :
    (results fn tmps).run P w = ((asAddr (tmps.getD p undef)).run P w).andThen fun a w₁ => ((loadVar ty a).run P w₁).andThen fun x w₂ => ((asAddr (tmps.getD q undef)).run P w₂).andThen fun b w₃ => ((loadVar tz b).run P w₃).andThen fun y w₄ => .ok (.tuple #[x, tmps.getD u undef, y, tmps.getD v undef]) w₄ := by
  simp only [results, h]
  simp [Sem.run_bind, Result.andThen]
theorem kept_since' {w a b : World} {lo hi g g' : Nat} (k : Kept 0 0 w a) (h : Since a lo hi g b g') (hl : w.heap.size ≤ lo) (hg : w.heap.size ≤ g) : Kept 0 0 w b :=
  ⟨h.2.os.trans k.os, h.2.tape.trans k.tape, h.2.output.trans k.output, Nat.le_trans k.size h.2.size, fun i hi _ => (h.2.block i (Nat.lt_of_lt_of_le hi k.size) (by unfold own; omega)).trans (k.block i hi (by omega))⟩
set_option maxRecDepth 100000 in
set_option maxHeartbeats 4000000 in
theorem implFetchIns (w : World) (c : Pl.Cp) (a b e q : Option Addr) (ca cb ce cq : Nat) (ha : Came w a c.r.xs) (hb : Came w b c.r.ys) (he : Came w e c.bx) (hq : Came w q c.bl) (lx : c.r.xs.length ≤ 2000000) (ly : c.r.ys.length ≤ 2000000) (lb : c.bx.length ≤ 2000000) (ll : c.bl.length = 5 * c.bm) (lm : c.bm ≤ 2000000) (wf : Pl.WfR c.r) :
    Calls Tryz.prog 7 #[.agg #[.slice a c.r.xs.length ca, .slice b c.r.ys.length cb, .int .i64 c.r.o, .int .i64 c.r.p, .int .i64 c.r.f, .int .i64 c.r.m, .bool c.r.s, .bool c.r.t, .slice e c.bx.length ce, .slice q c.bm cq, .bool c.st, .bool c.ha]] w fun r w' => r = .returned (.tuple #[.agg (insC (Pl.fiI c)), .int .i64 (Pl.fiN c), .agg (ftC (Pl.fiF c)), .bool (Pl.cpOk c)]) ∧ Kept 0 0 w w' := by
  have K0 := hide (kept_new (kept_new (kept_alloc w (.cells #[.slice a c.r.xs.length ca, .slice b c.r.ys.length cb, .int .i64 c.r.o, .int .i64 c.r.p, .int .i64 c.r.f, .int .i64 c.r.m, .bool c.r.s, .bool c.r.t, .slice e c.bx.length ce, .slice q c.bm cq, .bool c.st, .bool c.ha] 44)) (.cells #[.int .i64 0, .int .i64 0, .int .i64 0, .int .i64 0, .int .i64 0, .int .i64 0, .int .i64 0] 34)) (.cells #[.int .i64 0, .int .i64 0, .int .i64 0, .int .i64 0, .bool false] 36))
  have BA := hide (((Blk.new w #[.slice a c.r.xs.length ca, .slice b c.r.ys.length cb, .int .i64 c.r.o, .int .i64 c.r.p, .int .i64 c.r.f, .int .i64 c.r.m, .bool c.r.s, .bool c.r.t, .slice e c.bx.length ce, .slice q c.bm cq, .bool c.st, .bool c.ha] 44).alloc (.cells #[.int .i64 0, .int .i64 0, .int .i64 0, .int .i64 0, .int .i64 0, .int .i64 0, .int .i64 0] 34)).alloc (.cells #[.int .i64 0, .int .i64 0, .int .i64 0, .int .i64 0, .bool false] 36))
  have I0 := (Blk.new (w.alloc (.cells #[.slice a c.r.xs.length ca, .slice b c.r.ys.length cb, .int .i64 c.r.o, .int .i64 c.r.p, .int .i64 c.r.f, .int .i64 c.r.m, .bool c.r.s, .bool c.r.t, .slice e c.bx.length ce, .slice q c.bm cq, .bool c.st, .bool c.ha] 44)) #[.int .i64 0, .int .i64 0, .int .i64 0, .int .i64 0, .int .i64 0, .int .i64 0, .int .i64 0] 34).alloc (.cells #[.int .i64 0, .int .i64 0, .int .i64 0, .int .i64 0, .bool false] 36)
  have R0 := Blk.new ((w.alloc (.cells #[.slice a c.r.xs.length ca, .slice b c.r.ys.length cb, .int .i64 c.r.o, .int .i64 c.r.p, .int .i64 c.r.f, .int .i64 c.r.m, .bool c.r.s, .bool c.r.t, .slice e c.bx.length ce, .slice q c.bm cq, .bool c.st, .bool c.ha] 44)).alloc (.cells #[.int .i64 0, .int .i64 0, .int .i64 0, .int .i64 0, .int .i64 0, .int .i64 0, .int .i64 0] 34)) #[.int .i64 0, .int .i64 0, .int .i64 0, .int .i64 0, .bool false] 36
  simp only [World.size_alloc] at I0 R0
  replace I0 := hide I0
  replace R0 := hide R0
  obtain ⟨X, hX⟩ : ∃ X : World, ((w.alloc (.cells #[.slice a c.r.xs.length ca, .slice b c.r.ys.length cb, .int .i64 c.r.o, .int .i64 c.r.p, .int .i64 c.r.f, .int .i64 c.r.m, .bool c.r.s, .bool c.r.t, .slice e c.bx.length ce, .slice q c.bm cq, .bool c.st, .bool c.ha] 44)).alloc (.cells #[.int .i64 0, .int .i64 0, .int .i64 0, .int .i64 0, .int .i64 0, .int .i64 0, .int .i64 0] 34)).alloc (.cells #[.int .i64 0, .int .i64 0, .int .i64 0, .int .i64 0, .bool false] 36) = X := ⟨_, rfl⟩
  rw [hX] at K0 BA I0 R0
  have HA := hide (ha.keptS K0.out)
  have HB := hide (hb.keptS K0.out)
  have HE := hide (he.keptS K0.out)
  have HQ := hide (hq.keptS K0.out)
  have sX : w.heap.size + 1 + 1 < X.heap.size := R0.out.lt
  clear ha hb he hq
  have p := BA.out.all
  cases h1 : Pl.cpOk c
  · have EI : Hid (Pl.fiI c = Pl.inNo) := hide (by unfold Pl.fiI Pl.fiG; rw [h1]; rfl)
    have EN : Hid (Pl.fiN c = 0) := hide (by unfold Pl.fiN Pl.fiG; rw [h1]; rfl)
    have EF : Hid (Pl.fiF c = Pl.ftNo) := hide (by unfold Pl.fiF; rw [h1]; rfl)
    go_enter Tryz.func7, Tryz.ntmps7
    go_wp2_with (go_at_call 19; refine (implGoodCpu _ c a b e q ca cb ce cq HA.out HB.out HE.out HQ.out lx ly lb ll lm wf).mono ?_; rintro e9 W1 ⟨rfl, k9⟩; rw [h1]; have K1 := hide k9; have I1 := hide (I0.out.kept0 k9); have R1 := hide (R0.out.kept0 k9); have p1 := (BA.out.kept0 k9).all; have i1 := I1.out.all; have if1 := I1.out.fz; have r1 := R1.out.all; have rf1 := R1.out.fz; clear k9)
    have s1 := K1.out.size
    have K5 := (((((((kept_one W1 (w.heap.size + 1) 0 (.int .i64 0)).one 1 (.int .i64 0)).one 2 (.int .i64 0)).one 3 (.int .i64 0)).one 4 (.int .i64 0)).one 5 (.int .i64 0)).one 6 (.int .i64 0))
    have K6 := (((((kept_one (((((((W1.setCell ⟨(w.heap.size + 1), 0, none⟩ (.int .i64 0)).setCell ⟨(w.heap.size + 1), 1, none⟩ (.int .i64 0)).setCell ⟨(w.heap.size + 1), 2, none⟩ (.int .i64 0)).setCell ⟨(w.heap.size + 1), 3, none⟩ (.int .i64 0)).setCell ⟨(w.heap.size + 1), 4, none⟩ (.int .i64 0)).setCell ⟨(w.heap.size + 1), 5, none⟩ (.int .i64 0)).setCell ⟨(w.heap.size + 1), 6, none⟩ (.int .i64 0)) (w.heap.size + 1 + 1) 0 (.int .i64 0)).one 1 (.int .i64 0)).one 2 (.int .i64 0)).one 3 (.int .i64 0)).one 4 (.bool false))
    refine bodyPost_ret (v := .tuple #[.agg #[.int .i64 0, .int .i64 0, .int .i64 0, .int .i64 0, .int .i64 0, .int .i64 0, .int .i64 0], .int .i64 0, .agg #[.int .i64 0, .int .i64 0, .int .i64 0, .int .i64 0, .bool false], .bool false]) ?_ rfl ⟨by rw [EI.out, EN.out, EF.out]; rfl, kept_over (kept_over (K0.out.trans K1.out) K5 (by omega)) K6 (by omega)⟩
    rw [results_ctct rfl]; go_simp
  · have HG := hide (Pl.GM.of h1 ll c.st)
    obtain ⟨EI, EN, EF⟩ := Pl.fi_good h1
    obtain ⟨x, hx⟩ : ∃ x, x = (Pl.Mc.ofC c).fetI := ⟨_, rfl⟩
    obtain ⟨N, hN⟩ : ∃ N, N = (Pl.Mc.ofC c).fetN := ⟨_, rfl⟩
    obtain ⟨F, hF⟩ : ∃ F, F = (Pl.Mc.ofC c).fetF := ⟨_, rfl⟩
    rw [← hx] at EI
    rw [← hN] at EN
    rw [← hF] at EF
    replace EI := hide EI
    replace EN := hide EN
    replace EF := hide EF
    have HX := hide hx
    have HN := hide hN
    have HF := hide hF
    clear hx hN hF
    go_enter Tryz.func7, Tryz.ntmps7
    go_wp2_with (first | (go_at_call 19; refine (implGoodCpu _ c a b e q ca cb ce cq HA.out HB.out HE.out HQ.out lx ly lb ll lm wf).mono ?_; rintro e9 W1 ⟨rfl, k9⟩; rw [h1]; have K1 := hide k9; have I1 := hide (I0.out.kept0 k9); have R1 := hide (R0.out.kept0 k9); have p1 := (BA.out.kept0 k9).all; have i1 := I1.out.all; have if1 := I1.out.fz; have r1 := R1.out.all; have rf1 := R1.out.fz; clear k9) | (go_at_call 20; refine (coreOf _ c a b e q ca cb ce cq (HA.out.keptS K1.out).1 (HB.out.keptS K1.out).1 (HE.out.keptS K1.out).1 (HQ.out.keptS K1.out).1 HG.out.g.d4 HG.out.g.a4 HG.out.bx ll HG.out.bm).mono ?_; rintro e9 W3 ⟨P, g, rfl, hc9, k9⟩; have C3 := hide hc9; have I3 := hide (I1.out.kept0 k9); have R3 := hide (R1.out.kept0 k9); have K3 := hide ((K0.out.trans K1.out).trans k9); have s3 : X.heap.size ≤ W1.heap.size := K1.out.size; obtain ⟨y0, y1, y2, y3, y4⟩ := hc9.lt; clear hc9 k9) | (go_at_call 21; have z9 := C3; refine (cFetch _ W1.heap.size P g (Pl.Mc.ofC c) c.ha C3.out (show Pl.GM (Pl.Mc.ofC c) from HG.out) rfl).mono ?_; rintro e9 W4 ⟨g', rfl, hc4, hs4⟩; rw [← HX.out, ← HN.out, ← HF.out]; have I4 := hide (hs4.2.blk I3.out (by unfold own; omega)); have R4 := hide (hs4.2.blk R3.out (by unfold own; omega)); have K4 := hide (kept_since' K3.out hs4 (by omega) (by omega)); have s4 := hs4.size; unfold insC ftC; clear hc4 hs4))
    have K5 : Hid (Kept 0 0 w ((W4.alloc (.cells #[.int .i64 x.op, .int .i64 x.z, .int .i64 x.r, .int .i64 x.m, .int .i64 x.k, .int .i64 x.e, .int .i64 x.s] 34)).alloc (.cells #[.int .i64 F.v, .int .i64 F.pc, .int .i64 F.ad, .int .i64 F.wo, .bool F.wr] 36))) := hide (kept_new (kept_new K4.out _) _)
    have I5 := hide ((I4.out.alloc (.cells #[.int .i64 x.op, .int .i64 x.z, .int .i64 x.r, .int .i64 x.m, .int .i64 x.k, .int .i64 x.e, .int .i64 x.s] 34)).alloc (.cells #[.int .i64 F.v, .int .i64 F.pc, .int .i64 F.ad, .int .i64 F.wo, .bool F.wr] 36))
    have R5 := hide ((R4.out.alloc (.cells #[.int .i64 x.op, .int .i64 x.z, .int .i64 x.r, .int .i64 x.m, .int .i64 x.k, .int .i64 x.e, .int .i64 x.s] 34)).alloc (.cells #[.int .i64 F.v, .int .i64 F.pc, .int .i64 F.ad, .int .i64 F.wo, .bool F.wr] 36))
    have A5 := (Blk.new W4 #[.int .i64 x.op, .int .i64 x.z, .int .i64 x.r, .int .i64 x.m, .int .i64 x.k, .int .i64 x.e, .int .i64 x.s] 34).alloc (.cells #[.int .i64 F.v, .int .i64 F.pc, .int .i64 F.ad, .int .i64 F.wo, .bool F.wr] 36)
    have B5 := Blk.new (W4.alloc (.cells #[.int .i64 x.op, .int .i64 x.z, .int .i64 x.r, .int .i64 x.m, .int .i64 x.k, .int .i64 x.e, .int .i64 x.s] 34)) #[.int .i64 F.v, .int .i64 F.pc, .int .i64 F.ad, .int .i64 F.wo, .bool F.wr] 36
    simp only [World.size_alloc] at A5 B5
    replace A5 := hide A5
    replace B5 := hide B5
    obtain ⟨Y, hY⟩ : ∃ Y : World, (W4.alloc (.cells #[.int .i64 x.op, .int .i64 x.z, .int .i64 x.r, .int .i64 x.m, .int .i64 x.k, .int .i64 x.e, .int .i64 x.s] 34)).alloc (.cells #[.int .i64 F.v, .int .i64 F.pc, .int .i64 F.ad, .int .i64 F.wo, .bool F.wr] 36) = Y := ⟨_, rfl⟩
    rw [hY] at K5 I5 R5 A5 B5 ⊢
    clear hY p p1 i1 if1 r1 rf1
    have i5 := I5.out.all
    have if5 := I5.out.fz
    have r5 := R5.out.all
    have rf5 := R5.out.fz
    have a5 := A5.out.all
    have b5 := B5.out.all
    go_region
    go_wp2_with fail
    have K6 := (((((((kept_one Y (w.heap.size + 1) 0 (.int .i64 x.op)).one 1 (.int .i64 x.z)).one 2 (.int .i64 x.r)).one 3 (.int .i64 x.m)).one 4 (.int .i64 x.k)).one 5 (.int .i64 x.e)).one 6 (.int .i64 x.s))
    have K7 := kept_drew (((((kept_one (((((((Y.setCell ⟨(w.heap.size + 1), 0, none⟩ (.int .i64 x.op)).setCell ⟨(w.heap.size + 1), 1, none⟩ (.int .i64 x.z)).setCell ⟨(w.heap.size + 1), 2, none⟩ (.int .i64 x.r)).setCell ⟨(w.heap.size + 1), 3, none⟩ (.int .i64 x.m)).setCell ⟨(w.heap.size + 1), 4, none⟩ (.int .i64 x.k)).setCell ⟨(w.heap.size + 1), 5, none⟩ (.int .i64 x.e)).setCell ⟨(w.heap.size + 1), 6, none⟩ (.int .i64 x.s)) (w.heap.size + 1 + 1) 0 (.int .i64 F.v)).one 1 (.int .i64 F.pc)).one 2 (.int .i64 F.ad)).one 3 (.int .i64 F.wo)).one 4 (.bool F.wr))
    refine bodyPost_ret (v := .tuple #[.agg #[.int .i64 x.op, .int .i64 x.z, .int .i64 x.r, .int .i64 x.m, .int .i64 x.k, .int .i64 x.e, .int .i64 x.s], .int .i64 N, .agg #[.int .i64 F.v, .int .i64 F.pc, .int .i64 F.ad, .int .i64 F.wo, .bool F.wr], .bool true]) ?_ rfl ⟨by rw [EI.out, EN.out, EF.out]; rfl, kept_over (kept_over K5.out K6 (by omega)) K7 (by omega)⟩
    rw [results_ctct rfl]; go_simp
end Go.Proofs.YtblddehlkaolbaaGreat

