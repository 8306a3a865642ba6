/- The law on StepDevice: of whatever device and step, its Go function returns true, and no block that was there has turned. -/
import Derived.Test.YtlocilcnmbmikaaDevFns
import Derived.Test.YtlocilcnmbmikaaDevSteps
import Derived.Test.YtlocilcnmbmikaaSpecDev7
import Derived.Test.YtlocilcnmbmikaaImplGoodD
import Derived.Test.YtlocilcnmbmikaaRegFrame
import Derived.Deep.DeepCutAuto
namespace Go.Proofs.Ytlocilcnmbmikaa
open Go.RowKit
set_option linter.unusedVariables false
theorem six_kept (W : World) (B : Nat) (v0 v1 v2 v3 v4 v5 : Value) : Kept B (B + 1) W ((((((W.setCell ⟨B, 0, none⟩ v0).setCell ⟨B, 1, none⟩ v1).setCell ⟨B, 2, none⟩ v2).setCell ⟨B, 3, none⟩ v3).setCell ⟨B, 4, none⟩ v4).setCell ⟨B, 5, none⟩ v5) :=
  kept_set (kept_set (kept_set (kept_set (kept_set (kept_set (Kept.refl _ _ _) _ _ _ (.inl ⟨Nat.le_refl _, by omega⟩)) _ _ _ (.inl ⟨Nat.le_refl _, by omega⟩)) _ _ _ (.inl ⟨Nat.le_refl _, by omega⟩)) _ _ _ (.inl ⟨Nat.le_refl _, by omega⟩)) _ _ _ (.inl ⟨Nat.le_refl _, by omega⟩)) _ _ _ (.inl ⟨Nat.le_refl _, by omega⟩)
/-- what the program's StepDevice answers, for every device and step -/
def StepImpl : Prop := ∀ (w : World) (d : Pl.Dev) (a b : Option Addr) (ca cb : Nat) (k p v : Int) (ha : Came w a d.xs) (hb : Came w b d.ys) (lx : d.xs.length ≤ 2000000) (ly : d.ys.length ≤ 2000000) (wfd : Pl.Wf d) (wfk : (Lit.int .i64 k).wf = true) (wfp : (Lit.int .i64 p).wf = true) (wfv : (Lit.int .i64 v).wf = true),
    Calls Try.prog 21 #[.agg #[.int .i64 d.e, .int .i64 d.l, .bool d.r, .slice a d.xs.length ca, .slice b d.ys.length cb, .int .i64 d.t], .agg #[.int .i64 k, .int .i64 p, .int .i64 v]] w fun e w' => ∃ (a' b' : Option Addr) (ca' cb' : Nat), e = .returned (.tuple #[.agg #[.int .i64 (Pl.sdD d k p v).e, .int .i64 (Pl.sdD d k p v).l, .bool (Pl.sdD d k p v).r, .slice a' (Pl.sdD d k p v).xs.length ca', .slice b' (Pl.sdD d k p v).ys.length cb', .int .i64 (Pl.sdD d k p v).t], .int .i64 (Pl.sdV d k p v), .bool (Pl.sdOk d k p v)]) ∧ DevIn w' w.heap.size (Pl.sdD d k p v) a' b' ca' ∧ Kept 0 0 w w'
theorem kept3 {w w3 : World} {o1 o2 o3 : Obj} (h : w3 = ((w.alloc o1).alloc o2).alloc o3) : Kept 0 0 w w3 := by rw [h]; exact kept_new (kept_new (kept_alloc _ _) _) _
/-- a device answered into a box: its lists in a span, the box outside it -/
def StepRel (Y W : World) (D : Pl.Dev) (B lo hi : Nat) (a b : Option Addr) (ca cb : Nat) : Prop :=
  Blk W B #[.int .i64 D.e, .int .i64 D.l, .bool D.r, .slice a D.xs.length ca, .slice b D.ys.length cb, .int .i64 D.t] 24 ∧ SlotIn W lo hi a D.xs ∧ SlotIn W lo hi b D.ys ∧ (∀ g, blk a = some g → blk b ≠ some g) ∧ Kept 0 0 Y W ∧ Y.heap.size ≤ B ∧ Y.heap.size ≤ lo ∧ hi ≤ W.heap.size ∧ (B < lo ∨ hi ≤ B)
set_option maxHeartbeats 1000000 in
theorem stepRel_before {Y w4 : World} {D : Pl.Dev} {B lo : Nat} {a b : Option Addr} {ca cb : Nat} (o : Blk w4 B #[.int .i64 0, .int .i64 0, .bool false, .slice none 0 0, .slice none 0 0, .int .i64 0] 24) (hD : DevIn w4 lo D a b ca) (k : Kept 0 0 Y w4) (hB : Y.heap.size ≤ B) (hl : B < lo) :
    StepRel Y ((((((w4.setCell ⟨B, 0, none⟩ (.int .i64 D.e)).setCell ⟨B, 1, none⟩ (.int .i64 D.l)).setCell ⟨B, 2, none⟩ (.bool D.r)).setCell ⟨B, 3, none⟩ (.slice a D.xs.length ca)).setCell ⟨B, 4, none⟩ (.slice b D.ys.length cb)).setCell ⟨B, 5, none⟩ (.int .i64 D.t)) D B lo w4.heap.size a b ca cb := by
  have hx : ∀ g, blk a = some g ∨ blk b = some g → g ≠ B := by
    intro g hg
    rcases hg with hg | hg
    · have := hD.1.blk_in g hg; omega
    · have := hD.2.1.blk_in g hg; omega
  have h6 : DevIn ((((((w4.setCell ⟨B, 0, none⟩ (.int .i64 D.e)).setCell ⟨B, 1, none⟩ (.int .i64 D.l)).setCell ⟨B, 2, none⟩ (.bool D.r)).setCell ⟨B, 3, none⟩ (.slice a D.xs.length ca)).setCell ⟨B, 4, none⟩ (.slice b D.ys.length cb)).setCell ⟨B, 5, none⟩ (.int .i64 D.t)) lo D a b ca := ((((((hD.setOther _ _ _ hx).setOther _ _ _ hx).setOther _ _ _ hx).setOther _ _ _ hx).setOther _ _ _ hx).setOther _ _ _ hx)
  have hs : ((((((w4.setCell ⟨B, 0, none⟩ (.int .i64 D.e)).setCell ⟨B, 1, none⟩ (.int .i64 D.l)).setCell ⟨B, 2, none⟩ (.bool D.r)).setCell ⟨B, 3, none⟩ (.slice a D.xs.length ca)).setCell ⟨B, 4, none⟩ (.slice b D.ys.length cb)).setCell ⟨B, 5, none⟩ (.int .i64 D.t)).heap.size = w4.heap.size := by simp
  refine ⟨((((((o.set 0 _).set 1 _).set 2 _).set 3 _).set 4 _).set 5 _), ?_, ?_, hD.2.2.1, (kept_set (kept_set (kept_set (kept_set (kept_set (kept_set k _ _ _ (.inr hB)) _ _ _ (.inr hB)) _ _ _ (.inr hB)) _ _ _ (.inr hB)) _ _ _ (.inr hB)) _ _ _ (.inr hB)), hB, by omega, by omega, .inl hl⟩
  · have := h6.1; rwa [hs] at this
  · have := h6.2.1; rwa [hs] at this
theorem stepRel_after {Y w4 : World} {D : Pl.Dev} {lo : Nat} {a b : Option Addr} {ca cb : Nat} (hD : DevIn w4 lo D a b ca) (k : Kept 0 0 Y w4) (hl : Y.heap.size ≤ lo) :
    StepRel Y (w4.alloc (.cells #[.int .i64 D.e, .int .i64 D.l, .bool D.r, .slice a D.xs.length ca, .slice b D.ys.length cb, .int .i64 D.t] 24)) D w4.heap.size lo w4.heap.size a b ca cb :=
  ⟨Blk.new _ _ _, hD.1.kept (kept_alloc _ _) (by omega), hD.2.1.kept (kept_alloc _ _) (by omega), hD.2.2.1, kept_new k _, k.size, hl, by simp, .inr (Nat.le_refl _)⟩

set_option maxRecDepth 100000 in
set_option maxHeartbeats 64000000 in
theorem lawStepDevice (HI : Hid StepImpl) (d : Pl.Dev) (a b : Option Addr) (ca cb : Nat) (q p v : Int) (w : World) (hx : Came w a d.xs) (hy : Came w b d.ys) (lx : d.xs.length ≤ 9223372036854775807) (ly : d.ys.length ≤ 9223372036854775807) (wfd : Pl.Wf d) (wfk : (Lit.int .i64 q).wf = true) (wfp : (Lit.int .i64 p).wf = true) (wfv : (Lit.int .i64 v).wf = true) :
    Calls Try.prog 5 #[.agg #[.int .i64 d.e, .int .i64 d.l, .bool d.r, .slice a d.xs.length ca, .slice b d.ys.length cb, .int .i64 d.t], .agg #[.int .i64 q, .int .i64 p, .int .i64 v]] w fun e w' => e = .returned (.bool true) ∧ Below w.heap.size w w' := by
  have HX := hide hx
  have HY := hide hy
  have HWF := hide wfd
  have Bel := hide (kept_new (kept_alloc w (.cells #[.int .i64 d.e, .int .i64 d.l, .bool d.r, .slice a d.xs.length ca, .slice b d.ys.length cb, .int .i64 d.t] 29)) (.cells #[.int .i64 q, .int .i64 p, .int .i64 v] 35)).below
  have WA := hide ((Blk.new w #[.int .i64 d.e, .int .i64 d.l, .bool d.r, .slice a d.xs.length ca, .slice b d.ys.length cb, .int .i64 d.t] 29).alloc (.cells #[.int .i64 q, .int .i64 p, .int .i64 v] 35))
  have WX := Blk.new (w.alloc (.cells #[.int .i64 d.e, .int .i64 d.l, .bool d.r, .slice a d.xs.length ca, .slice b d.ys.length cb, .int .i64 d.t] 29)) #[.int .i64 q, .int .i64 p, .int .i64 v] 35
  simp only [World.size_alloc] at WX
  replace WX := hide WX
  have hn := Pl.sd_len d q p v
  clear hx hy wfd
  by_cases hs : szB d.xs.length d.ys.length 1048576 < 0
  · go_enter Try.func5, Try.ntmps5
    go_wp2_with fail
    refine (szDevice _ d.e d.l d.t d.r a b ca cb d.xs.length d.ys.length 1048576 lx ly (by decide) (by decide)).mono ?_
    rintro e w1 ⟨rfl, k⟩
    have Bn := hide (below_kept Bel.out k (by omega))
    clear k
    go_wp2_with fail
    go_ret
    exact ⟨rfl, Bn.out⟩
  · have hb := szB_neg hs
    have bx : d.xs.length ≤ 2000000 := by omega
    have bm : d.ys.length ≤ 2000000 := by omega
    have ds : decide (szB d.xs.length d.ys.length 1048576 < 0) = false := by simpa using hs
    clear hs hb
    generalize hDD : Pl.sdD d q p v = D at hn
    generalize hVV : Pl.sdV d q p v = V
    generalize hKK : Pl.sdOk d q p v = K
    obtain ⟨bD, bE⟩ : D.xs.length ≤ 2000000 ∧ D.ys.length ≤ 2000000 := ⟨by omega, by omega⟩
    have HDD := hide hDD
    have HVV := hide hVV
    have HKK := hide hKK
    clear hDD hVV hKK
    go_enter Try.func5, Try.ntmps5
    go_wp2_with fail
    refine (szDevice _ d.e d.l d.t d.r a b ca cb d.xs.length d.ys.length 1048576 lx ly (by decide) (by decide)).mono ?_
    rintro e w1 ⟨rfl, k1⟩
    have Beln := hide (below_kept Bel.out k1 (by omega))
    have WAn := hide (WA.out.kept k1 (by omega))
    have WXn := hide (WX.out.kept k1 (by omega))
    clear Bel WA WX
    have Bel := Beln
    have WA := WAn
    have WX := WXn
    clear Beln WAn WXn
    have n1 := k1.size
    simp only [World.size_alloc] at n1
    clear k1
    have p00 := WA.out.cell (i := 0) rfl
    have p01 := WA.out.cell (i := 1) rfl
    have p02 := WA.out.cell (i := 2) rfl
    have p03 := WA.out.cell (i := 3) rfl
    have p04 := WA.out.cell (i := 4) rfl
    have p05 := WA.out.cell (i := 5) rfl
    go_upto_region 5 with fail
    clear p00 p01 p02 p03 p04 p05
    clear ds
    have IX := hide (HX.out.below Bel.out).1
    have IY := hide (HY.out.below Bel.out).1
    have KY := hide (Kept.refl 0 0 w1)
    go_upto_region 5 with fail
    go_cut [6, 7, 8, 25, 26, 27, 28, 29, 24, 30, 31, 32] (fun pp zz kk _ _ _ _ _ _ _ _ _ W => ∃ (X : World) (B lo hi : Nat) (a0 b0 : Option Addr) (ca0 cb0 : Nat), X = W ∧ pp = .pointer (some ⟨B, 0, none⟩) ∧ zz = .int .i64 V ∧ kk = .bool K ∧ StepRel w1 W D B lo hi a0 b0 ca0 cb0)
    case first =>
      clear Bel
      refine wp_region_inv2 (fun A0 l A W => ∃ (a0 b0 : Option Addr) (ca0 cb0 lo hi B : Nat), FR [25, 26, 27, 28, 29, 24, 30, 31, 32, 6, 7, 8] A0 A ∧ Once l 0 (A.tmps[25]? = some (.agg #[.int .i64 d.e, .int .i64 d.l, .bool d.r, .slice a d.xs.length ca, .slice b d.ys.length cb, .int .i64 d.t])) ∧ Once l 1 (l.getD 10 true = false → ∃ h1 h2 : Nat, A.tmps[26]? = some (.agg #[.int .i64 d.e, .int .i64 d.l, .bool d.r, .slice (some ⟨h1, 0, none⟩) d.xs.length d.xs.length, .slice (some ⟨h2, 0, none⟩) d.ys.length d.ys.length, .int .i64 d.t]) ∧ Own W h1 d.xs ∧ Own W h2 d.ys) ∧ Once l 2 (A.tmps[27]? = some (.agg #[.int .i64 q, .int .i64 p, .int .i64 v])) ∧ Once l 3 (A.tmps[28]? = some (.agg #[.int .i64 q, .int .i64 p, .int .i64 v])) ∧ Once l 4 (A.tmps[29]? = some (.tuple #[.agg #[.int .i64 D.e, .int .i64 D.l, .bool D.r, .slice a0 D.xs.length ca0, .slice b0 D.ys.length cb0, .int .i64 D.t], .int .i64 V, .bool K]) ∧ SlotIn W lo hi a0 D.xs ∧ SlotIn W lo hi b0 D.ys ∧ (∀ g, blk a0 = some g → blk b0 ≠ some g) ∧ w1.heap.size ≤ lo ∧ hi ≤ W.heap.size) ∧ Once l 5 (l.getD 4 true = true ∧ A.tmps[24]? = some (.tuple #[.agg #[.int .i64 D.e, .int .i64 D.l, .bool D.r, .slice a0 D.xs.length ca0, .slice b0 D.ys.length cb0, .int .i64 D.t], .int .i64 V, .bool K])) ∧ Once l 6 (l.getD 4 true = true ∧ A.tmps[30]? = some (.agg #[.int .i64 D.e, .int .i64 D.l, .bool D.r, .slice a0 D.xs.length ca0, .slice b0 D.ys.length cb0, .int .i64 D.t])) ∧ Once l 7 (l.getD 4 true = true ∧ A.tmps[31]? = some (.int .i64 V)) ∧ Once l 8 (l.getD 4 true = true ∧ A.tmps[32]? = some (.bool K)) ∧ Once l 9 (A.tmps[6]? = some (.pointer (some ⟨B, 0, none⟩)) ∧ w1.heap.size ≤ B ∧ B < W.heap.size ∧ (l.getD 10 true = false → Blk W B #[.int .i64 0, .int .i64 0, .bool false, .slice none 0 0, .slice none 0 0, .int .i64 0] 24)) ∧ Once l 10 (l.getD 4 true = true ∧ l.getD 9 true = true ∧ Blk W B #[.int .i64 D.e, .int .i64 D.l, .bool D.r, .slice a0 D.xs.length ca0, .slice b0 D.ys.length cb0, .int .i64 D.t] 24) ∧ Once l 11 (l.getD 4 true = true ∧ A.tmps[7]? = some (.int .i64 V)) ∧ Once l 12 (l.getD 4 true = true ∧ A.tmps[8]? = some (.bool K)) ∧ (l.getD 4 true = true → l.getD 9 true = true → B < lo ∨ hi ≤ B) ∧ Kept 0 0 w1 W) (by kernel_rfl) (by kernel_rfl) ?start ?fin ?step
      case start => exact ⟨none, none, 0, 0, 0, 0, 0, FR.refl _ _, once_start (by decide), once_start (by decide), once_start (by decide), once_start (by decide), once_start (by decide), once_start (by decide), once_start (by decide), once_start (by decide), once_start (by decide), once_start (by decide), once_start (by decide), once_start (by decide), once_start (by decide), fun h => (by rw [start_at (by decide)] at h; cases h), kept_drew (Kept.refl _ _ _)⟩
      case fin =>
        intro l A W h hl
        obtain ⟨a0, b0, ca0, cb0, lo, hi, B, hFR, o_ld, o_toD, o_lx, o_toX, o_F, o_mv, o_e0, o_e1, o_e2, o_al, o_st, o_a1, o_a2, hsep, hK⟩ := h
        have q_F := o_F (hl 4 (by decide))
        have q_al := o_al (hl 9 (by decide))
        have q_st := o_st (hl 10 (by decide))
        have q_a1 := o_a1 (hl 11 (by decide))
        have q_a2 := o_a2 (hl 12 (by decide))
        have q_sep := hsep (hl 4 (by decide)) (hl 9 (by decide))
        obtain ⟨_, g1⟩ := q_a1
        obtain ⟨_, g2⟩ := q_a2
        obtain ⟨g0, q1, q2, _⟩ := q_al
        obtain ⟨_, q3, q4, q5, q6, q7⟩ := q_F
        obtain ⟨_, _, q8⟩ := q_st
        have QQ : Hid (StepRel w1 W D B lo hi a0 b0 ca0 cb0) := hide ⟨q8, q3, q4, q5, hK, q1, q6, q7, q_sep⟩
        have hc := hFR.chain
        simp only [List.foldl] at hc
        rw [getD_of g0, getD_of g1, getD_of g2] at hc
        clear hl hK hsep q1 q2 q3 q4 q5 q6 q7 q8 q_sep hFR g0 g1 g2 o_ld o_toD o_lx o_toX o_F o_mv o_e0 o_e1 o_e2 o_al o_st o_a1 o_a2
        generalize A.tmps.getD 25 undef = s25 at hc
        generalize A.tmps.getD 26 undef = s26 at hc
        generalize A.tmps.getD 27 undef = s27 at hc
        generalize A.tmps.getD 28 undef = s28 at hc
        generalize A.tmps.getD 29 undef = s29 at hc
        generalize A.tmps.getD 24 undef = s24 at hc
        generalize A.tmps.getD 30 undef = s30 at hc
        generalize A.tmps.getD 31 undef = s31 at hc
        generalize A.tmps.getD 32 undef = s32 at hc
        subst hc
        go_simp
        go_step
        go_meet
        case rel => exact ⟨_, _, lo, hi, a0, b0, ca0, cb0, rfl, rfl, rfl, rfl, QQ.out⟩
      case step =>
        intro l A W i hI hm
        obtain ⟨a0, b0, ca0, cb0, lo, hi, B, hFR, o_ld, o_toD, o_lx, o_toX, o_F, o_mv, o_e0, o_e1, o_e2, o_al, o_st, o_a1, o_a2, hsep, hK⟩ := hI
        obtain ⟨hi1, hi2⟩ := ready_new hm
        have hsz : Hid (32 < A.tmps.size) := hide (by rw [hFR.size]; simp)
        have m1 : A.tmps[2]? = some (.pointer (some ⟨w.heap.size, 0, none⟩)) := (hFR.out 2 (by decide)).trans rfl
        have m2 : A.tmps[3]? = some (.pointer (some ⟨w.heap.size + 1, 0, none⟩)) := (hFR.out 3 (by decide)).trans rfl
        rcases i with _ | _ | _ | _ | _ | _ | _ | _ | _ | _ | _ | _ | _ | i
        · have x0 := (WA.out.kept0 hK).cell (i := 0) rfl
          have x1 := (WA.out.kept0 hK).cell (i := 1) rfl
          have x2 := (WA.out.kept0 hK).cell (i := 2) rfl
          have x3 := (WA.out.kept0 hK).cell (i := 3) rfl
          have x4 := (WA.out.kept0 hK).cell (i := 4) rfl
          have x5 := (WA.out.kept0 hK).cell (i := 5) rfl
          refine wpOp_step rfl (fun K2 hK2 => ?_)
          go_simp
          exact hK2 (A.put (some 25) (.agg #[.int .i64 d.e, .int .i64 d.l, .bool d.r, .slice a d.xs.length ca, .slice b d.ys.length cb, .int .i64 d.t])) _ ⟨a0, b0, ca0, cb0, lo, hi, B, hFR.put (by decide) _, .now (put_eq (by have hz := hsz.out; omega)), o_toD.past (by decide) (fun h e => by obtain ⟨h1, h2, q0, q1, q2⟩ := h (by rwa [getD_set_ne (by decide)] at e); exact ⟨h1, h2, ((put_ne (by decide)).trans q0), q1, q2⟩), o_lx.past (by decide) (fun h => ((put_ne (by decide)).trans h)), o_toX.past (by decide) (fun h => ((put_ne (by decide)).trans h)), o_F.past (by decide) (fun h => ⟨((put_ne (by decide)).trans h.1), h.2⟩), o_mv.past (by decide) (fun h => ⟨getD_mono h.1, ((put_ne (by decide)).trans h.2)⟩), o_e0.past (by decide) (fun h => ⟨getD_mono h.1, ((put_ne (by decide)).trans h.2)⟩), o_e1.past (by decide) (fun h => ⟨getD_mono h.1, ((put_ne (by decide)).trans h.2)⟩), o_e2.past (by decide) (fun h => ⟨getD_mono h.1, ((put_ne (by decide)).trans h.2)⟩), o_al.past (by decide) (fun h => ⟨((put_ne (by decide)).trans h.1), h.2.1, h.2.2.1, fun e => h.2.2.2 (by rwa [getD_set_ne (by decide)] at e)⟩), o_st.past (by decide) (fun h => ⟨getD_mono h.1, getD_mono h.2.1, h.2.2⟩), o_a1.past (by decide) (fun h => ⟨getD_mono h.1, ((put_ne (by decide)).trans h.2)⟩), o_a2.past (by decide) (fun h => ⟨getD_mono h.1, ((put_ne (by decide)).trans h.2)⟩), fun h9 h8 => hsep (by rwa [getD_set_ne (by decide)] at h9) (by rwa [getD_set_ne (by decide)] at h8), hK⟩
        · have e1 := o_ld (ready_dep hm 0 (by kernel_rfl))
          refine wpOp_step rfl (fun K2 hK2 => ?_)
          go_simp
          refine (toDevice W d.e d.l d.t d.r a b ca cb d.xs d.ys (IX.out.keptS hK) (IY.out.keptS hK) bx bm).mono ?_
          rintro e y ⟨h1, h2, rfl, q1, q2, m1, m2, m3, kd⟩
          go_simp
          exact hK2 (A.put (some 26) (.agg #[.int .i64 d.e, .int .i64 d.l, .bool d.r, .slice (some ⟨h1, 0, none⟩) d.xs.length d.xs.length, .slice (some ⟨h2, 0, none⟩) d.ys.length d.ys.length, .int .i64 d.t])) _ ⟨a0, b0, ca0, cb0, lo, hi, B, hFR.put (by decide) _, o_ld.past (by decide) (fun h => ((put_ne (by decide)).trans h)), .now (fun _ => ⟨h1, h2, put_eq (by have hz := hsz.out; omega), q1, q2⟩), o_lx.past (by decide) (fun h => ((put_ne (by decide)).trans h)), o_toX.past (by decide) (fun h => ((put_ne (by decide)).trans h)), o_F.past (by decide) (fun h => ⟨((put_ne (by decide)).trans h.1), h.2.1.kept kd (by omega), h.2.2.1.kept kd (by omega), h.2.2.2.1, h.2.2.2.2.1, Nat.le_trans h.2.2.2.2.2 kd.size⟩), o_mv.past (by decide) (fun h => ⟨getD_mono h.1, ((put_ne (by decide)).trans h.2)⟩), o_e0.past (by decide) (fun h => ⟨getD_mono h.1, ((put_ne (by decide)).trans h.2)⟩), o_e1.past (by decide) (fun h => ⟨getD_mono h.1, ((put_ne (by decide)).trans h.2)⟩), o_e2.past (by decide) (fun h => ⟨getD_mono h.1, ((put_ne (by decide)).trans h.2)⟩), o_al.past (by decide) (fun h => ⟨((put_ne (by decide)).trans h.1), h.2.1, Nat.lt_of_lt_of_le h.2.2.1 kd.size, fun e => (h.2.2.2 (by rwa [getD_set_ne (by decide)] at e)).kept0 kd⟩), o_st.past (by decide) (fun h => ⟨getD_mono h.1, getD_mono h.2.1, h.2.2.kept0 kd⟩), o_a1.past (by decide) (fun h => ⟨getD_mono h.1, ((put_ne (by decide)).trans h.2)⟩), o_a2.past (by decide) (fun h => ⟨getD_mono h.1, ((put_ne (by decide)).trans h.2)⟩), fun h9 h8 => hsep (by rwa [getD_set_ne (by decide)] at h9) (by rwa [getD_set_ne (by decide)] at h8), (hK.trans kd)⟩
        · have x0 := (WX.out.kept0 hK).cell (i := 0) rfl
          have x1 := (WX.out.kept0 hK).cell (i := 1) rfl
          have x2 := (WX.out.kept0 hK).cell (i := 2) rfl
          refine wpOp_step rfl (fun K2 hK2 => ?_)
          go_simp
          exact hK2 (A.put (some 27) (.agg #[.int .i64 q, .int .i64 p, .int .i64 v])) _ ⟨a0, b0, ca0, cb0, lo, hi, B, hFR.put (by decide) _, o_ld.past (by decide) (fun h => ((put_ne (by decide)).trans h)), o_toD.past (by decide) (fun h e => by obtain ⟨h1, h2, q0, q1, q2⟩ := h (by rwa [getD_set_ne (by decide)] at e); exact ⟨h1, h2, ((put_ne (by decide)).trans q0), q1, q2⟩), .now (put_eq (by have hz := hsz.out; omega)), o_toX.past (by decide) (fun h => ((put_ne (by decide)).trans h)), o_F.past (by decide) (fun h => ⟨((put_ne (by decide)).trans h.1), h.2⟩), o_mv.past (by decide) (fun h => ⟨getD_mono h.1, ((put_ne (by decide)).trans h.2)⟩), o_e0.past (by decide) (fun h => ⟨getD_mono h.1, ((put_ne (by decide)).trans h.2)⟩), o_e1.past (by decide) (fun h => ⟨getD_mono h.1, ((put_ne (by decide)).trans h.2)⟩), o_e2.past (by decide) (fun h => ⟨getD_mono h.1, ((put_ne (by decide)).trans h.2)⟩), o_al.past (by decide) (fun h => ⟨((put_ne (by decide)).trans h.1), h.2.1, h.2.2.1, fun e => h.2.2.2 (by rwa [getD_set_ne (by decide)] at e)⟩), o_st.past (by decide) (fun h => ⟨getD_mono h.1, getD_mono h.2.1, h.2.2⟩), o_a1.past (by decide) (fun h => ⟨getD_mono h.1, ((put_ne (by decide)).trans h.2)⟩), o_a2.past (by decide) (fun h => ⟨getD_mono h.1, ((put_ne (by decide)).trans h.2)⟩), fun h9 h8 => hsep (by rwa [getD_set_ne (by decide)] at h9) (by rwa [getD_set_ne (by decide)] at h8), hK⟩
        · have e1 := o_lx (ready_dep hm 2 (by kernel_rfl))
          refine wpOp_step rfl (fun K2 hK2 => ?_)
          go_simp
          refine (toDevStep _ _ _ W).mono ?_
          rintro e y ⟨rfl, q1, q2, q3, hw3⟩
          have kd := kept3 hw3
          clear hw3
          go_simp
          exact hK2 (A.put (some 28) (.agg #[.int .i64 q, .int .i64 p, .int .i64 v])) _ ⟨a0, b0, ca0, cb0, lo, hi, B, hFR.put (by decide) _, o_ld.past (by decide) (fun h => ((put_ne (by decide)).trans h)), o_toD.past (by decide) (fun h e => by obtain ⟨h1, h2, q0, q1, q2⟩ := h (by rwa [getD_set_ne (by decide)] at e); exact ⟨h1, h2, ((put_ne (by decide)).trans q0), q1.keptS kd (by omega), q2.keptS kd (by omega)⟩), o_lx.past (by decide) (fun h => ((put_ne (by decide)).trans h)), .now (put_eq (by have hz := hsz.out; omega)), o_F.past (by decide) (fun h => ⟨((put_ne (by decide)).trans h.1), h.2.1.kept kd (by omega), h.2.2.1.kept kd (by omega), h.2.2.2.1, h.2.2.2.2.1, Nat.le_trans h.2.2.2.2.2 kd.size⟩), o_mv.past (by decide) (fun h => ⟨getD_mono h.1, ((put_ne (by decide)).trans h.2)⟩), o_e0.past (by decide) (fun h => ⟨getD_mono h.1, ((put_ne (by decide)).trans h.2)⟩), o_e1.past (by decide) (fun h => ⟨getD_mono h.1, ((put_ne (by decide)).trans h.2)⟩), o_e2.past (by decide) (fun h => ⟨getD_mono h.1, ((put_ne (by decide)).trans h.2)⟩), o_al.past (by decide) (fun h => ⟨((put_ne (by decide)).trans h.1), h.2.1, Nat.lt_of_lt_of_le h.2.2.1 kd.size, fun e => (h.2.2.2 (by rwa [getD_set_ne (by decide)] at e)).kept0 kd⟩), o_st.past (by decide) (fun h => ⟨getD_mono h.1, getD_mono h.2.1, h.2.2.kept0 kd⟩), o_a1.past (by decide) (fun h => ⟨getD_mono h.1, ((put_ne (by decide)).trans h.2)⟩), o_a2.past (by decide) (fun h => ⟨getD_mono h.1, ((put_ne (by decide)).trans h.2)⟩), fun h9 h8 => hsep (by rwa [getD_set_ne (by decide)] at h9) (by rwa [getD_set_ne (by decide)] at h8), (hK.trans kd)⟩
        · have e1 := o_toX (ready_dep hm 3 (by kernel_rfl))
          have hst : l.getD 10 true = false := by
            cases e : l.getD 10 true
            · rfl
            · have h2 := (o_st e).1
              rw [hi2] at h2
              cases h2
          obtain ⟨h1, h2, e2, c1, c2⟩ := o_toD (ready_dep hm 1 (by kernel_rfl)) hst
          refine wpOp_step rfl (fun K2 hK2 => ?_)
          go_simp
          have CN := specStepDevice W d _ _ d.xs.length d.ys.length q p v c1.row c2.row bx bm
          rw [HDD.out, HVV.out, HKK.out] at CN
          refine CN.mono ?_
          clear CN
          rintro e y ⟨a5, b5, ca5, cb5, rfl, hD5, kd⟩
          go_simp
          exact hK2 (A.put (some 29) (.tuple #[.agg #[.int .i64 D.e, .int .i64 D.l, .bool D.r, .slice a5 D.xs.length ca5, .slice b5 D.ys.length cb5, .int .i64 D.t], .int .i64 V, .bool K])) _ ⟨a5, b5, ca5, cb5, W.heap.size, y.heap.size, B, hFR.put (by decide) _, o_ld.past (by decide) (fun h => ((put_ne (by decide)).trans h)), o_toD.past (by decide) (fun h e => by obtain ⟨h1, h2, q0, q1, q2⟩ := h (by rwa [getD_set_ne (by decide)] at e); exact ⟨h1, h2, ((put_ne (by decide)).trans q0), q1.keptS kd (by omega), q2.keptS kd (by omega)⟩), o_lx.past (by decide) (fun h => ((put_ne (by decide)).trans h)), o_toX.past (by decide) (fun h => ((put_ne (by decide)).trans h)), .now ⟨put_eq (by have hz := hsz.out; omega), hD5.1, hD5.2.1, hD5.2.2.1, hK.size, Nat.le_refl _⟩, o_mv.past (by decide) (fun h => by have h2 := h.1; rw [hi2] at h2; cases h2), o_e0.past (by decide) (fun h => by have h2 := h.1; rw [hi2] at h2; cases h2), o_e1.past (by decide) (fun h => by have h2 := h.1; rw [hi2] at h2; cases h2), o_e2.past (by decide) (fun h => by have h2 := h.1; rw [hi2] at h2; cases h2), o_al.past (by decide) (fun h => ⟨((put_ne (by decide)).trans h.1), h.2.1, Nat.lt_of_lt_of_le h.2.2.1 kd.size, fun e => (h.2.2.2 (by rwa [getD_set_ne (by decide)] at e)).kept0 kd⟩), o_st.past (by decide) (fun h => by have h2 := h.1; rw [hi2] at h2; cases h2), o_a1.past (by decide) (fun h => by have h2 := h.1; rw [hi2] at h2; cases h2), o_a2.past (by decide) (fun h => by have h2 := h.1; rw [hi2] at h2; cases h2), fun _ h8 => .inl (o_al (by rwa [getD_set_ne (by decide)] at h8)).2.2.1, (hK.trans kd)⟩
        · have h4 := ready_dep hm 4 (by kernel_rfl)
          have e1 := (o_F h4).1
          refine wpOp_step rfl (fun K2 hK2 => ?_)
          go_simp
          exact hK2 (A.put (some 24) (.tuple #[.agg #[.int .i64 D.e, .int .i64 D.l, .bool D.r, .slice a0 D.xs.length ca0, .slice b0 D.ys.length cb0, .int .i64 D.t], .int .i64 V, .bool K])) _ ⟨a0, b0, ca0, cb0, lo, hi, B, hFR.put (by decide) _, o_ld.past (by decide) (fun h => ((put_ne (by decide)).trans h)), o_toD.past (by decide) (fun h e => by obtain ⟨h1, h2, q0, q1, q2⟩ := h (by rwa [getD_set_ne (by decide)] at e); exact ⟨h1, h2, ((put_ne (by decide)).trans q0), q1, q2⟩), o_lx.past (by decide) (fun h => ((put_ne (by decide)).trans h)), o_toX.past (by decide) (fun h => ((put_ne (by decide)).trans h)), o_F.past (by decide) (fun h => ⟨((put_ne (by decide)).trans h.1), h.2⟩), .now ⟨getD_mono h4, put_eq (by have hz := hsz.out; omega)⟩, o_e0.past (by decide) (fun h => ⟨getD_mono h.1, ((put_ne (by decide)).trans h.2)⟩), o_e1.past (by decide) (fun h => ⟨getD_mono h.1, ((put_ne (by decide)).trans h.2)⟩), o_e2.past (by decide) (fun h => ⟨getD_mono h.1, ((put_ne (by decide)).trans h.2)⟩), o_al.past (by decide) (fun h => ⟨((put_ne (by decide)).trans h.1), h.2.1, h.2.2.1, fun e => h.2.2.2 (by rwa [getD_set_ne (by decide)] at e)⟩), o_st.past (by decide) (fun h => ⟨getD_mono h.1, getD_mono h.2.1, h.2.2⟩), o_a1.past (by decide) (fun h => ⟨getD_mono h.1, ((put_ne (by decide)).trans h.2)⟩), o_a2.past (by decide) (fun h => ⟨getD_mono h.1, ((put_ne (by decide)).trans h.2)⟩), fun h9 h8 => hsep (by rwa [getD_set_ne (by decide)] at h9) (by rwa [getD_set_ne (by decide)] at h8), hK⟩
        · obtain ⟨h4, e1⟩ := o_mv (ready_dep hm 5 (by kernel_rfl))
          refine wpOp_step rfl (fun K2 hK2 => ?_)
          go_simp
          exact hK2 (A.put (some 30) (.agg #[.int .i64 D.e, .int .i64 D.l, .bool D.r, .slice a0 D.xs.length ca0, .slice b0 D.ys.length cb0, .int .i64 D.t])) _ ⟨a0, b0, ca0, cb0, lo, hi, B, hFR.put (by decide) _, o_ld.past (by decide) (fun h => ((put_ne (by decide)).trans h)), o_toD.past (by decide) (fun h e => by obtain ⟨h1, h2, q0, q1, q2⟩ := h (by rwa [getD_set_ne (by decide)] at e); exact ⟨h1, h2, ((put_ne (by decide)).trans q0), q1, q2⟩), o_lx.past (by decide) (fun h => ((put_ne (by decide)).trans h)), o_toX.past (by decide) (fun h => ((put_ne (by decide)).trans h)), o_F.past (by decide) (fun h => ⟨((put_ne (by decide)).trans h.1), h.2⟩), o_mv.past (by decide) (fun h => ⟨getD_mono h.1, ((put_ne (by decide)).trans h.2)⟩), .now ⟨getD_mono h4, put_eq (by have hz := hsz.out; omega)⟩, o_e1.past (by decide) (fun h => ⟨getD_mono h.1, ((put_ne (by decide)).trans h.2)⟩), o_e2.past (by decide) (fun h => ⟨getD_mono h.1, ((put_ne (by decide)).trans h.2)⟩), o_al.past (by decide) (fun h => ⟨((put_ne (by decide)).trans h.1), h.2.1, h.2.2.1, fun e => h.2.2.2 (by rwa [getD_set_ne (by decide)] at e)⟩), o_st.past (by decide) (fun h => ⟨getD_mono h.1, getD_mono h.2.1, h.2.2⟩), o_a1.past (by decide) (fun h => ⟨getD_mono h.1, ((put_ne (by decide)).trans h.2)⟩), o_a2.past (by decide) (fun h => ⟨getD_mono h.1, ((put_ne (by decide)).trans h.2)⟩), fun h9 h8 => hsep (by rwa [getD_set_ne (by decide)] at h9) (by rwa [getD_set_ne (by decide)] at h8), hK⟩
        · obtain ⟨h4, e1⟩ := o_mv (ready_dep hm 5 (by kernel_rfl))
          refine wpOp_step rfl (fun K2 hK2 => ?_)
          go_simp
          exact hK2 (A.put (some 31) (.int .i64 V)) _ ⟨a0, b0, ca0, cb0, lo, hi, B, hFR.put (by decide) _, o_ld.past (by decide) (fun h => ((put_ne (by decide)).trans h)), o_toD.past (by decide) (fun h e => by obtain ⟨h1, h2, q0, q1, q2⟩ := h (by rwa [getD_set_ne (by decide)] at e); exact ⟨h1, h2, ((put_ne (by decide)).trans q0), q1, q2⟩), o_lx.past (by decide) (fun h => ((put_ne (by decide)).trans h)), o_toX.past (by decide) (fun h => ((put_ne (by decide)).trans h)), o_F.past (by decide) (fun h => ⟨((put_ne (by decide)).trans h.1), h.2⟩), o_mv.past (by decide) (fun h => ⟨getD_mono h.1, ((put_ne (by decide)).trans h.2)⟩), o_e0.past (by decide) (fun h => ⟨getD_mono h.1, ((put_ne (by decide)).trans h.2)⟩), .now ⟨getD_mono h4, put_eq (by have hz := hsz.out; omega)⟩, o_e2.past (by decide) (fun h => ⟨getD_mono h.1, ((put_ne (by decide)).trans h.2)⟩), o_al.past (by decide) (fun h => ⟨((put_ne (by decide)).trans h.1), h.2.1, h.2.2.1, fun e => h.2.2.2 (by rwa [getD_set_ne (by decide)] at e)⟩), o_st.past (by decide) (fun h => ⟨getD_mono h.1, getD_mono h.2.1, h.2.2⟩), o_a1.past (by decide) (fun h => ⟨getD_mono h.1, ((put_ne (by decide)).trans h.2)⟩), o_a2.past (by decide) (fun h => ⟨getD_mono h.1, ((put_ne (by decide)).trans h.2)⟩), fun h9 h8 => hsep (by rwa [getD_set_ne (by decide)] at h9) (by rwa [getD_set_ne (by decide)] at h8), hK⟩
        · obtain ⟨h4, e1⟩ := o_mv (ready_dep hm 5 (by kernel_rfl))
          refine wpOp_step rfl (fun K2 hK2 => ?_)
          go_simp
          exact hK2 (A.put (some 32) (.bool K)) _ ⟨a0, b0, ca0, cb0, lo, hi, B, hFR.put (by decide) _, o_ld.past (by decide) (fun h => ((put_ne (by decide)).trans h)), o_toD.past (by decide) (fun h e => by obtain ⟨h1, h2, q0, q1, q2⟩ := h (by rwa [getD_set_ne (by decide)] at e); exact ⟨h1, h2, ((put_ne (by decide)).trans q0), q1, q2⟩), o_lx.past (by decide) (fun h => ((put_ne (by decide)).trans h)), o_toX.past (by decide) (fun h => ((put_ne (by decide)).trans h)), o_F.past (by decide) (fun h => ⟨((put_ne (by decide)).trans h.1), h.2⟩), o_mv.past (by decide) (fun h => ⟨getD_mono h.1, ((put_ne (by decide)).trans h.2)⟩), o_e0.past (by decide) (fun h => ⟨getD_mono h.1, ((put_ne (by decide)).trans h.2)⟩), o_e1.past (by decide) (fun h => ⟨getD_mono h.1, ((put_ne (by decide)).trans h.2)⟩), .now ⟨getD_mono h4, put_eq (by have hz := hsz.out; omega)⟩, o_al.past (by decide) (fun h => ⟨((put_ne (by decide)).trans h.1), h.2.1, h.2.2.1, fun e => h.2.2.2 (by rwa [getD_set_ne (by decide)] at e)⟩), o_st.past (by decide) (fun h => ⟨getD_mono h.1, getD_mono h.2.1, h.2.2⟩), o_a1.past (by decide) (fun h => ⟨getD_mono h.1, ((put_ne (by decide)).trans h.2)⟩), o_a2.past (by decide) (fun h => ⟨getD_mono h.1, ((put_ne (by decide)).trans h.2)⟩), fun h9 h8 => hsep (by rwa [getD_set_ne (by decide)] at h9) (by rwa [getD_set_ne (by decide)] at h8), hK⟩
        · have kd := kept_alloc W (.cells #[.int .i64 0, .int .i64 0, .bool false, .slice none 0 0, .slice none 0 0, .int .i64 0] 24)
          refine wpOp_step rfl (fun K2 hK2 => ?_)
          go_simp
          exact hK2 (A.put (some 6) (.pointer (some ⟨W.heap.size, 0, none⟩))) _ ⟨a0, b0, ca0, cb0, lo, hi, W.heap.size, hFR.put (by decide) _, o_ld.past (by decide) (fun h => ((put_ne (by decide)).trans h)), o_toD.past (by decide) (fun h e => by obtain ⟨h1, h2, q0, q1, q2⟩ := h (by rwa [getD_set_ne (by decide)] at e); exact ⟨h1, h2, ((put_ne (by decide)).trans q0), q1.keptS kd (by omega), q2.keptS kd (by omega)⟩), o_lx.past (by decide) (fun h => ((put_ne (by decide)).trans h)), o_toX.past (by decide) (fun h => ((put_ne (by decide)).trans h)), o_F.past (by decide) (fun h => ⟨((put_ne (by decide)).trans h.1), h.2.1.kept kd (by omega), h.2.2.1.kept kd (by omega), h.2.2.2.1, h.2.2.2.2.1, Nat.le_trans h.2.2.2.2.2 kd.size⟩), o_mv.past (by decide) (fun h => ⟨getD_mono h.1, ((put_ne (by decide)).trans h.2)⟩), o_e0.past (by decide) (fun h => ⟨getD_mono h.1, ((put_ne (by decide)).trans h.2)⟩), o_e1.past (by decide) (fun h => ⟨getD_mono h.1, ((put_ne (by decide)).trans h.2)⟩), o_e2.past (by decide) (fun h => ⟨getD_mono h.1, ((put_ne (by decide)).trans h.2)⟩), .now ⟨put_eq (by have hz := hsz.out; omega), hK.size, by simp, fun _ => Blk.new _ _ _⟩, o_st.past (by decide) (fun h => by have h2 := h.2.1; rw [hi2] at h2; cases h2), o_a1.past (by decide) (fun h => ⟨getD_mono h.1, ((put_ne (by decide)).trans h.2)⟩), o_a2.past (by decide) (fun h => ⟨getD_mono h.1, ((put_ne (by decide)).trans h.2)⟩), fun h9 _ => .inr (o_F (by rwa [getD_set_ne (by decide)] at h9)).2.2.2.2.2, (hK.trans kd)⟩
        · obtain ⟨h4, e1⟩ := o_e0 (ready_dep hm 6 (by kernel_rfl))
          have h9 := ready_dep hm 9 (by kernel_rfl)
          obtain ⟨e2, n1, n2, hB⟩ := o_al h9
          replace hB := hB hi2
          obtain ⟨e3, q1, q2, q3, q4, q5⟩ := o_F h4
          have hs := hsep h4 h9
          have x0 := hB.cell (i := 0) rfl
          have f0 := hB.frozen 0
          have x1 := hB.cell (i := 1) rfl
          have f1 := hB.frozen 1
          have x2 := hB.cell (i := 2) rfl
          have f2 := hB.frozen 2
          have x3 := hB.cell (i := 3) rfl
          have f3 := hB.frozen 3
          have x4 := hB.cell (i := 4) rfl
          have f4 := hB.frozen 4
          have x5 := hB.cell (i := 5) rfl
          have f5 := hB.frozen 5
          refine wpOp_step rfl (fun K2 hK2 => ?_)
          go_simp
          exact hK2 A _ ⟨a0, b0, ca0, cb0, lo, hi, B, hFR, o_ld.past (by decide) (fun h => h), fun _ e => (by rw [getD_set_eq] at e; cases e), o_lx.past (by decide) (fun h => h), o_toX.past (by decide) (fun h => h), .now ⟨e3, q1.kept (six_kept _ _ _ _ _ _ _ _) (by omega), q2.kept (six_kept _ _ _ _ _ _ _ _) (by omega), q3, q4, by simpa using q5⟩, o_mv.past (by decide) (fun h => ⟨getD_mono h.1, h.2⟩), o_e0.past (by decide) (fun h => ⟨getD_mono h.1, h.2⟩), o_e1.past (by decide) (fun h => ⟨getD_mono h.1, h.2⟩), o_e2.past (by decide) (fun h => ⟨getD_mono h.1, h.2⟩), .now ⟨e2, n1, by simpa using n2, fun e => (by rw [getD_set_eq] at e; cases e)⟩, .now ⟨getD_mono h4, getD_mono h9, ((((((hB.set 0 _).set 1 _).set 2 _).set 3 _).set 4 _).set 5 _)⟩, o_a1.past (by decide) (fun h => ⟨getD_mono h.1, h.2⟩), o_a2.past (by decide) (fun h => ⟨getD_mono h.1, h.2⟩), fun _ _ => hs, (kept_set (kept_set (kept_set (kept_set (kept_set (kept_set hK _ _ _ (.inr n1)) _ _ _ (.inr n1)) _ _ _ (.inr n1)) _ _ _ (.inr n1)) _ _ _ (.inr n1)) _ _ _ (.inr n1))⟩
        · obtain ⟨h4, e1⟩ := o_e1 (ready_dep hm 7 (by kernel_rfl))
          refine wpOp_step rfl (fun K2 hK2 => ?_)
          go_simp
          exact hK2 (A.put (some 7) (.int .i64 V)) _ ⟨a0, b0, ca0, cb0, lo, hi, B, hFR.put (by decide) _, o_ld.past (by decide) (fun h => ((put_ne (by decide)).trans h)), o_toD.past (by decide) (fun h e => by obtain ⟨h1, h2, q0, q1, q2⟩ := h (by rwa [getD_set_ne (by decide)] at e); exact ⟨h1, h2, ((put_ne (by decide)).trans q0), q1, q2⟩), o_lx.past (by decide) (fun h => ((put_ne (by decide)).trans h)), o_toX.past (by decide) (fun h => ((put_ne (by decide)).trans h)), o_F.past (by decide) (fun h => ⟨((put_ne (by decide)).trans h.1), h.2⟩), o_mv.past (by decide) (fun h => ⟨getD_mono h.1, ((put_ne (by decide)).trans h.2)⟩), o_e0.past (by decide) (fun h => ⟨getD_mono h.1, ((put_ne (by decide)).trans h.2)⟩), o_e1.past (by decide) (fun h => ⟨getD_mono h.1, ((put_ne (by decide)).trans h.2)⟩), o_e2.past (by decide) (fun h => ⟨getD_mono h.1, ((put_ne (by decide)).trans h.2)⟩), o_al.past (by decide) (fun h => ⟨((put_ne (by decide)).trans h.1), h.2.1, h.2.2.1, fun e => h.2.2.2 (by rwa [getD_set_ne (by decide)] at e)⟩), o_st.past (by decide) (fun h => ⟨getD_mono h.1, getD_mono h.2.1, h.2.2⟩), .now ⟨getD_mono h4, put_eq (by have hz := hsz.out; omega)⟩, o_a2.past (by decide) (fun h => ⟨getD_mono h.1, ((put_ne (by decide)).trans h.2)⟩), fun h9 h8 => hsep (by rwa [getD_set_ne (by decide)] at h9) (by rwa [getD_set_ne (by decide)] at h8), hK⟩
        · obtain ⟨h4, e1⟩ := o_e2 (ready_dep hm 8 (by kernel_rfl))
          refine wpOp_step rfl (fun K2 hK2 => ?_)
          go_simp
          exact hK2 (A.put (some 8) (.bool K)) _ ⟨a0, b0, ca0, cb0, lo, hi, B, hFR.put (by decide) _, o_ld.past (by decide) (fun h => ((put_ne (by decide)).trans h)), o_toD.past (by decide) (fun h e => by obtain ⟨h1, h2, q0, q1, q2⟩ := h (by rwa [getD_set_ne (by decide)] at e); exact ⟨h1, h2, ((put_ne (by decide)).trans q0), q1, q2⟩), o_lx.past (by decide) (fun h => ((put_ne (by decide)).trans h)), o_toX.past (by decide) (fun h => ((put_ne (by decide)).trans h)), o_F.past (by decide) (fun h => ⟨((put_ne (by decide)).trans h.1), h.2⟩), o_mv.past (by decide) (fun h => ⟨getD_mono h.1, ((put_ne (by decide)).trans h.2)⟩), o_e0.past (by decide) (fun h => ⟨getD_mono h.1, ((put_ne (by decide)).trans h.2)⟩), o_e1.past (by decide) (fun h => ⟨getD_mono h.1, ((put_ne (by decide)).trans h.2)⟩), o_e2.past (by decide) (fun h => ⟨getD_mono h.1, ((put_ne (by decide)).trans h.2)⟩), o_al.past (by decide) (fun h => ⟨((put_ne (by decide)).trans h.1), h.2.1, h.2.2.1, fun e => h.2.2.2 (by rwa [getD_set_ne (by decide)] at e)⟩), o_st.past (by decide) (fun h => ⟨getD_mono h.1, getD_mono h.2.1, h.2.2⟩), o_a1.past (by decide) (fun h => ⟨getD_mono h.1, ((put_ne (by decide)).trans h.2)⟩), .now ⟨getD_mono h4, put_eq (by have hz := hsz.out; omega)⟩, fun h9 h8 => hsep (by rwa [getD_set_ne (by decide)] at h9) (by rwa [getD_set_ne (by decide)] at h8), hK⟩
        · simp at hi1
          omega
    case rest =>
      clear IX IY KY
      obtain ⟨w3, B0, lo0, hi0, a0, b0, ca0, cb0, hw, rfl, rfl, rfl, hbx, sl, tl, hd0, kk, nB0, nlo0, nhi0, nbl0⟩ := hcut
      subst hw
      have Beln := hide (below_kept Bel.out kk (by omega))
      have WAn := hide (WA.out.kept kk (by omega))
      have WXn := hide (WX.out.kept kk (by omega))
      clear Bel WA WX
      have Bel := Beln
      have WA := WAn
      have WX := WXn
      clear Beln WAn WXn
      have W0 := hide hbx
      have S0 := hide sl
      have T0 := hide tl
      have nw3 := kk.size
      have lB0 := W0.out.lt
      clear kk hbx sl tl
      clear hd0
      have p00 := WA.out.cell (i := 0) rfl
      have p01 := WA.out.cell (i := 1) rfl
      have p02 := WA.out.cell (i := 2) rfl
      have p03 := WA.out.cell (i := 3) rfl
      have p04 := WA.out.cell (i := 4) rfl
      have p05 := WA.out.cell (i := 5) rfl
      go_wp2_with fail
      clear p00 p01 p02 p03 p04 p05
      refine (toDevice _ d.e d.l d.t d.r a b ca cb d.xs d.ys (HX.out.below Bel.out).1 (HY.out.below Bel.out).1 bx bm).mono ?_
      rintro e w4 ⟨g3, g4, rfl, o, o2, l4, l5, l6, k⟩
      have Beln := hide (below_kept Bel.out k (by omega))
      have WAn := hide (WA.out.kept k (by omega))
      have WXn := hide (WX.out.kept k (by omega))
      have W0n := hide (W0.out.kept k (by omega))
      have S0n := hide (S0.out.kept k (by omega))
      have T0n := hide (T0.out.kept k (by omega))
      clear Bel WA WX W0 S0 T0
      have Bel := Beln
      have WA := WAn
      have WX := WXn
      have W0 := W0n
      have S0 := S0n
      have T0 := T0n
      clear Beln WAn WXn W0n S0n T0n
      have O3 := hide o
      have O4 := hide o2
      clear o o2 k
      have ka := kept_alloc w4 (.cells #[.int .i64 d.e, .int .i64 d.l, .bool d.r, .slice (some ⟨g3, 0, none⟩) d.xs.length d.xs.length, .slice (some ⟨g4, 0, none⟩) d.ys.length d.ys.length, .int .i64 d.t] 24)
      have Beln := hide (below_kept Bel.out ka (by omega))
      have WAn := hide (WA.out.kept ka (by omega))
      have WXn := hide (WX.out.kept ka (by omega))
      have W0n := hide (W0.out.kept ka (by omega))
      have S0n := hide (S0.out.kept ka (by omega))
      have T0n := hide (T0.out.kept ka (by omega))
      have O3n := hide (O3.out.keptS ka (by omega))
      have O4n := hide (O4.out.keptS ka (by omega))
      clear Bel WA WX W0 S0 T0 O3 O4
      have Bel := Beln
      have WA := WAn
      have WX := WXn
      have W0 := W0n
      have S0 := S0n
      have T0 := T0n
      have O3 := O3n
      have O4 := O4n
      clear Beln WAn WXn W0n S0n T0n O3n O4n
      have VA := hide (Blk.new w4 #[.int .i64 d.e, .int .i64 d.l, .bool d.r, .slice (some ⟨g3, 0, none⟩) d.xs.length d.xs.length, .slice (some ⟨g4, 0, none⟩) d.ys.length d.ys.length, .int .i64 d.t] 24)
      go_upto_region 7 with fail
      obtain ⟨X4, hX4⟩ : ∃ X : World, X = w4.alloc (.cells #[.int .i64 d.e, .int .i64 d.l, .bool d.r, .slice (some ⟨g3, 0, none⟩) d.xs.length d.xs.length, .slice (some ⟨g4, 0, none⟩) d.ys.length d.ys.length, .int .i64 d.t] 24) := ⟨_, rfl⟩
      have nX4 : w4.heap.size < X4.heap.size := by rw [hX4]; simp
      rw [← hX4] at Bel WA WX W0 S0 T0 O3 O4 VA ⊢
      clear ka hX4
      have IX := hide (HX.out.below Bel.out).1
      have IY := hide (HY.out.below Bel.out).1
      have KY := hide (Kept.refl 0 0 X4)
      go_upto_region 7 with fail
      go_cut [10, 11, 12, 36, 37, 38, 39, 35, 40, 41, 42] (fun pp zz kk _ _ _ _ _ _ _ _ W => ∃ (X : World) (B lo hi : Nat) (a0 b0 : Option Addr) (ca0 cb0 : Nat), X = W ∧ pp = .pointer (some ⟨B, 0, none⟩) ∧ zz = .int .i64 V ∧ kk = .bool K ∧ StepRel X4 W D B lo hi a0 b0 ca0 cb0)
      case first =>
        clear Bel WA W0 S0 T0
        refine wp_region_inv2 (fun A0 l A W => ∃ (a0 b0 : Option Addr) (ca0 cb0 lo hi B : Nat), FR [36, 37, 38, 39, 35, 40, 41, 42, 10, 11, 12] A0 A ∧ Once l 0 (A.tmps[36]? = some (.agg #[.int .i64 d.e, .int .i64 d.l, .bool d.r, .slice (some ⟨g3, 0, none⟩) d.xs.length d.xs.length, .slice (some ⟨g4, 0, none⟩) d.ys.length d.ys.length, .int .i64 d.t])) ∧ Once l 1 (A.tmps[37]? = some (.agg #[.int .i64 q, .int .i64 p, .int .i64 v])) ∧ Once l 2 (A.tmps[38]? = some (.agg #[.int .i64 q, .int .i64 p, .int .i64 v])) ∧ Once l 3 (A.tmps[39]? = some (.tuple #[.agg #[.int .i64 D.e, .int .i64 D.l, .bool D.r, .slice a0 D.xs.length ca0, .slice b0 D.ys.length cb0, .int .i64 D.t], .int .i64 V, .bool K]) ∧ SlotIn W lo hi a0 D.xs ∧ SlotIn W lo hi b0 D.ys ∧ (∀ g, blk a0 = some g → blk b0 ≠ some g) ∧ X4.heap.size ≤ lo ∧ hi ≤ W.heap.size) ∧ Once l 4 (l.getD 3 true = true ∧ A.tmps[35]? = some (.tuple #[.agg #[.int .i64 D.e, .int .i64 D.l, .bool D.r, .slice a0 D.xs.length ca0, .slice b0 D.ys.length cb0, .int .i64 D.t], .int .i64 V, .bool K])) ∧ Once l 5 (l.getD 3 true = true ∧ A.tmps[40]? = some (.agg #[.int .i64 D.e, .int .i64 D.l, .bool D.r, .slice a0 D.xs.length ca0, .slice b0 D.ys.length cb0, .int .i64 D.t])) ∧ Once l 6 (l.getD 3 true = true ∧ A.tmps[41]? = some (.int .i64 V)) ∧ Once l 7 (l.getD 3 true = true ∧ A.tmps[42]? = some (.bool K)) ∧ Once l 8 (A.tmps[10]? = some (.pointer (some ⟨B, 0, none⟩)) ∧ X4.heap.size ≤ B ∧ B < W.heap.size ∧ (l.getD 9 true = false → Blk W B #[.int .i64 0, .int .i64 0, .bool false, .slice none 0 0, .slice none 0 0, .int .i64 0] 24)) ∧ Once l 9 (l.getD 3 true = true ∧ l.getD 8 true = true ∧ Blk W B #[.int .i64 D.e, .int .i64 D.l, .bool D.r, .slice a0 D.xs.length ca0, .slice b0 D.ys.length cb0, .int .i64 D.t] 24) ∧ Once l 10 (l.getD 3 true = true ∧ A.tmps[11]? = some (.int .i64 V)) ∧ Once l 11 (l.getD 3 true = true ∧ A.tmps[12]? = some (.bool K)) ∧ (l.getD 3 true = true → l.getD 8 true = true → B < lo ∨ hi ≤ B) ∧ Kept 0 0 X4 W) (by kernel_rfl) (by kernel_rfl) ?start ?fin ?step
        case start => exact ⟨none, none, 0, 0, 0, 0, 0, FR.refl _ _, once_start (by decide), once_start (by decide), once_start (by decide), once_start (by decide), once_start (by decide), once_start (by decide), once_start (by decide), once_start (by decide), once_start (by decide), once_start (by decide), once_start (by decide), once_start (by decide), fun h => (by rw [start_at (by decide)] at h; cases h), kept_drew (Kept.refl _ _ _)⟩
        case fin =>
          intro l A W h hl
          obtain ⟨a0, b0, ca0, cb0, lo, hi, B, hFR, o_ld, o_lx, o_toX, o_F, o_mv, o_e0, o_e1, o_e2, o_al, o_st, o_a1, o_a2, hsep, hK⟩ := h
          have q_F := o_F (hl 3 (by decide))
          have q_al := o_al (hl 8 (by decide))
          have q_st := o_st (hl 9 (by decide))
          have q_a1 := o_a1 (hl 10 (by decide))
          have q_a2 := o_a2 (hl 11 (by decide))
          have q_sep := hsep (hl 3 (by decide)) (hl 8 (by decide))
          obtain ⟨_, g1⟩ := q_a1
          obtain ⟨_, g2⟩ := q_a2
          obtain ⟨g0, q1, q2, _⟩ := q_al
          obtain ⟨_, q3, q4, q5, q6, q7⟩ := q_F
          obtain ⟨_, _, q8⟩ := q_st
          have QQ : Hid (StepRel X4 W D B lo hi a0 b0 ca0 cb0) := hide ⟨q8, q3, q4, q5, hK, q1, q6, q7, q_sep⟩
          have hc := hFR.chain
          simp only [List.foldl] at hc
          rw [getD_of g0, getD_of g1, getD_of g2] at hc
          clear hl hK hsep q1 q2 q3 q4 q5 q6 q7 q8 q_sep hFR g0 g1 g2 o_ld o_lx o_toX o_F o_mv o_e0 o_e1 o_e2 o_al o_st o_a1 o_a2
          generalize A.tmps.getD 36 undef = s36 at hc
          generalize A.tmps.getD 37 undef = s37 at hc
          generalize A.tmps.getD 38 undef = s38 at hc
          generalize A.tmps.getD 39 undef = s39 at hc
          generalize A.tmps.getD 35 undef = s35 at hc
          generalize A.tmps.getD 40 undef = s40 at hc
          generalize A.tmps.getD 41 undef = s41 at hc
          generalize A.tmps.getD 42 undef = s42 at hc
          subst hc
          go_simp
          go_step
          go_meet
          case rel => exact ⟨_, _, lo, hi, a0, b0, ca0, cb0, rfl, rfl, rfl, rfl, QQ.out⟩
        case step =>
          intro l A W i hI hm
          obtain ⟨a0, b0, ca0, cb0, lo, hi, B, hFR, o_ld, o_lx, o_toX, o_F, o_mv, o_e0, o_e1, o_e2, o_al, o_st, o_a1, o_a2, hsep, hK⟩ := hI
          obtain ⟨hi1, hi2⟩ := ready_new hm
          have hsz : Hid (42 < A.tmps.size) := hide (by rw [hFR.size]; simp)
          have m1 : A.tmps[9]? = some (.pointer (some ⟨w4.heap.size, 0, none⟩)) := (hFR.out 9 (by decide)).trans rfl
          have m2 : A.tmps[3]? = some (.pointer (some ⟨w.heap.size + 1, 0, none⟩)) := (hFR.out 3 (by decide)).trans rfl
          rcases i with _ | _ | _ | _ | _ | _ | _ | _ | _ | _ | _ | _ | i
          · have x0 := (VA.out.kept0 hK).cell (i := 0) rfl
            have x1 := (VA.out.kept0 hK).cell (i := 1) rfl
            have x2 := (VA.out.kept0 hK).cell (i := 2) rfl
            have x3 := (VA.out.kept0 hK).cell (i := 3) rfl
            have x4 := (VA.out.kept0 hK).cell (i := 4) rfl
            have x5 := (VA.out.kept0 hK).cell (i := 5) rfl
            refine wpOp_step rfl (fun K2 hK2 => ?_)
            go_simp
            exact hK2 (A.put (some 36) (.agg #[.int .i64 d.e, .int .i64 d.l, .bool d.r, .slice (some ⟨g3, 0, none⟩) d.xs.length d.xs.length, .slice (some ⟨g4, 0, none⟩) d.ys.length d.ys.length, .int .i64 d.t])) _ ⟨a0, b0, ca0, cb0, lo, hi, B, hFR.put (by decide) _, .now (put_eq (by have hz := hsz.out; omega)), o_lx.past (by decide) (fun h => ((put_ne (by decide)).trans h)), o_toX.past (by decide) (fun h => ((put_ne (by decide)).trans h)), o_F.past (by decide) (fun h => ⟨((put_ne (by decide)).trans h.1), h.2⟩), o_mv.past (by decide) (fun h => ⟨getD_mono h.1, ((put_ne (by decide)).trans h.2)⟩), o_e0.past (by decide) (fun h => ⟨getD_mono h.1, ((put_ne (by decide)).trans h.2)⟩), o_e1.past (by decide) (fun h => ⟨getD_mono h.1, ((put_ne (by decide)).trans h.2)⟩), o_e2.past (by decide) (fun h => ⟨getD_mono h.1, ((put_ne (by decide)).trans h.2)⟩), o_al.past (by decide) (fun h => ⟨((put_ne (by decide)).trans h.1), h.2.1, h.2.2.1, fun e => h.2.2.2 (by rwa [getD_set_ne (by decide)] at e)⟩), o_st.past (by decide) (fun h => ⟨getD_mono h.1, getD_mono h.2.1, h.2.2⟩), o_a1.past (by decide) (fun h => ⟨getD_mono h.1, ((put_ne (by decide)).trans h.2)⟩), o_a2.past (by decide) (fun h => ⟨getD_mono h.1, ((put_ne (by decide)).trans h.2)⟩), fun h9 h8 => hsep (by rwa [getD_set_ne (by decide)] at h9) (by rwa [getD_set_ne (by decide)] at h8), hK⟩
          · have x0 := (WX.out.kept0 hK).cell (i := 0) rfl
            have x1 := (WX.out.kept0 hK).cell (i := 1) rfl
            have x2 := (WX.out.kept0 hK).cell (i := 2) rfl
            refine wpOp_step rfl (fun K2 hK2 => ?_)
            go_simp
            exact hK2 (A.put (some 37) (.agg #[.int .i64 q, .int .i64 p, .int .i64 v])) _ ⟨a0, b0, ca0, cb0, lo, hi, B, hFR.put (by decide) _, o_ld.past (by decide) (fun h => ((put_ne (by decide)).trans h)), .now (put_eq (by have hz := hsz.out; omega)), o_toX.past (by decide) (fun h => ((put_ne (by decide)).trans h)), o_F.past (by decide) (fun h => ⟨((put_ne (by decide)).trans h.1), h.2⟩), o_mv.past (by decide) (fun h => ⟨getD_mono h.1, ((put_ne (by decide)).trans h.2)⟩), o_e0.past (by decide) (fun h => ⟨getD_mono h.1, ((put_ne (by decide)).trans h.2)⟩), o_e1.past (by decide) (fun h => ⟨getD_mono h.1, ((put_ne (by decide)).trans h.2)⟩), o_e2.past (by decide) (fun h => ⟨getD_mono h.1, ((put_ne (by decide)).trans h.2)⟩), o_al.past (by decide) (fun h => ⟨((put_ne (by decide)).trans h.1), h.2.1, h.2.2.1, fun e => h.2.2.2 (by rwa [getD_set_ne (by decide)] at e)⟩), o_st.past (by decide) (fun h => ⟨getD_mono h.1, getD_mono h.2.1, h.2.2⟩), o_a1.past (by decide) (fun h => ⟨getD_mono h.1, ((put_ne (by decide)).trans h.2)⟩), o_a2.past (by decide) (fun h => ⟨getD_mono h.1, ((put_ne (by decide)).trans h.2)⟩), fun h9 h8 => hsep (by rwa [getD_set_ne (by decide)] at h9) (by rwa [getD_set_ne (by decide)] at h8), hK⟩
          · have e1 := o_lx (ready_dep hm 1 (by kernel_rfl))
            refine wpOp_step rfl (fun K2 hK2 => ?_)
            go_simp
            refine (toDevStep _ _ _ W).mono ?_
            rintro e y ⟨rfl, q1, q2, q3, hw3⟩
            have kd := kept3 hw3
            clear hw3
            go_simp
            exact hK2 (A.put (some 38) (.agg #[.int .i64 q, .int .i64 p, .int .i64 v])) _ ⟨a0, b0, ca0, cb0, lo, hi, B, hFR.put (by decide) _, o_ld.past (by decide) (fun h => ((put_ne (by decide)).trans h)), o_lx.past (by decide) (fun h => ((put_ne (by decide)).trans h)), .now (put_eq (by have hz := hsz.out; omega)), o_F.past (by decide) (fun h => ⟨((put_ne (by decide)).trans h.1), h.2.1.kept kd (by omega), h.2.2.1.kept kd (by omega), h.2.2.2.1, h.2.2.2.2.1, Nat.le_trans h.2.2.2.2.2 kd.size⟩), o_mv.past (by decide) (fun h => ⟨getD_mono h.1, ((put_ne (by decide)).trans h.2)⟩), o_e0.past (by decide) (fun h => ⟨getD_mono h.1, ((put_ne (by decide)).trans h.2)⟩), o_e1.past (by decide) (fun h => ⟨getD_mono h.1, ((put_ne (by decide)).trans h.2)⟩), o_e2.past (by decide) (fun h => ⟨getD_mono h.1, ((put_ne (by decide)).trans h.2)⟩), o_al.past (by decide) (fun h => ⟨((put_ne (by decide)).trans h.1), h.2.1, Nat.lt_of_lt_of_le h.2.2.1 kd.size, fun e => (h.2.2.2 (by rwa [getD_set_ne (by decide)] at e)).kept0 kd⟩), o_st.past (by decide) (fun h => ⟨getD_mono h.1, getD_mono h.2.1, h.2.2.kept0 kd⟩), o_a1.past (by decide) (fun h => ⟨getD_mono h.1, ((put_ne (by decide)).trans h.2)⟩), o_a2.past (by decide) (fun h => ⟨getD_mono h.1, ((put_ne (by decide)).trans h.2)⟩), fun h9 h8 => hsep (by rwa [getD_set_ne (by decide)] at h9) (by rwa [getD_set_ne (by decide)] at h8), (hK.trans kd)⟩
          · have e1 := o_toX (ready_dep hm 2 (by kernel_rfl))
            have e2 := o_ld (ready_dep hm 0 (by kernel_rfl))
            have c1 := O3.out.keptS hK (by omega)
            have c2 := O4.out.keptS hK (by omega)
            refine wpOp_step rfl (fun K2 hK2 => ?_)
            go_simp
            have CN := HI.out W d _ _ d.xs.length d.ys.length q p v (c1.came HX.out.2) (c2.came HY.out.2) bx bm HWF.out wfk wfp wfv
            rw [HDD.out, HVV.out, HKK.out] at CN
            refine CN.mono ?_
            clear CN
            rintro e y ⟨a5, b5, ca5, cb5, rfl, hD5, kd⟩
            go_simp
            exact hK2 (A.put (some 39) (.tuple #[.agg #[.int .i64 D.e, .int .i64 D.l, .bool D.r, .slice a5 D.xs.length ca5, .slice b5 D.ys.length cb5, .int .i64 D.t], .int .i64 V, .bool K])) _ ⟨a5, b5, ca5, cb5, W.heap.size, y.heap.size, B, hFR.put (by decide) _, o_ld.past (by decide) (fun h => ((put_ne (by decide)).trans h)), o_lx.past (by decide) (fun h => ((put_ne (by decide)).trans h)), o_toX.past (by decide) (fun h => ((put_ne (by decide)).trans h)), .now ⟨put_eq (by have hz := hsz.out; omega), hD5.1, hD5.2.1, hD5.2.2.1, hK.size, Nat.le_refl _⟩, o_mv.past (by decide) (fun h => by have h2 := h.1; rw [hi2] at h2; cases h2), o_e0.past (by decide) (fun h => by have h2 := h.1; rw [hi2] at h2; cases h2), o_e1.past (by decide) (fun h => by have h2 := h.1; rw [hi2] at h2; cases h2), o_e2.past (by decide) (fun h => by have h2 := h.1; rw [hi2] at h2; cases h2), o_al.past (by decide) (fun h => ⟨((put_ne (by decide)).trans h.1), h.2.1, Nat.lt_of_lt_of_le h.2.2.1 kd.size, fun e => (h.2.2.2 (by rwa [getD_set_ne (by decide)] at e)).kept0 kd⟩), o_st.past (by decide) (fun h => by have h2 := h.1; rw [hi2] at h2; cases h2), o_a1.past (by decide) (fun h => by have h2 := h.1; rw [hi2] at h2; cases h2), o_a2.past (by decide) (fun h => by have h2 := h.1; rw [hi2] at h2; cases h2), fun _ h8 => .inl (o_al (by rwa [getD_set_ne (by decide)] at h8)).2.2.1, (hK.trans kd)⟩
          · have h4 := ready_dep hm 3 (by kernel_rfl)
            have e1 := (o_F h4).1
            refine wpOp_step rfl (fun K2 hK2 => ?_)
            go_simp
            exact hK2 (A.put (some 35) (.tuple #[.agg #[.int .i64 D.e, .int .i64 D.l, .bool D.r, .slice a0 D.xs.length ca0, .slice b0 D.ys.length cb0, .int .i64 D.t], .int .i64 V, .bool K])) _ ⟨a0, b0, ca0, cb0, lo, hi, B, hFR.put (by decide) _, o_ld.past (by decide) (fun h => ((put_ne (by decide)).trans h)), o_lx.past (by decide) (fun h => ((put_ne (by decide)).trans h)), o_toX.past (by decide) (fun h => ((put_ne (by decide)).trans h)), o_F.past (by decide) (fun h => ⟨((put_ne (by decide)).trans h.1), h.2⟩), .now ⟨getD_mono h4, put_eq (by have hz := hsz.out; omega)⟩, o_e0.past (by decide) (fun h => ⟨getD_mono h.1, ((put_ne (by decide)).trans h.2)⟩), o_e1.past (by decide) (fun h => ⟨getD_mono h.1, ((put_ne (by decide)).trans h.2)⟩), o_e2.past (by decide) (fun h => ⟨getD_mono h.1, ((put_ne (by decide)).trans h.2)⟩), o_al.past (by decide) (fun h => ⟨((put_ne (by decide)).trans h.1), h.2.1, h.2.2.1, fun e => h.2.2.2 (by rwa [getD_set_ne (by decide)] at e)⟩), o_st.past (by decide) (fun h => ⟨getD_mono h.1, getD_mono h.2.1, h.2.2⟩), o_a1.past (by decide) (fun h => ⟨getD_mono h.1, ((put_ne (by decide)).trans h.2)⟩), o_a2.past (by decide) (fun h => ⟨getD_mono h.1, ((put_ne (by decide)).trans h.2)⟩), fun h9 h8 => hsep (by rwa [getD_set_ne (by decide)] at h9) (by rwa [getD_set_ne (by decide)] at h8), hK⟩
          · obtain ⟨h4, e1⟩ := o_mv (ready_dep hm 4 (by kernel_rfl))
            refine wpOp_step rfl (fun K2 hK2 => ?_)
            go_simp
            exact hK2 (A.put (some 40) (.agg #[.int .i64 D.e, .int .i64 D.l, .bool D.r, .slice a0 D.xs.length ca0, .slice b0 D.ys.length cb0, .int .i64 D.t])) _ ⟨a0, b0, ca0, cb0, lo, hi, B, hFR.put (by decide) _, o_ld.past (by decide) (fun h => ((put_ne (by decide)).trans h)), o_lx.past (by decide) (fun h => ((put_ne (by decide)).trans h)), o_toX.past (by decide) (fun h => ((put_ne (by decide)).trans h)), o_F.past (by decide) (fun h => ⟨((put_ne (by decide)).trans h.1), h.2⟩), o_mv.past (by decide) (fun h => ⟨getD_mono h.1, ((put_ne (by decide)).trans h.2)⟩), .now ⟨getD_mono h4, put_eq (by have hz := hsz.out; omega)⟩, o_e1.past (by decide) (fun h => ⟨getD_mono h.1, ((put_ne (by decide)).trans h.2)⟩), o_e2.past (by decide) (fun h => ⟨getD_mono h.1, ((put_ne (by decide)).trans h.2)⟩), o_al.past (by decide) (fun h => ⟨((put_ne (by decide)).trans h.1), h.2.1, h.2.2.1, fun e => h.2.2.2 (by rwa [getD_set_ne (by decide)] at e)⟩), o_st.past (by decide) (fun h => ⟨getD_mono h.1, getD_mono h.2.1, h.2.2⟩), o_a1.past (by decide) (fun h => ⟨getD_mono h.1, ((put_ne (by decide)).trans h.2)⟩), o_a2.past (by decide) (fun h => ⟨getD_mono h.1, ((put_ne (by decide)).trans h.2)⟩), fun h9 h8 => hsep (by rwa [getD_set_ne (by decide)] at h9) (by rwa [getD_set_ne (by decide)] at h8), hK⟩
          · obtain ⟨h4, e1⟩ := o_mv (ready_dep hm 4 (by kernel_rfl))
            refine wpOp_step rfl (fun K2 hK2 => ?_)
            go_simp
            exact hK2 (A.put (some 41) (.int .i64 V)) _ ⟨a0, b0, ca0, cb0, lo, hi, B, hFR.put (by decide) _, o_ld.past (by decide) (fun h => ((put_ne (by decide)).trans h)), o_lx.past (by decide) (fun h => ((put_ne (by decide)).trans h)), o_toX.past (by decide) (fun h => ((put_ne (by decide)).trans h)), o_F.past (by decide) (fun h => ⟨((put_ne (by decide)).trans h.1), h.2⟩), o_mv.past (by decide) (fun h => ⟨getD_mono h.1, ((put_ne (by decide)).trans h.2)⟩), o_e0.past (by decide) (fun h => ⟨getD_mono h.1, ((put_ne (by decide)).trans h.2)⟩), .now ⟨getD_mono h4, put_eq (by have hz := hsz.out; omega)⟩, o_e2.past (by decide) (fun h => ⟨getD_mono h.1, ((put_ne (by decide)).trans h.2)⟩), o_al.past (by decide) (fun h => ⟨((put_ne (by decide)).trans h.1), h.2.1, h.2.2.1, fun e => h.2.2.2 (by rwa [getD_set_ne (by decide)] at e)⟩), o_st.past (by decide) (fun h => ⟨getD_mono h.1, getD_mono h.2.1, h.2.2⟩), o_a1.past (by decide) (fun h => ⟨getD_mono h.1, ((put_ne (by decide)).trans h.2)⟩), o_a2.past (by decide) (fun h => ⟨getD_mono h.1, ((put_ne (by decide)).trans h.2)⟩), fun h9 h8 => hsep (by rwa [getD_set_ne (by decide)] at h9) (by rwa [getD_set_ne (by decide)] at h8), hK⟩
          · obtain ⟨h4, e1⟩ := o_mv (ready_dep hm 4 (by kernel_rfl))
            refine wpOp_step rfl (fun K2 hK2 => ?_)
            go_simp
            exact hK2 (A.put (some 42) (.bool K)) _ ⟨a0, b0, ca0, cb0, lo, hi, B, hFR.put (by decide) _, o_ld.past (by decide) (fun h => ((put_ne (by decide)).trans h)), o_lx.past (by decide) (fun h => ((put_ne (by decide)).trans h)), o_toX.past (by decide) (fun h => ((put_ne (by decide)).trans h)), o_F.past (by decide) (fun h => ⟨((put_ne (by decide)).trans h.1), h.2⟩), o_mv.past (by decide) (fun h => ⟨getD_mono h.1, ((put_ne (by decide)).trans h.2)⟩), o_e0.past (by decide) (fun h => ⟨getD_mono h.1, ((put_ne (by decide)).trans h.2)⟩), o_e1.past (by decide) (fun h => ⟨getD_mono h.1, ((put_ne (by decide)).trans h.2)⟩), .now ⟨getD_mono h4, put_eq (by have hz := hsz.out; omega)⟩, o_al.past (by decide) (fun h => ⟨((put_ne (by decide)).trans h.1), h.2.1, h.2.2.1, fun e => h.2.2.2 (by rwa [getD_set_ne (by decide)] at e)⟩), o_st.past (by decide) (fun h => ⟨getD_mono h.1, getD_mono h.2.1, h.2.2⟩), o_a1.past (by decide) (fun h => ⟨getD_mono h.1, ((put_ne (by decide)).trans h.2)⟩), o_a2.past (by decide) (fun h => ⟨getD_mono h.1, ((put_ne (by decide)).trans h.2)⟩), fun h9 h8 => hsep (by rwa [getD_set_ne (by decide)] at h9) (by rwa [getD_set_ne (by decide)] at h8), hK⟩
          · have kd := kept_alloc W (.cells #[.int .i64 0, .int .i64 0, .bool false, .slice none 0 0, .slice none 0 0, .int .i64 0] 24)
            refine wpOp_step rfl (fun K2 hK2 => ?_)
            go_simp
            exact hK2 (A.put (some 10) (.pointer (some ⟨W.heap.size, 0, none⟩))) _ ⟨a0, b0, ca0, cb0, lo, hi, W.heap.size, hFR.put (by decide) _, o_ld.past (by decide) (fun h => ((put_ne (by decide)).trans h)), o_lx.past (by decide) (fun h => ((put_ne (by decide)).trans h)), o_toX.past (by decide) (fun h => ((put_ne (by decide)).trans h)), o_F.past (by decide) (fun h => ⟨((put_ne (by decide)).trans h.1), h.2.1.kept kd (by omega), h.2.2.1.kept kd (by omega), h.2.2.2.1, h.2.2.2.2.1, Nat.le_trans h.2.2.2.2.2 kd.size⟩), o_mv.past (by decide) (fun h => ⟨getD_mono h.1, ((put_ne (by decide)).trans h.2)⟩), o_e0.past (by decide) (fun h => ⟨getD_mono h.1, ((put_ne (by decide)).trans h.2)⟩), o_e1.past (by decide) (fun h => ⟨getD_mono h.1, ((put_ne (by decide)).trans h.2)⟩), o_e2.past (by decide) (fun h => ⟨getD_mono h.1, ((put_ne (by decide)).trans h.2)⟩), .now ⟨put_eq (by have hz := hsz.out; omega), hK.size, by simp, fun _ => Blk.new _ _ _⟩, o_st.past (by decide) (fun h => by have h2 := h.2.1; rw [hi2] at h2; cases h2), o_a1.past (by decide) (fun h => ⟨getD_mono h.1, ((put_ne (by decide)).trans h.2)⟩), o_a2.past (by decide) (fun h => ⟨getD_mono h.1, ((put_ne (by decide)).trans h.2)⟩), fun h9 _ => .inr (o_F (by rwa [getD_set_ne (by decide)] at h9)).2.2.2.2.2, (hK.trans kd)⟩
          · obtain ⟨h4, e1⟩ := o_e0 (ready_dep hm 5 (by kernel_rfl))
            have h9 := ready_dep hm 8 (by kernel_rfl)
            obtain ⟨e2, n1, n2, hB⟩ := o_al h9
            replace hB := hB hi2
            obtain ⟨e3, q1, q2, q3, q4, q5⟩ := o_F h4
            have hs := hsep h4 h9
            have x0 := hB.cell (i := 0) rfl
            have f0 := hB.frozen 0
            have x1 := hB.cell (i := 1) rfl
            have f1 := hB.frozen 1
            have x2 := hB.cell (i := 2) rfl
            have f2 := hB.frozen 2
            have x3 := hB.cell (i := 3) rfl
            have f3 := hB.frozen 3
            have x4 := hB.cell (i := 4) rfl
            have f4 := hB.frozen 4
            have x5 := hB.cell (i := 5) rfl
            have f5 := hB.frozen 5
            refine wpOp_step rfl (fun K2 hK2 => ?_)
            go_simp
            exact hK2 A _ ⟨a0, b0, ca0, cb0, lo, hi, B, hFR, o_ld.past (by decide) (fun h => h), o_lx.past (by decide) (fun h => h), o_toX.past (by decide) (fun h => h), .now ⟨e3, q1.kept (six_kept _ _ _ _ _ _ _ _) (by omega), q2.kept (six_kept _ _ _ _ _ _ _ _) (by omega), q3, q4, by simpa using q5⟩, o_mv.past (by decide) (fun h => ⟨getD_mono h.1, h.2⟩), o_e0.past (by decide) (fun h => ⟨getD_mono h.1, h.2⟩), o_e1.past (by decide) (fun h => ⟨getD_mono h.1, h.2⟩), o_e2.past (by decide) (fun h => ⟨getD_mono h.1, h.2⟩), .now ⟨e2, n1, by simpa using n2, fun e => (by rw [getD_set_eq] at e; cases e)⟩, .now ⟨getD_mono h4, getD_mono h9, ((((((hB.set 0 _).set 1 _).set 2 _).set 3 _).set 4 _).set 5 _)⟩, o_a1.past (by decide) (fun h => ⟨getD_mono h.1, h.2⟩), o_a2.past (by decide) (fun h => ⟨getD_mono h.1, h.2⟩), fun _ _ => hs, (kept_set (kept_set (kept_set (kept_set (kept_set (kept_set hK _ _ _ (.inr n1)) _ _ _ (.inr n1)) _ _ _ (.inr n1)) _ _ _ (.inr n1)) _ _ _ (.inr n1)) _ _ _ (.inr n1))⟩
          · obtain ⟨h4, e1⟩ := o_e1 (ready_dep hm 6 (by kernel_rfl))
            refine wpOp_step rfl (fun K2 hK2 => ?_)
            go_simp
            exact hK2 (A.put (some 11) (.int .i64 V)) _ ⟨a0, b0, ca0, cb0, lo, hi, B, hFR.put (by decide) _, o_ld.past (by decide) (fun h => ((put_ne (by decide)).trans h)), o_lx.past (by decide) (fun h => ((put_ne (by decide)).trans h)), o_toX.past (by decide) (fun h => ((put_ne (by decide)).trans h)), o_F.past (by decide) (fun h => ⟨((put_ne (by decide)).trans h.1), h.2⟩), o_mv.past (by decide) (fun h => ⟨getD_mono h.1, ((put_ne (by decide)).trans h.2)⟩), o_e0.past (by decide) (fun h => ⟨getD_mono h.1, ((put_ne (by decide)).trans h.2)⟩), o_e1.past (by decide) (fun h => ⟨getD_mono h.1, ((put_ne (by decide)).trans h.2)⟩), o_e2.past (by decide) (fun h => ⟨getD_mono h.1, ((put_ne (by decide)).trans h.2)⟩), o_al.past (by decide) (fun h => ⟨((put_ne (by decide)).trans h.1), h.2.1, h.2.2.1, fun e => h.2.2.2 (by rwa [getD_set_ne (by decide)] at e)⟩), o_st.past (by decide) (fun h => ⟨getD_mono h.1, getD_mono h.2.1, h.2.2⟩), .now ⟨getD_mono h4, put_eq (by have hz := hsz.out; omega)⟩, o_a2.past (by decide) (fun h => ⟨getD_mono h.1, ((put_ne (by decide)).trans h.2)⟩), fun h9 h8 => hsep (by rwa [getD_set_ne (by decide)] at h9) (by rwa [getD_set_ne (by decide)] at h8), hK⟩
          · obtain ⟨h4, e1⟩ := o_e2 (ready_dep hm 7 (by kernel_rfl))
            refine wpOp_step rfl (fun K2 hK2 => ?_)
            go_simp
            exact hK2 (A.put (some 12) (.bool K)) _ ⟨a0, b0, ca0, cb0, lo, hi, B, hFR.put (by decide) _, o_ld.past (by decide) (fun h => ((put_ne (by decide)).trans h)), o_lx.past (by decide) (fun h => ((put_ne (by decide)).trans h)), o_toX.past (by decide) (fun h => ((put_ne (by decide)).trans h)), o_F.past (by decide) (fun h => ⟨((put_ne (by decide)).trans h.1), h.2⟩), o_mv.past (by decide) (fun h => ⟨getD_mono h.1, ((put_ne (by decide)).trans h.2)⟩), o_e0.past (by decide) (fun h => ⟨getD_mono h.1, ((put_ne (by decide)).trans h.2)⟩), o_e1.past (by decide) (fun h => ⟨getD_mono h.1, ((put_ne (by decide)).trans h.2)⟩), o_e2.past (by decide) (fun h => ⟨getD_mono h.1, ((put_ne (by decide)).trans h.2)⟩), o_al.past (by decide) (fun h => ⟨((put_ne (by decide)).trans h.1), h.2.1, h.2.2.1, fun e => h.2.2.2 (by rwa [getD_set_ne (by decide)] at e)⟩), o_st.past (by decide) (fun h => ⟨getD_mono h.1, getD_mono h.2.1, h.2.2⟩), o_a1.past (by decide) (fun h => ⟨getD_mono h.1, ((put_ne (by decide)).trans h.2)⟩), .now ⟨getD_mono h4, put_eq (by have hz := hsz.out; omega)⟩, fun h9 h8 => hsep (by rwa [getD_set_ne (by decide)] at h9) (by rwa [getD_set_ne (by decide)] at h8), hK⟩
          · simp at hi1
            omega
      case rest =>
        clear IX IY KY
        obtain ⟨w5, B1, lo1, hi1, a1, b1, ca1, cb1, hw, rfl, rfl, rfl, hbx, sl, tl, hd1, kk, nB1, nlo1, nhi1, nbl1⟩ := hcut
        subst hw
        have Beln := hide (below_kept Bel.out kk (by omega))
        have WAn := hide (WA.out.kept kk (by omega))
        have WXn := hide (WX.out.kept kk (by omega))
        have W0n := hide (W0.out.kept kk (by omega))
        have S0n := hide (S0.out.kept kk (by omega))
        have T0n := hide (T0.out.kept kk (by omega))
        have O3n := hide (O3.out.keptS kk (by omega))
        have O4n := hide (O4.out.keptS kk (by omega))
        have VAn := hide (VA.out.kept kk (by omega))
        clear Bel WA WX W0 S0 T0 O3 O4 VA
        have Bel := Beln
        have WA := WAn
        have WX := WXn
        have W0 := W0n
        have S0 := S0n
        have T0 := T0n
        have O3 := O3n
        have O4 := O4n
        have VA := VAn
        clear Beln WAn WXn W0n S0n T0n O3n O4n VAn
        have W1 := hide hbx
        have S1 := hide sl
        have T1 := hide tl
        have nw5 := kk.size
        have lB1 := W1.out.lt
        clear kk hbx sl tl
        have HD1 := hide hd1
        clear hd1
        have p00 := W1.out.cell (i := 0) rfl
        have p01 := W1.out.cell (i := 1) rfl
        have p02 := W1.out.cell (i := 2) rfl
        have p03 := W1.out.cell (i := 3) rfl
        have p04 := W1.out.cell (i := 4) rfl
        have p05 := W1.out.cell (i := 5) rfl
        have p10 := W0.out.cell (i := 0) rfl
        have p11 := W0.out.cell (i := 1) rfl
        have p12 := W0.out.cell (i := 2) rfl
        have p13 := W0.out.cell (i := 3) rfl
        have p14 := W0.out.cell (i := 4) rfl
        have p15 := W0.out.cell (i := 5) rfl
        go_wp2_with fail
        clear p00 p01 p02 p03 p04 p05 p10 p11 p12 p13 p14 p15
        refine (eqDevice _ D.e D.l D.t D.r a1 b1 a0 b0 _ _ _ _ D.xs D.ys S1.out.row T1.out.row S0.out.row T0.out.row bD bE).mono ?_
        rintro e w6 ⟨rfl, k⟩
        have Beln := hide (below_kept Bel.out k (by omega))
        have WAn := hide (WA.out.kept k (by omega))
        have WXn := hide (WX.out.kept k (by omega))
        have W0n := hide (W0.out.kept k (by omega))
        have S0n := hide (S0.out.kept k (by omega))
        have T0n := hide (T0.out.kept k (by omega))
        have O3n := hide (O3.out.keptS k (by omega))
        have O4n := hide (O4.out.keptS k (by omega))
        have VAn := hide (VA.out.kept k (by omega))
        have W1n := hide (W1.out.kept k (by omega))
        have S1n := hide (S1.out.kept k (by omega))
        have T1n := hide (T1.out.kept k (by omega))
        clear Bel WA WX W0 S0 T0 O3 O4 VA W1 S1 T1
        have Bel := Beln
        have WA := WAn
        have WX := WXn
        have W0 := W0n
        have S0 := S0n
        have T0 := T0n
        have O3 := O3n
        have O4 := O4n
        have VA := VAn
        have W1 := W1n
        have S1 := S1n
        have T1 := T1n
        clear Beln WAn WXn W0n S0n T0n O3n O4n VAn W1n S1n T1n
        have nw6 := k.size
        clear k
        have p00 := WA.out.cell (i := 0) rfl
        have p01 := WA.out.cell (i := 1) rfl
        have p02 := WA.out.cell (i := 2) rfl
        have p03 := WA.out.cell (i := 3) rfl
        have p04 := WA.out.cell (i := 4) rfl
        have p05 := WA.out.cell (i := 5) rfl
        have p10 := VA.out.cell (i := 0) rfl
        have p11 := VA.out.cell (i := 1) rfl
        have p12 := VA.out.cell (i := 2) rfl
        have p13 := VA.out.cell (i := 3) rfl
        have p14 := VA.out.cell (i := 4) rfl
        have p15 := VA.out.cell (i := 5) rfl
        go_upto_region 10 with fail
        go_cut [57, 58, 59, 60, 61] (fun _ _ _ _ t wx => t = .bool false ∧ Kept 0 0 w6 wx)
        case first =>
          go_region_with (first | (go_at_call 17; refine (toDevice _ d.e d.l d.t d.r a b ca cb d.xs d.ys (HX.out.below Bel.out.drew).1 (HY.out.below Bel.out.drew).1 bx bm).mono ?_; rintro e w7 ⟨g5, g6, rfl, o5, o6, l7, l8, l9, kd⟩; have k := undrewK kd; have VN := hide (VA.out.kept0 k); have u0 := VN.out.cell (i := 0) rfl; have u1 := VN.out.cell (i := 1) rfl; have u2 := VN.out.cell (i := 2) rfl; have u3 := VN.out.cell (i := 3) rfl; have u4 := VN.out.cell (i := 4) rfl; have u5 := VN.out.cell (i := 5) rfl; have P3 := hide (O3.out.keptS k (by omega)); have P4 := hide (O4.out.keptS k (by omega)); have P5 := hide o5; have P6 := hide o6; have K7 := hide k; clear k kd o5 o6) | (go_at_call 12; refine (eqDevice _ d.e d.l d.t d.r _ _ _ _ _ _ _ _ d.xs d.ys P3.out.row P4.out.row P5.out.row P6.out.row bx bm).mono ?_; rintro e w8 ⟨rfl, k⟩; have K8 := hide (K7.out.trans k); clear k))
          all_goals
            go_wp2_with fail
            go_meet
            case rel => exact ⟨rfl, K8.out⟩
        case rest =>
          clear p00 p01 p02 p03 p04 p05 p10 p11 p12 p13 p14 p15
          rename_i wx
          obtain ⟨rfl, k⟩ := hcut
          have Beln := hide (below_kept Bel.out k (by omega))
          have WAn := hide (WA.out.kept k (by omega))
          have WXn := hide (WX.out.kept k (by omega))
          have W0n := hide (W0.out.kept k (by omega))
          have S0n := hide (S0.out.kept k (by omega))
          have T0n := hide (T0.out.kept k (by omega))
          have O3n := hide (O3.out.keptS k (by omega))
          have O4n := hide (O4.out.keptS k (by omega))
          have VAn := hide (VA.out.kept k (by omega))
          have W1n := hide (W1.out.kept k (by omega))
          have S1n := hide (S1.out.kept k (by omega))
          have T1n := hide (T1.out.kept k (by omega))
          clear Bel WA WX W0 S0 T0 O3 O4 VA W1 S1 T1
          have Bel := Beln
          have WA := WAn
          have WX := WXn
          have W0 := W0n
          have S0 := S0n
          have T0 := T0n
          have O3 := O3n
          have O4 := O4n
          have VA := VAn
          have W1 := W1n
          have S1 := S1n
          have T1 := T1n
          clear Beln WAn WXn W0n S0n T0n O3n O4n VAn W1n S1n T1n
          have nwx := k.size
          clear k
          have p00 := VA.out.cell (i := 0) rfl
          have p01 := VA.out.cell (i := 1) rfl
          have p02 := VA.out.cell (i := 2) rfl
          have p03 := VA.out.cell (i := 3) rfl
          have p04 := VA.out.cell (i := 4) rfl
          have p05 := VA.out.cell (i := 5) rfl
          go_wp2_with fail
          clear p00 p01 p02 p03 p04 p05
          refine (markDevice _ w3.heap.size w4.heap.size d.e d.l d.t d.r _ _ _ _ d.xs d.ys 1 (.inr ⟨g3, rfl, l4, by omega, O3.out⟩) (.inr ⟨g4, rfl, by omega, l6, O4.out⟩) (fun g h => by simp [blk] at h ⊢; omega) (by omega) bx bm (by decide) (by decide)).mono ?_
          rintro e w9 ⟨rfl, _, _, k⟩
          clear O3 O4
          have Beln := hide (below_kept Bel.out k (by omega))
          have WAn := hide (WA.out.kept k (by omega))
          have WXn := hide (WX.out.kept k (by omega))
          have W0n := hide (W0.out.kept k (by omega))
          have S0n := hide (S0.out.kept k (by omega))
          have T0n := hide (T0.out.kept k (by omega))
          have VAn := hide (VA.out.kept k (by omega))
          have W1n := hide (W1.out.kept k (by omega))
          have S1n := hide (S1.out.kept k (by omega))
          have T1n := hide (T1.out.kept k (by omega))
          clear Bel WA WX W0 S0 T0 VA W1 S1 T1
          have Bel := Beln
          have WA := WAn
          have WX := WXn
          have W0 := W0n
          have S0 := S0n
          have T0 := T0n
          have VA := VAn
          have W1 := W1n
          have S1 := S1n
          have T1 := T1n
          clear Beln WAn WXn W0n S0n T0n VAn W1n S1n T1n
          have n9 := k.size
          clear k
          clear VA
          have p00 := W1.out.cell (i := 0) rfl
          have p01 := W1.out.cell (i := 1) rfl
          have p02 := W1.out.cell (i := 2) rfl
          have p03 := W1.out.cell (i := 3) rfl
          have p04 := W1.out.cell (i := 4) rfl
          have p05 := W1.out.cell (i := 5) rfl
          have p10 := W0.out.cell (i := 0) rfl
          have p11 := W0.out.cell (i := 1) rfl
          have p12 := W0.out.cell (i := 2) rfl
          have p13 := W0.out.cell (i := 3) rfl
          have p14 := W0.out.cell (i := 4) rfl
          have p15 := W0.out.cell (i := 5) rfl
          go_wp2_with fail
          clear p00 p01 p02 p03 p04 p05 p10 p11 p12 p13 p14 p15
          refine (eqDevice _ D.e D.l D.t D.r a1 b1 a0 b0 _ _ _ _ D.xs D.ys S1.out.row T1.out.row S0.out.row T0.out.row bD bE).mono ?_
          rintro e w10 ⟨rfl, k⟩
          have Beln := hide (below_kept Bel.out k (by omega))
          have WAn := hide (WA.out.kept k (by omega))
          have WXn := hide (WX.out.kept k (by omega))
          have W0n := hide (W0.out.kept k (by omega))
          have S0n := hide (S0.out.kept k (by omega))
          have T0n := hide (T0.out.kept k (by omega))
          have W1n := hide (W1.out.kept k (by omega))
          have S1n := hide (S1.out.kept k (by omega))
          have T1n := hide (T1.out.kept k (by omega))
          clear Bel WA WX W0 S0 T0 W1 S1 T1
          have Bel := Beln
          have WA := WAn
          have WX := WXn
          have W0 := W0n
          have S0 := S0n
          have T0 := T0n
          have W1 := W1n
          have S1 := S1n
          have T1 := T1n
          clear Beln WAn WXn W0n S0n T0n W1n S1n T1n
          have nw10 := k.size
          clear k
          have p00 := W1.out.cell (i := 0) rfl
          have p01 := W1.out.cell (i := 1) rfl
          have p02 := W1.out.cell (i := 2) rfl
          have p03 := W1.out.cell (i := 3) rfl
          have p04 := W1.out.cell (i := 4) rfl
          have p05 := W1.out.cell (i := 5) rfl
          go_wp2_with fail
          clear p00 p01 p02 p03 p04 p05
          refine (markDevice _ lo1 hi1 D.e D.l D.t D.r a1 b1 _ _ D.xs D.ys 1 S1.out T1.out HD1.out (by omega) bD bE (by decide) (by decide)).mono ?_
          rintro e w11 ⟨rfl, s, t, k⟩
          clear S1 T1
          have Beln := hide (below_kept Bel.out k (by omega))
          have WAn := hide (WA.out.kept k (by omega))
          have WXn := hide (WX.out.kept k (by omega))
          have W0n := hide (W0.out.kept k (by omega))
          have S0n := hide (S0.out.kept k (by omega))
          have T0n := hide (T0.out.kept k (by omega))
          have W1n := hide (W1.out.kept k (by omega))
          clear Bel WA WX W0 S0 T0 W1
          have Bel := Beln
          have WA := WAn
          have WX := WXn
          have W0 := W0n
          have S0 := S0n
          have T0 := T0n
          have W1 := W1n
          clear Beln WAn WXn W0n S0n T0n W1n
          have M1 := hide s
          have M2 := hide t
          have n11 := k.size
          clear k s t
          have p00 := W1.out.cell (i := 0) rfl
          have p01 := W1.out.cell (i := 1) rfl
          have p02 := W1.out.cell (i := 2) rfl
          have p03 := W1.out.cell (i := 3) rfl
          have p04 := W1.out.cell (i := 4) rfl
          have p05 := W1.out.cell (i := 5) rfl
          go_wp2_with fail
          clear p00 p01 p02 p03 p04 p05
          refine (heldDevice _ D.e D.l D.t D.r a1 b1 _ _ D.xs.length D.ys.length 1 M1.out.row M2.out.row bD bE (by decide) (by decide)).mono ?_
          rintro e w12 ⟨rfl, k⟩
          have Beln := hide (below_kept Bel.out k (by omega))
          have WAn := hide (WA.out.kept k (by omega))
          have WXn := hide (WX.out.kept k (by omega))
          have W0n := hide (W0.out.kept k (by omega))
          have S0n := hide (S0.out.kept k (by omega))
          have T0n := hide (T0.out.kept k (by omega))
          have W1n := hide (W1.out.kept k (by omega))
          have M1n := hide (M1.out.kept k (by omega))
          have M2n := hide (M2.out.kept k (by omega))
          clear Bel WA WX W0 S0 T0 W1 M1 M2
          have Bel := Beln
          have WA := WAn
          have WX := WXn
          have W0 := W0n
          have S0 := S0n
          have T0 := T0n
          have W1 := W1n
          have M1 := M1n
          have M2 := M2n
          clear Beln WAn WXn W0n S0n T0n W1n M1n M2n
          have nw12 := k.size
          clear k
          go_upto_region 24 with fail
          have IX := hide (HX.out.below Bel.out).1
          have IY := hide (HY.out.below Bel.out).1
          have KY := hide (Kept.refl 0 0 w12)
          go_upto_region 24 with fail
          go_cut [16, 17, 18, 95, 96, 97, 98, 99, 94, 100, 101, 102] (fun pp zz kk _ _ _ _ _ _ _ _ _ W => ∃ (X : World) (B lo hi : Nat) (a0 b0 : Option Addr) (ca0 cb0 : Nat), X = W ∧ pp = .pointer (some ⟨B, 0, none⟩) ∧ zz = .int .i64 V ∧ kk = .bool K ∧ StepRel w12 W D B lo hi a0 b0 ca0 cb0)
          case first =>
            clear Bel W0 S0 T0 W1 M1 M2
            refine wp_region_inv2 (fun A0 l A W => ∃ (a0 b0 : Option Addr) (ca0 cb0 lo hi B : Nat), FR [95, 96, 97, 98, 99, 94, 100, 101, 102, 16, 17, 18] A0 A ∧ Once l 0 (A.tmps[95]? = some (.agg #[.int .i64 d.e, .int .i64 d.l, .bool d.r, .slice a d.xs.length ca, .slice b d.ys.length cb, .int .i64 d.t])) ∧ Once l 1 (l.getD 10 true = false → ∃ h1 h2 : Nat, A.tmps[96]? = some (.agg #[.int .i64 d.e, .int .i64 d.l, .bool d.r, .slice (some ⟨h1, 0, none⟩) d.xs.length d.xs.length, .slice (some ⟨h2, 0, none⟩) d.ys.length d.ys.length, .int .i64 d.t]) ∧ Own W h1 d.xs ∧ Own W h2 d.ys) ∧ Once l 2 (A.tmps[97]? = some (.agg #[.int .i64 q, .int .i64 p, .int .i64 v])) ∧ Once l 3 (A.tmps[98]? = some (.agg #[.int .i64 q, .int .i64 p, .int .i64 v])) ∧ Once l 4 (A.tmps[99]? = some (.tuple #[.agg #[.int .i64 D.e, .int .i64 D.l, .bool D.r, .slice a0 D.xs.length ca0, .slice b0 D.ys.length cb0, .int .i64 D.t], .int .i64 V, .bool K]) ∧ SlotIn W lo hi a0 D.xs ∧ SlotIn W lo hi b0 D.ys ∧ (∀ g, blk a0 = some g → blk b0 ≠ some g) ∧ w12.heap.size ≤ lo ∧ hi ≤ W.heap.size) ∧ Once l 5 (l.getD 4 true = true ∧ A.tmps[94]? = some (.tuple #[.agg #[.int .i64 D.e, .int .i64 D.l, .bool D.r, .slice a0 D.xs.length ca0, .slice b0 D.ys.length cb0, .int .i64 D.t], .int .i64 V, .bool K])) ∧ Once l 6 (l.getD 4 true = true ∧ A.tmps[100]? = some (.agg #[.int .i64 D.e, .int .i64 D.l, .bool D.r, .slice a0 D.xs.length ca0, .slice b0 D.ys.length cb0, .int .i64 D.t])) ∧ Once l 7 (l.getD 4 true = true ∧ A.tmps[101]? = some (.int .i64 V)) ∧ Once l 8 (l.getD 4 true = true ∧ A.tmps[102]? = some (.bool K)) ∧ Once l 9 (A.tmps[16]? = some (.pointer (some ⟨B, 0, none⟩)) ∧ w12.heap.size ≤ B ∧ B < W.heap.size ∧ (l.getD 10 true = false → Blk W B #[.int .i64 0, .int .i64 0, .bool false, .slice none 0 0, .slice none 0 0, .int .i64 0] 24)) ∧ Once l 10 (l.getD 4 true = true ∧ l.getD 9 true = true ∧ Blk W B #[.int .i64 D.e, .int .i64 D.l, .bool D.r, .slice a0 D.xs.length ca0, .slice b0 D.ys.length cb0, .int .i64 D.t] 24) ∧ Once l 11 (l.getD 4 true = true ∧ A.tmps[17]? = some (.int .i64 V)) ∧ Once l 12 (l.getD 4 true = true ∧ A.tmps[18]? = some (.bool K)) ∧ (l.getD 4 true = true → l.getD 9 true = true → B < lo ∨ hi ≤ B) ∧ Kept 0 0 w12 W) (by kernel_rfl) (by kernel_rfl) ?start ?fin ?step
            case start => exact ⟨none, none, 0, 0, 0, 0, 0, FR.refl _ _, once_start (by decide), once_start (by decide), once_start (by decide), once_start (by decide), once_start (by decide), once_start (by decide), once_start (by decide), once_start (by decide), once_start (by decide), once_start (by decide), once_start (by decide), once_start (by decide), once_start (by decide), fun h => (by rw [start_at (by decide)] at h; cases h), kept_drew (Kept.refl _ _ _)⟩
            case fin =>
              intro l A W h hl
              obtain ⟨a0, b0, ca0, cb0, lo, hi, B, hFR, o_ld, o_toD, o_lx, o_toX, o_F, o_mv, o_e0, o_e1, o_e2, o_al, o_st, o_a1, o_a2, hsep, hK⟩ := h
              have q_F := o_F (hl 4 (by decide))
              have q_al := o_al (hl 9 (by decide))
              have q_st := o_st (hl 10 (by decide))
              have q_a1 := o_a1 (hl 11 (by decide))
              have q_a2 := o_a2 (hl 12 (by decide))
              have q_sep := hsep (hl 4 (by decide)) (hl 9 (by decide))
              obtain ⟨_, g1⟩ := q_a1
              obtain ⟨_, g2⟩ := q_a2
              obtain ⟨g0, q1, q2, _⟩ := q_al
              obtain ⟨_, q3, q4, q5, q6, q7⟩ := q_F
              obtain ⟨_, _, q8⟩ := q_st
              have QQ : Hid (StepRel w12 W D B lo hi a0 b0 ca0 cb0) := hide ⟨q8, q3, q4, q5, hK, q1, q6, q7, q_sep⟩
              have hc := hFR.chain
              simp only [List.foldl] at hc
              rw [getD_of g0, getD_of g1, getD_of g2] at hc
              clear hl hK hsep q1 q2 q3 q4 q5 q6 q7 q8 q_sep hFR g0 g1 g2 o_ld o_toD o_lx o_toX o_F o_mv o_e0 o_e1 o_e2 o_al o_st o_a1 o_a2
              generalize A.tmps.getD 95 undef = s95 at hc
              generalize A.tmps.getD 96 undef = s96 at hc
              generalize A.tmps.getD 97 undef = s97 at hc
              generalize A.tmps.getD 98 undef = s98 at hc
              generalize A.tmps.getD 99 undef = s99 at hc
              generalize A.tmps.getD 94 undef = s94 at hc
              generalize A.tmps.getD 100 undef = s100 at hc
              generalize A.tmps.getD 101 undef = s101 at hc
              generalize A.tmps.getD 102 undef = s102 at hc
              subst hc
              go_simp
              go_step
              go_meet
              case rel => exact ⟨_, _, lo, hi, a0, b0, ca0, cb0, rfl, rfl, rfl, rfl, QQ.out⟩
            case step =>
              intro l A W i hI hm
              obtain ⟨a0, b0, ca0, cb0, lo, hi, B, hFR, o_ld, o_toD, o_lx, o_toX, o_F, o_mv, o_e0, o_e1, o_e2, o_al, o_st, o_a1, o_a2, hsep, hK⟩ := hI
              obtain ⟨hi1, hi2⟩ := ready_new hm
              have hsz : Hid (102 < A.tmps.size) := hide (by rw [hFR.size]; simp)
              have m1 : A.tmps[2]? = some (.pointer (some ⟨w.heap.size, 0, none⟩)) := (hFR.out 2 (by decide)).trans rfl
              have m2 : A.tmps[3]? = some (.pointer (some ⟨w.heap.size + 1, 0, none⟩)) := (hFR.out 3 (by decide)).trans rfl
              rcases i with _ | _ | _ | _ | _ | _ | _ | _ | _ | _ | _ | _ | _ | i
              · have x0 := (WA.out.kept0 hK).cell (i := 0) rfl
                have x1 := (WA.out.kept0 hK).cell (i := 1) rfl
                have x2 := (WA.out.kept0 hK).cell (i := 2) rfl
                have x3 := (WA.out.kept0 hK).cell (i := 3) rfl
                have x4 := (WA.out.kept0 hK).cell (i := 4) rfl
                have x5 := (WA.out.kept0 hK).cell (i := 5) rfl
                refine wpOp_step rfl (fun K2 hK2 => ?_)
                go_simp
                exact hK2 (A.put (some 95) (.agg #[.int .i64 d.e, .int .i64 d.l, .bool d.r, .slice a d.xs.length ca, .slice b d.ys.length cb, .int .i64 d.t])) _ ⟨a0, b0, ca0, cb0, lo, hi, B, hFR.put (by decide) _, .now (put_eq (by have hz := hsz.out; omega)), o_toD.past (by decide) (fun h e => by obtain ⟨h1, h2, q0, q1, q2⟩ := h (by rwa [getD_set_ne (by decide)] at e); exact ⟨h1, h2, ((put_ne (by decide)).trans q0), q1, q2⟩), o_lx.past (by decide) (fun h => ((put_ne (by decide)).trans h)), o_toX.past (by decide) (fun h => ((put_ne (by decide)).trans h)), o_F.past (by decide) (fun h => ⟨((put_ne (by decide)).trans h.1), h.2⟩), o_mv.past (by decide) (fun h => ⟨getD_mono h.1, ((put_ne (by decide)).trans h.2)⟩), o_e0.past (by decide) (fun h => ⟨getD_mono h.1, ((put_ne (by decide)).trans h.2)⟩), o_e1.past (by decide) (fun h => ⟨getD_mono h.1, ((put_ne (by decide)).trans h.2)⟩), o_e2.past (by decide) (fun h => ⟨getD_mono h.1, ((put_ne (by decide)).trans h.2)⟩), o_al.past (by decide) (fun h => ⟨((put_ne (by decide)).trans h.1), h.2.1, h.2.2.1, fun e => h.2.2.2 (by rwa [getD_set_ne (by decide)] at e)⟩), o_st.past (by decide) (fun h => ⟨getD_mono h.1, getD_mono h.2.1, h.2.2⟩), o_a1.past (by decide) (fun h => ⟨getD_mono h.1, ((put_ne (by decide)).trans h.2)⟩), o_a2.past (by decide) (fun h => ⟨getD_mono h.1, ((put_ne (by decide)).trans h.2)⟩), fun h9 h8 => hsep (by rwa [getD_set_ne (by decide)] at h9) (by rwa [getD_set_ne (by decide)] at h8), hK⟩
              · have e1 := o_ld (ready_dep hm 0 (by kernel_rfl))
                refine wpOp_step rfl (fun K2 hK2 => ?_)
                go_simp
                refine (toDevice W d.e d.l d.t d.r a b ca cb d.xs d.ys (IX.out.keptS hK) (IY.out.keptS hK) bx bm).mono ?_
                rintro e y ⟨h1, h2, rfl, q1, q2, m1, m2, m3, kd⟩
                go_simp
                exact hK2 (A.put (some 96) (.agg #[.int .i64 d.e, .int .i64 d.l, .bool d.r, .slice (some ⟨h1, 0, none⟩) d.xs.length d.xs.length, .slice (some ⟨h2, 0, none⟩) d.ys.length d.ys.length, .int .i64 d.t])) _ ⟨a0, b0, ca0, cb0, lo, hi, B, hFR.put (by decide) _, o_ld.past (by decide) (fun h => ((put_ne (by decide)).trans h)), .now (fun _ => ⟨h1, h2, put_eq (by have hz := hsz.out; omega), q1, q2⟩), o_lx.past (by decide) (fun h => ((put_ne (by decide)).trans h)), o_toX.past (by decide) (fun h => ((put_ne (by decide)).trans h)), o_F.past (by decide) (fun h => ⟨((put_ne (by decide)).trans h.1), h.2.1.kept kd (by omega), h.2.2.1.kept kd (by omega), h.2.2.2.1, h.2.2.2.2.1, Nat.le_trans h.2.2.2.2.2 kd.size⟩), o_mv.past (by decide) (fun h => ⟨getD_mono h.1, ((put_ne (by decide)).trans h.2)⟩), o_e0.past (by decide) (fun h => ⟨getD_mono h.1, ((put_ne (by decide)).trans h.2)⟩), o_e1.past (by decide) (fun h => ⟨getD_mono h.1, ((put_ne (by decide)).trans h.2)⟩), o_e2.past (by decide) (fun h => ⟨getD_mono h.1, ((put_ne (by decide)).trans h.2)⟩), o_al.past (by decide) (fun h => ⟨((put_ne (by decide)).trans h.1), h.2.1, Nat.lt_of_lt_of_le h.2.2.1 kd.size, fun e => (h.2.2.2 (by rwa [getD_set_ne (by decide)] at e)).kept0 kd⟩), o_st.past (by decide) (fun h => ⟨getD_mono h.1, getD_mono h.2.1, h.2.2.kept0 kd⟩), o_a1.past (by decide) (fun h => ⟨getD_mono h.1, ((put_ne (by decide)).trans h.2)⟩), o_a2.past (by decide) (fun h => ⟨getD_mono h.1, ((put_ne (by decide)).trans h.2)⟩), fun h9 h8 => hsep (by rwa [getD_set_ne (by decide)] at h9) (by rwa [getD_set_ne (by decide)] at h8), (hK.trans kd)⟩
              · have x0 := (WX.out.kept0 hK).cell (i := 0) rfl
                have x1 := (WX.out.kept0 hK).cell (i := 1) rfl
                have x2 := (WX.out.kept0 hK).cell (i := 2) rfl
                refine wpOp_step rfl (fun K2 hK2 => ?_)
                go_simp
                exact hK2 (A.put (some 97) (.agg #[.int .i64 q, .int .i64 p, .int .i64 v])) _ ⟨a0, b0, ca0, cb0, lo, hi, B, hFR.put (by decide) _, o_ld.past (by decide) (fun h => ((put_ne (by decide)).trans h)), o_toD.past (by decide) (fun h e => by obtain ⟨h1, h2, q0, q1, q2⟩ := h (by rwa [getD_set_ne (by decide)] at e); exact ⟨h1, h2, ((put_ne (by decide)).trans q0), q1, q2⟩), .now (put_eq (by have hz := hsz.out; omega)), o_toX.past (by decide) (fun h => ((put_ne (by decide)).trans h)), o_F.past (by decide) (fun h => ⟨((put_ne (by decide)).trans h.1), h.2⟩), o_mv.past (by decide) (fun h => ⟨getD_mono h.1, ((put_ne (by decide)).trans h.2)⟩), o_e0.past (by decide) (fun h => ⟨getD_mono h.1, ((put_ne (by decide)).trans h.2)⟩), o_e1.past (by decide) (fun h => ⟨getD_mono h.1, ((put_ne (by decide)).trans h.2)⟩), o_e2.past (by decide) (fun h => ⟨getD_mono h.1, ((put_ne (by decide)).trans h.2)⟩), o_al.past (by decide) (fun h => ⟨((put_ne (by decide)).trans h.1), h.2.1, h.2.2.1, fun e => h.2.2.2 (by rwa [getD_set_ne (by decide)] at e)⟩), o_st.past (by decide) (fun h => ⟨getD_mono h.1, getD_mono h.2.1, h.2.2⟩), o_a1.past (by decide) (fun h => ⟨getD_mono h.1, ((put_ne (by decide)).trans h.2)⟩), o_a2.past (by decide) (fun h => ⟨getD_mono h.1, ((put_ne (by decide)).trans h.2)⟩), fun h9 h8 => hsep (by rwa [getD_set_ne (by decide)] at h9) (by rwa [getD_set_ne (by decide)] at h8), hK⟩
              · have e1 := o_lx (ready_dep hm 2 (by kernel_rfl))
                refine wpOp_step rfl (fun K2 hK2 => ?_)
                go_simp
                refine (toDevStep _ _ _ W).mono ?_
                rintro e y ⟨rfl, q1, q2, q3, hw3⟩
                have kd := kept3 hw3
                clear hw3
                go_simp
                exact hK2 (A.put (some 98) (.agg #[.int .i64 q, .int .i64 p, .int .i64 v])) _ ⟨a0, b0, ca0, cb0, lo, hi, B, hFR.put (by decide) _, o_ld.past (by decide) (fun h => ((put_ne (by decide)).trans h)), o_toD.past (by decide) (fun h e => by obtain ⟨h1, h2, q0, q1, q2⟩ := h (by rwa [getD_set_ne (by decide)] at e); exact ⟨h1, h2, ((put_ne (by decide)).trans q0), q1.keptS kd (by omega), q2.keptS kd (by omega)⟩), o_lx.past (by decide) (fun h => ((put_ne (by decide)).trans h)), .now (put_eq (by have hz := hsz.out; omega)), o_F.past (by decide) (fun h => ⟨((put_ne (by decide)).trans h.1), h.2.1.kept kd (by omega), h.2.2.1.kept kd (by omega), h.2.2.2.1, h.2.2.2.2.1, Nat.le_trans h.2.2.2.2.2 kd.size⟩), o_mv.past (by decide) (fun h => ⟨getD_mono h.1, ((put_ne (by decide)).trans h.2)⟩), o_e0.past (by decide) (fun h => ⟨getD_mono h.1, ((put_ne (by decide)).trans h.2)⟩), o_e1.past (by decide) (fun h => ⟨getD_mono h.1, ((put_ne (by decide)).trans h.2)⟩), o_e2.past (by decide) (fun h => ⟨getD_mono h.1, ((put_ne (by decide)).trans h.2)⟩), o_al.past (by decide) (fun h => ⟨((put_ne (by decide)).trans h.1), h.2.1, Nat.lt_of_lt_of_le h.2.2.1 kd.size, fun e => (h.2.2.2 (by rwa [getD_set_ne (by decide)] at e)).kept0 kd⟩), o_st.past (by decide) (fun h => ⟨getD_mono h.1, getD_mono h.2.1, h.2.2.kept0 kd⟩), o_a1.past (by decide) (fun h => ⟨getD_mono h.1, ((put_ne (by decide)).trans h.2)⟩), o_a2.past (by decide) (fun h => ⟨getD_mono h.1, ((put_ne (by decide)).trans h.2)⟩), fun h9 h8 => hsep (by rwa [getD_set_ne (by decide)] at h9) (by rwa [getD_set_ne (by decide)] at h8), (hK.trans kd)⟩
              · have e1 := o_toX (ready_dep hm 3 (by kernel_rfl))
                have hst : l.getD 10 true = false := by
                  cases e : l.getD 10 true
                  · rfl
                  · have h2 := (o_st e).1
                    rw [hi2] at h2
                    cases h2
                obtain ⟨h1, h2, e2, c1, c2⟩ := o_toD (ready_dep hm 1 (by kernel_rfl)) hst
                refine wpOp_step rfl (fun K2 hK2 => ?_)
                go_simp
                have CN := HI.out W d _ _ d.xs.length d.ys.length q p v (c1.came HX.out.2) (c2.came HY.out.2) bx bm HWF.out wfk wfp wfv
                rw [HDD.out, HVV.out, HKK.out] at CN
                refine CN.mono ?_
                clear CN
                rintro e y ⟨a5, b5, ca5, cb5, rfl, hD5, kd⟩
                go_simp
                exact hK2 (A.put (some 99) (.tuple #[.agg #[.int .i64 D.e, .int .i64 D.l, .bool D.r, .slice a5 D.xs.length ca5, .slice b5 D.ys.length cb5, .int .i64 D.t], .int .i64 V, .bool K])) _ ⟨a5, b5, ca5, cb5, W.heap.size, y.heap.size, B, hFR.put (by decide) _, o_ld.past (by decide) (fun h => ((put_ne (by decide)).trans h)), o_toD.past (by decide) (fun h e => by obtain ⟨h1, h2, q0, q1, q2⟩ := h (by rwa [getD_set_ne (by decide)] at e); exact ⟨h1, h2, ((put_ne (by decide)).trans q0), q1.keptS kd (by omega), q2.keptS kd (by omega)⟩), o_lx.past (by decide) (fun h => ((put_ne (by decide)).trans h)), o_toX.past (by decide) (fun h => ((put_ne (by decide)).trans h)), .now ⟨put_eq (by have hz := hsz.out; omega), hD5.1, hD5.2.1, hD5.2.2.1, hK.size, Nat.le_refl _⟩, o_mv.past (by decide) (fun h => by have h2 := h.1; rw [hi2] at h2; cases h2), o_e0.past (by decide) (fun h => by have h2 := h.1; rw [hi2] at h2; cases h2), o_e1.past (by decide) (fun h => by have h2 := h.1; rw [hi2] at h2; cases h2), o_e2.past (by decide) (fun h => by have h2 := h.1; rw [hi2] at h2; cases h2), o_al.past (by decide) (fun h => ⟨((put_ne (by decide)).trans h.1), h.2.1, Nat.lt_of_lt_of_le h.2.2.1 kd.size, fun e => (h.2.2.2 (by rwa [getD_set_ne (by decide)] at e)).kept0 kd⟩), o_st.past (by decide) (fun h => by have h2 := h.1; rw [hi2] at h2; cases h2), o_a1.past (by decide) (fun h => by have h2 := h.1; rw [hi2] at h2; cases h2), o_a2.past (by decide) (fun h => by have h2 := h.1; rw [hi2] at h2; cases h2), fun _ h8 => .inl (o_al (by rwa [getD_set_ne (by decide)] at h8)).2.2.1, (hK.trans kd)⟩
              · have h4 := ready_dep hm 4 (by kernel_rfl)
                have e1 := (o_F h4).1
                refine wpOp_step rfl (fun K2 hK2 => ?_)
                go_simp
                exact hK2 (A.put (some 94) (.tuple #[.agg #[.int .i64 D.e, .int .i64 D.l, .bool D.r, .slice a0 D.xs.length ca0, .slice b0 D.ys.length cb0, .int .i64 D.t], .int .i64 V, .bool K])) _ ⟨a0, b0, ca0, cb0, lo, hi, B, hFR.put (by decide) _, o_ld.past (by decide) (fun h => ((put_ne (by decide)).trans h)), o_toD.past (by decide) (fun h e => by obtain ⟨h1, h2, q0, q1, q2⟩ := h (by rwa [getD_set_ne (by decide)] at e); exact ⟨h1, h2, ((put_ne (by decide)).trans q0), q1, q2⟩), o_lx.past (by decide) (fun h => ((put_ne (by decide)).trans h)), o_toX.past (by decide) (fun h => ((put_ne (by decide)).trans h)), o_F.past (by decide) (fun h => ⟨((put_ne (by decide)).trans h.1), h.2⟩), .now ⟨getD_mono h4, put_eq (by have hz := hsz.out; omega)⟩, o_e0.past (by decide) (fun h => ⟨getD_mono h.1, ((put_ne (by decide)).trans h.2)⟩), o_e1.past (by decide) (fun h => ⟨getD_mono h.1, ((put_ne (by decide)).trans h.2)⟩), o_e2.past (by decide) (fun h => ⟨getD_mono h.1, ((put_ne (by decide)).trans h.2)⟩), o_al.past (by decide) (fun h => ⟨((put_ne (by decide)).trans h.1), h.2.1, h.2.2.1, fun e => h.2.2.2 (by rwa [getD_set_ne (by decide)] at e)⟩), o_st.past (by decide) (fun h => ⟨getD_mono h.1, getD_mono h.2.1, h.2.2⟩), o_a1.past (by decide) (fun h => ⟨getD_mono h.1, ((put_ne (by decide)).trans h.2)⟩), o_a2.past (by decide) (fun h => ⟨getD_mono h.1, ((put_ne (by decide)).trans h.2)⟩), fun h9 h8 => hsep (by rwa [getD_set_ne (by decide)] at h9) (by rwa [getD_set_ne (by decide)] at h8), hK⟩
              · obtain ⟨h4, e1⟩ := o_mv (ready_dep hm 5 (by kernel_rfl))
                refine wpOp_step rfl (fun K2 hK2 => ?_)
                go_simp
                exact hK2 (A.put (some 100) (.agg #[.int .i64 D.e, .int .i64 D.l, .bool D.r, .slice a0 D.xs.length ca0, .slice b0 D.ys.length cb0, .int .i64 D.t])) _ ⟨a0, b0, ca0, cb0, lo, hi, B, hFR.put (by decide) _, o_ld.past (by decide) (fun h => ((put_ne (by decide)).trans h)), o_toD.past (by decide) (fun h e => by obtain ⟨h1, h2, q0, q1, q2⟩ := h (by rwa [getD_set_ne (by decide)] at e); exact ⟨h1, h2, ((put_ne (by decide)).trans q0), q1, q2⟩), o_lx.past (by decide) (fun h => ((put_ne (by decide)).trans h)), o_toX.past (by decide) (fun h => ((put_ne (by decide)).trans h)), o_F.past (by decide) (fun h => ⟨((put_ne (by decide)).trans h.1), h.2⟩), o_mv.past (by decide) (fun h => ⟨getD_mono h.1, ((put_ne (by decide)).trans h.2)⟩), .now ⟨getD_mono h4, put_eq (by have hz := hsz.out; omega)⟩, o_e1.past (by decide) (fun h => ⟨getD_mono h.1, ((put_ne (by decide)).trans h.2)⟩), o_e2.past (by decide) (fun h => ⟨getD_mono h.1, ((put_ne (by decide)).trans h.2)⟩), o_al.past (by decide) (fun h => ⟨((put_ne (by decide)).trans h.1), h.2.1, h.2.2.1, fun e => h.2.2.2 (by rwa [getD_set_ne (by decide)] at e)⟩), o_st.past (by decide) (fun h => ⟨getD_mono h.1, getD_mono h.2.1, h.2.2⟩), o_a1.past (by decide) (fun h => ⟨getD_mono h.1, ((put_ne (by decide)).trans h.2)⟩), o_a2.past (by decide) (fun h => ⟨getD_mono h.1, ((put_ne (by decide)).trans h.2)⟩), fun h9 h8 => hsep (by rwa [getD_set_ne (by decide)] at h9) (by rwa [getD_set_ne (by decide)] at h8), hK⟩
              · obtain ⟨h4, e1⟩ := o_mv (ready_dep hm 5 (by kernel_rfl))
                refine wpOp_step rfl (fun K2 hK2 => ?_)
                go_simp
                exact hK2 (A.put (some 101) (.int .i64 V)) _ ⟨a0, b0, ca0, cb0, lo, hi, B, hFR.put (by decide) _, o_ld.past (by decide) (fun h => ((put_ne (by decide)).trans h)), o_toD.past (by decide) (fun h e => by obtain ⟨h1, h2, q0, q1, q2⟩ := h (by rwa [getD_set_ne (by decide)] at e); exact ⟨h1, h2, ((put_ne (by decide)).trans q0), q1, q2⟩), o_lx.past (by decide) (fun h => ((put_ne (by decide)).trans h)), o_toX.past (by decide) (fun h => ((put_ne (by decide)).trans h)), o_F.past (by decide) (fun h => ⟨((put_ne (by decide)).trans h.1), h.2⟩), o_mv.past (by decide) (fun h => ⟨getD_mono h.1, ((put_ne (by decide)).trans h.2)⟩), o_e0.past (by decide) (fun h => ⟨getD_mono h.1, ((put_ne (by decide)).trans h.2)⟩), .now ⟨getD_mono h4, put_eq (by have hz := hsz.out; omega)⟩, o_e2.past (by decide) (fun h => ⟨getD_mono h.1, ((put_ne (by decide)).trans h.2)⟩), o_al.past (by decide) (fun h => ⟨((put_ne (by decide)).trans h.1), h.2.1, h.2.2.1, fun e => h.2.2.2 (by rwa [getD_set_ne (by decide)] at e)⟩), o_st.past (by decide) (fun h => ⟨getD_mono h.1, getD_mono h.2.1, h.2.2⟩), o_a1.past (by decide) (fun h => ⟨getD_mono h.1, ((put_ne (by decide)).trans h.2)⟩), o_a2.past (by decide) (fun h => ⟨getD_mono h.1, ((put_ne (by decide)).trans h.2)⟩), fun h9 h8 => hsep (by rwa [getD_set_ne (by decide)] at h9) (by rwa [getD_set_ne (by decide)] at h8), hK⟩
              · obtain ⟨h4, e1⟩ := o_mv (ready_dep hm 5 (by kernel_rfl))
                refine wpOp_step rfl (fun K2 hK2 => ?_)
                go_simp
                exact hK2 (A.put (some 102) (.bool K)) _ ⟨a0, b0, ca0, cb0, lo, hi, B, hFR.put (by decide) _, o_ld.past (by decide) (fun h => ((put_ne (by decide)).trans h)), o_toD.past (by decide) (fun h e => by obtain ⟨h1, h2, q0, q1, q2⟩ := h (by rwa [getD_set_ne (by decide)] at e); exact ⟨h1, h2, ((put_ne (by decide)).trans q0), q1, q2⟩), o_lx.past (by decide) (fun h => ((put_ne (by decide)).trans h)), o_toX.past (by decide) (fun h => ((put_ne (by decide)).trans h)), o_F.past (by decide) (fun h => ⟨((put_ne (by decide)).trans h.1), h.2⟩), o_mv.past (by decide) (fun h => ⟨getD_mono h.1, ((put_ne (by decide)).trans h.2)⟩), o_e0.past (by decide) (fun h => ⟨getD_mono h.1, ((put_ne (by decide)).trans h.2)⟩), o_e1.past (by decide) (fun h => ⟨getD_mono h.1, ((put_ne (by decide)).trans h.2)⟩), .now ⟨getD_mono h4, put_eq (by have hz := hsz.out; omega)⟩, o_al.past (by decide) (fun h => ⟨((put_ne (by decide)).trans h.1), h.2.1, h.2.2.1, fun e => h.2.2.2 (by rwa [getD_set_ne (by decide)] at e)⟩), o_st.past (by decide) (fun h => ⟨getD_mono h.1, getD_mono h.2.1, h.2.2⟩), o_a1.past (by decide) (fun h => ⟨getD_mono h.1, ((put_ne (by decide)).trans h.2)⟩), o_a2.past (by decide) (fun h => ⟨getD_mono h.1, ((put_ne (by decide)).trans h.2)⟩), fun h9 h8 => hsep (by rwa [getD_set_ne (by decide)] at h9) (by rwa [getD_set_ne (by decide)] at h8), hK⟩
              · have kd := kept_alloc W (.cells #[.int .i64 0, .int .i64 0, .bool false, .slice none 0 0, .slice none 0 0, .int .i64 0] 24)
                refine wpOp_step rfl (fun K2 hK2 => ?_)
                go_simp
                exact hK2 (A.put (some 16) (.pointer (some ⟨W.heap.size, 0, none⟩))) _ ⟨a0, b0, ca0, cb0, lo, hi, W.heap.size, hFR.put (by decide) _, o_ld.past (by decide) (fun h => ((put_ne (by decide)).trans h)), o_toD.past (by decide) (fun h e => by obtain ⟨h1, h2, q0, q1, q2⟩ := h (by rwa [getD_set_ne (by decide)] at e); exact ⟨h1, h2, ((put_ne (by decide)).trans q0), q1.keptS kd (by omega), q2.keptS kd (by omega)⟩), o_lx.past (by decide) (fun h => ((put_ne (by decide)).trans h)), o_toX.past (by decide) (fun h => ((put_ne (by decide)).trans h)), o_F.past (by decide) (fun h => ⟨((put_ne (by decide)).trans h.1), h.2.1.kept kd (by omega), h.2.2.1.kept kd (by omega), h.2.2.2.1, h.2.2.2.2.1, Nat.le_trans h.2.2.2.2.2 kd.size⟩), o_mv.past (by decide) (fun h => ⟨getD_mono h.1, ((put_ne (by decide)).trans h.2)⟩), o_e0.past (by decide) (fun h => ⟨getD_mono h.1, ((put_ne (by decide)).trans h.2)⟩), o_e1.past (by decide) (fun h => ⟨getD_mono h.1, ((put_ne (by decide)).trans h.2)⟩), o_e2.past (by decide) (fun h => ⟨getD_mono h.1, ((put_ne (by decide)).trans h.2)⟩), .now ⟨put_eq (by have hz := hsz.out; omega), hK.size, by simp, fun _ => Blk.new _ _ _⟩, o_st.past (by decide) (fun h => by have h2 := h.2.1; rw [hi2] at h2; cases h2), o_a1.past (by decide) (fun h => ⟨getD_mono h.1, ((put_ne (by decide)).trans h.2)⟩), o_a2.past (by decide) (fun h => ⟨getD_mono h.1, ((put_ne (by decide)).trans h.2)⟩), fun h9 _ => .inr (o_F (by rwa [getD_set_ne (by decide)] at h9)).2.2.2.2.2, (hK.trans kd)⟩
              · obtain ⟨h4, e1⟩ := o_e0 (ready_dep hm 6 (by kernel_rfl))
                have h9 := ready_dep hm 9 (by kernel_rfl)
                obtain ⟨e2, n1, n2, hB⟩ := o_al h9
                replace hB := hB hi2
                obtain ⟨e3, q1, q2, q3, q4, q5⟩ := o_F h4
                have hs := hsep h4 h9
                have x0 := hB.cell (i := 0) rfl
                have f0 := hB.frozen 0
                have x1 := hB.cell (i := 1) rfl
                have f1 := hB.frozen 1
                have x2 := hB.cell (i := 2) rfl
                have f2 := hB.frozen 2
                have x3 := hB.cell (i := 3) rfl
                have f3 := hB.frozen 3
                have x4 := hB.cell (i := 4) rfl
                have f4 := hB.frozen 4
                have x5 := hB.cell (i := 5) rfl
                have f5 := hB.frozen 5
                refine wpOp_step rfl (fun K2 hK2 => ?_)
                go_simp
                exact hK2 A _ ⟨a0, b0, ca0, cb0, lo, hi, B, hFR, o_ld.past (by decide) (fun h => h), fun _ e => (by rw [getD_set_eq] at e; cases e), o_lx.past (by decide) (fun h => h), o_toX.past (by decide) (fun h => h), .now ⟨e3, q1.kept (six_kept _ _ _ _ _ _ _ _) (by omega), q2.kept (six_kept _ _ _ _ _ _ _ _) (by omega), q3, q4, by simpa using q5⟩, o_mv.past (by decide) (fun h => ⟨getD_mono h.1, h.2⟩), o_e0.past (by decide) (fun h => ⟨getD_mono h.1, h.2⟩), o_e1.past (by decide) (fun h => ⟨getD_mono h.1, h.2⟩), o_e2.past (by decide) (fun h => ⟨getD_mono h.1, h.2⟩), .now ⟨e2, n1, by simpa using n2, fun e => (by rw [getD_set_eq] at e; cases e)⟩, .now ⟨getD_mono h4, getD_mono h9, ((((((hB.set 0 _).set 1 _).set 2 _).set 3 _).set 4 _).set 5 _)⟩, o_a1.past (by decide) (fun h => ⟨getD_mono h.1, h.2⟩), o_a2.past (by decide) (fun h => ⟨getD_mono h.1, h.2⟩), fun _ _ => hs, (kept_set (kept_set (kept_set (kept_set (kept_set (kept_set hK _ _ _ (.inr n1)) _ _ _ (.inr n1)) _ _ _ (.inr n1)) _ _ _ (.inr n1)) _ _ _ (.inr n1)) _ _ _ (.inr n1))⟩
              · obtain ⟨h4, e1⟩ := o_e1 (ready_dep hm 7 (by kernel_rfl))
                refine wpOp_step rfl (fun K2 hK2 => ?_)
                go_simp
                exact hK2 (A.put (some 17) (.int .i64 V)) _ ⟨a0, b0, ca0, cb0, lo, hi, B, hFR.put (by decide) _, o_ld.past (by decide) (fun h => ((put_ne (by decide)).trans h)), o_toD.past (by decide) (fun h e => by obtain ⟨h1, h2, q0, q1, q2⟩ := h (by rwa [getD_set_ne (by decide)] at e); exact ⟨h1, h2, ((put_ne (by decide)).trans q0), q1, q2⟩), o_lx.past (by decide) (fun h => ((put_ne (by decide)).trans h)), o_toX.past (by decide) (fun h => ((put_ne (by decide)).trans h)), o_F.past (by decide) (fun h => ⟨((put_ne (by decide)).trans h.1), h.2⟩), o_mv.past (by decide) (fun h => ⟨getD_mono h.1, ((put_ne (by decide)).trans h.2)⟩), o_e0.past (by decide) (fun h => ⟨getD_mono h.1, ((put_ne (by decide)).trans h.2)⟩), o_e1.past (by decide) (fun h => ⟨getD_mono h.1, ((put_ne (by decide)).trans h.2)⟩), o_e2.past (by decide) (fun h => ⟨getD_mono h.1, ((put_ne (by decide)).trans h.2)⟩), o_al.past (by decide) (fun h => ⟨((put_ne (by decide)).trans h.1), h.2.1, h.2.2.1, fun e => h.2.2.2 (by rwa [getD_set_ne (by decide)] at e)⟩), o_st.past (by decide) (fun h => ⟨getD_mono h.1, getD_mono h.2.1, h.2.2⟩), .now ⟨getD_mono h4, put_eq (by have hz := hsz.out; omega)⟩, o_a2.past (by decide) (fun h => ⟨getD_mono h.1, ((put_ne (by decide)).trans h.2)⟩), fun h9 h8 => hsep (by rwa [getD_set_ne (by decide)] at h9) (by rwa [getD_set_ne (by decide)] at h8), hK⟩
              · obtain ⟨h4, e1⟩ := o_e2 (ready_dep hm 8 (by kernel_rfl))
                refine wpOp_step rfl (fun K2 hK2 => ?_)
                go_simp
                exact hK2 (A.put (some 18) (.bool K)) _ ⟨a0, b0, ca0, cb0, lo, hi, B, hFR.put (by decide) _, o_ld.past (by decide) (fun h => ((put_ne (by decide)).trans h)), o_toD.past (by decide) (fun h e => by obtain ⟨h1, h2, q0, q1, q2⟩ := h (by rwa [getD_set_ne (by decide)] at e); exact ⟨h1, h2, ((put_ne (by decide)).trans q0), q1, q2⟩), o_lx.past (by decide) (fun h => ((put_ne (by decide)).trans h)), o_toX.past (by decide) (fun h => ((put_ne (by decide)).trans h)), o_F.past (by decide) (fun h => ⟨((put_ne (by decide)).trans h.1), h.2⟩), o_mv.past (by decide) (fun h => ⟨getD_mono h.1, ((put_ne (by decide)).trans h.2)⟩), o_e0.past (by decide) (fun h => ⟨getD_mono h.1, ((put_ne (by decide)).trans h.2)⟩), o_e1.past (by decide) (fun h => ⟨getD_mono h.1, ((put_ne (by decide)).trans h.2)⟩), o_e2.past (by decide) (fun h => ⟨getD_mono h.1, ((put_ne (by decide)).trans h.2)⟩), o_al.past (by decide) (fun h => ⟨((put_ne (by decide)).trans h.1), h.2.1, h.2.2.1, fun e => h.2.2.2 (by rwa [getD_set_ne (by decide)] at e)⟩), o_st.past (by decide) (fun h => ⟨getD_mono h.1, getD_mono h.2.1, h.2.2⟩), o_a1.past (by decide) (fun h => ⟨getD_mono h.1, ((put_ne (by decide)).trans h.2)⟩), .now ⟨getD_mono h4, put_eq (by have hz := hsz.out; omega)⟩, fun h9 h8 => hsep (by rwa [getD_set_ne (by decide)] at h9) (by rwa [getD_set_ne (by decide)] at h8), hK⟩
              · simp at hi1
                omega
          case rest =>
            clear IX IY KY
            obtain ⟨w14, B2, lo2, hi2, a2, b2, ca2, cb2, hw, rfl, rfl, rfl, hbx, sl, tl, hd2, kk, nB2, nlo2, nhi2, nbl2⟩ := hcut
            subst hw
            have Beln := hide (below_kept Bel.out kk (by omega))
            have WAn := hide (WA.out.kept kk (by omega))
            have WXn := hide (WX.out.kept kk (by omega))
            have W0n := hide (W0.out.kept kk (by omega))
            have S0n := hide (S0.out.kept kk (by omega))
            have T0n := hide (T0.out.kept kk (by omega))
            have W1n := hide (W1.out.kept kk (by omega))
            have M1n := hide (M1.out.kept kk (by omega))
            have M2n := hide (M2.out.kept kk (by omega))
            clear Bel WA WX W0 S0 T0 W1 M1 M2
            have Bel := Beln
            have WA := WAn
            have WX := WXn
            have W0 := W0n
            have S0 := S0n
            have T0 := T0n
            have W1 := W1n
            have M1 := M1n
            have M2 := M2n
            clear Beln WAn WXn W0n S0n T0n W1n M1n M2n
            have W2 := hide hbx
            have S2 := hide sl
            have T2 := hide tl
            have nw14 := kk.size
            have lB2 := W2.out.lt
            clear kk hbx sl tl
            clear hd2
            have p00 := W2.out.cell (i := 0) rfl
            have p01 := W2.out.cell (i := 1) rfl
            have p02 := W2.out.cell (i := 2) rfl
            have p03 := W2.out.cell (i := 3) rfl
            have p04 := W2.out.cell (i := 4) rfl
            have p05 := W2.out.cell (i := 5) rfl
            have p10 := W0.out.cell (i := 0) rfl
            have p11 := W0.out.cell (i := 1) rfl
            have p12 := W0.out.cell (i := 2) rfl
            have p13 := W0.out.cell (i := 3) rfl
            have p14 := W0.out.cell (i := 4) rfl
            have p15 := W0.out.cell (i := 5) rfl
            go_wp2_with fail
            clear p00 p01 p02 p03 p04 p05 p10 p11 p12 p13 p14 p15
            refine (eqDevice _ D.e D.l D.t D.r a2 b2 a0 b0 _ _ _ _ D.xs D.ys S2.out.row T2.out.row S0.out.row T0.out.row bD bE).mono ?_
            rintro e w15 ⟨rfl, k⟩
            have Beln := hide (below_kept Bel.out k (by omega))
            have WAn := hide (WA.out.kept k (by omega))
            have WXn := hide (WX.out.kept k (by omega))
            have W0n := hide (W0.out.kept k (by omega))
            have S0n := hide (S0.out.kept k (by omega))
            have T0n := hide (T0.out.kept k (by omega))
            have W1n := hide (W1.out.kept k (by omega))
            have M1n := hide (M1.out.kept k (by omega))
            have M2n := hide (M2.out.kept k (by omega))
            have W2n := hide (W2.out.kept k (by omega))
            have S2n := hide (S2.out.kept k (by omega))
            have T2n := hide (T2.out.kept k (by omega))
            clear Bel WA WX W0 S0 T0 W1 M1 M2 W2 S2 T2
            have Bel := Beln
            have WA := WAn
            have WX := WXn
            have W0 := W0n
            have S0 := S0n
            have T0 := T0n
            have W1 := W1n
            have M1 := M1n
            have M2 := M2n
            have W2 := W2n
            have S2 := S2n
            have T2 := T2n
            clear Beln WAn WXn W0n S0n T0n W1n M1n M2n W2n S2n T2n
            have nw15 := k.size
            clear k
            have p00 := W1.out.cell (i := 0) rfl
            have p01 := W1.out.cell (i := 1) rfl
            have p02 := W1.out.cell (i := 2) rfl
            have p03 := W1.out.cell (i := 3) rfl
            have p04 := W1.out.cell (i := 4) rfl
            have p05 := W1.out.cell (i := 5) rfl
            go_wp2_with fail
            clear p00 p01 p02 p03 p04 p05
            refine (heldDevice _ D.e D.l D.t D.r a1 b1 _ _ D.xs.length D.ys.length 1 M1.out.row M2.out.row bD bE (by decide) (by decide)).mono ?_
            rintro e w16 ⟨rfl, k⟩
            have Beln := hide (below_kept Bel.out k (by omega))
            have WAn := hide (WA.out.kept k (by omega))
            have WXn := hide (WX.out.kept k (by omega))
            have W0n := hide (W0.out.kept k (by omega))
            have S0n := hide (S0.out.kept k (by omega))
            have T0n := hide (T0.out.kept k (by omega))
            have W1n := hide (W1.out.kept k (by omega))
            have M1n := hide (M1.out.kept k (by omega))
            have M2n := hide (M2.out.kept k (by omega))
            have W2n := hide (W2.out.kept k (by omega))
            have S2n := hide (S2.out.kept k (by omega))
            have T2n := hide (T2.out.kept k (by omega))
            clear Bel WA WX W0 S0 T0 W1 M1 M2 W2 S2 T2
            have Bel := Beln
            have WA := WAn
            have WX := WXn
            have W0 := W0n
            have S0 := S0n
            have T0 := T0n
            have W1 := W1n
            have M1 := M1n
            have M2 := M2n
            have W2 := W2n
            have S2 := S2n
            have T2 := T2n
            clear Beln WAn WXn W0n S0n T0n W1n M1n M2n W2n S2n T2n
            have nw16 := k.size
            clear k
            go_wp2_with fail
            go_ret
            exact ⟨rfl, Bel.out⟩
end Go.Proofs.Ytlocilcnmbmikaa
