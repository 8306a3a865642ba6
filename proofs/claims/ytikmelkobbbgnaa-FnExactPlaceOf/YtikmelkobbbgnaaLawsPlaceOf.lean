/- The law on PlaceOf: of whatever arguments, its Go function returns true, and no block that was there has turned. -/
import Derived.Test.YtikmelkobbbgnaaRegsFns
import Derived.Test.YtikmelkobbbgnaaSpecReg7
import Derived.Test.YtikmelkobbbgnaaRegWf
import Derived.Test.YtikmelkobbbgnaaRegLen
import Derived.Test.YtikmelkobbbgnaaRegFrame
import Derived.Deep.DeepCutAuto
namespace Go.Proofs.Ytikmelkobbbgnaa
open Go.RowKit
set_option linter.unusedVariables false
/-- what the program's PlaceOf answers, for every argument -/
def PlaceImpl : Prop := ∀ (w : World) (d : Pl.Rg) (a b : Option Addr) (ca cb : Nat) (z m k e : Int) (ha : Came w a d.xs) (hb : Came w b d.ys) (lx : d.xs.length ≤ 2000000) (ly : d.ys.length ≤ 2000000) (wfd : Pl.WfR d) (wfz : (Lit.int .i64 z).wf = true) (wfm : (Lit.int .i64 m).wf = true) (wfk : (Lit.int .i64 k).wf = true) (wfe : (Lit.int .i64 e).wf = true),
    Calls Try.prog 24 #[.agg #[.slice a d.xs.length ca, .slice b d.ys.length cb, .int .i64 d.o, .int .i64 d.p, .int .i64 d.f, .int .i64 d.m, .bool d.s, .bool d.t], .int .i64 z, .agg #[.int .i64 m, .int .i64 k, .int .i64 e]] w fun e' w' => ∃ (a' b' : Option Addr) (ca' cb' : Nat), e' = .returned (.tuple #[.agg #[.slice a' (Pl.plcR d z m k e).xs.length ca', .slice b' (Pl.plcR d z m k e).ys.length cb', .int .i64 (Pl.plcR d z m k e).o, .int .i64 (Pl.plcR d z m k e).p, .int .i64 (Pl.plcR d z m k e).f, .int .i64 (Pl.plcR d z m k e).m, .bool (Pl.plcR d z m k e).s, .bool (Pl.plcR d z m k e).t], .int .i64 (Pl.plcV d z m k e), .bool (Pl.plcOk d z m k e)]) ∧ RegIn w' w.heap.size (Pl.plcR d z m k e) a' b' ∧ Kept 0 0 w w'
theorem toOperand (a b c : Int) (w : World) :
    Calls Try.prog 21 #[.agg #[.int .i64 a, .int .i64 b, .int .i64 c]] w fun r w' => r = .returned (.agg #[.int .i64 a, .int .i64 b, .int .i64 c]) ∧ ∃ o1 o2 o3, w' = ((w.alloc o1).alloc o2).alloc o3 := by
  go_enter Try.func21, Try.ntmps21
  go_wp2
  refine bodyPost_ret (v := .agg #[.int .i64 a, .int .i64 b, .int .i64 c]) ?_ rfl ⟨rfl, _, _, _, rfl⟩
  rw [results_one rfl]; go_simp
theorem kept3 {w w3 : World} {o1 o2 o3 : Obj} (h : w3 = ((w.alloc o1).alloc o2).alloc o3) : Kept 0 0 w w3 := by rw [h]; exact kept_new (kept_new (kept_alloc _ _) _) _
theorem SlotIn.setBlk {w : World} {l h : Nat} {a : Option Addr} {xs : List Int} (s : SlotIn w l h a xs) (b i : Nat) (v : Value) (hb : b < l ∨ h ≤ b) : SlotIn (w.setCell ⟨b, i, none⟩ v) l h a xs :=
  s.kept (kept_set (Kept.refl b (b + 1) w) b i v (.inl ⟨Nat.le_refl _, by omega⟩)) (by omega)
/-- registers answered into a box: their lists in a span, the box outside it -/
def AnsR (Y W : World) (D : Pl.Rg) (B lo hi : Nat) (a b : Option Addr) (ca cb : Nat) : Prop :=
  Blk W B #[.slice a D.xs.length ca, .slice b D.ys.length cb, .int .i64 D.o, .int .i64 D.p, .int .i64 D.f, .int .i64 D.m, .bool D.s, .bool D.t] 24 ∧ SlotIn W lo hi a D.xs ∧ SlotIn W lo hi b D.ys ∧ (∀ g, blk a = some g → blk b ≠ some g) ∧ Kept 0 0 Y W ∧ Y.heap.size ≤ B ∧ Y.heap.size ≤ lo ∧ hi ≤ W.heap.size ∧ (B < lo ∨ hi ≤ B)

set_option maxRecDepth 100000 in
set_option maxHeartbeats 64000000 in
theorem lawPlaceOf (HI : Hid PlaceImpl) (d : Pl.Rg) (a b : Option Addr) (ca cb : Nat) (z m k e : Int) (w : World) (hx : Came w a d.xs) (hy : Came w b d.ys) (lx : d.xs.length ≤ 9223372036854775807) (ly : d.ys.length ≤ 9223372036854775807) (wfd : Pl.WfR d) (wfz : (Lit.int .i64 z).wf = true) (wfm : (Lit.int .i64 m).wf = true) (wfk : (Lit.int .i64 k).wf = true) (wfe : (Lit.int .i64 e).wf = true) :
    Calls Try.prog 6 #[.agg #[.slice a d.xs.length ca, .slice b d.ys.length cb, .int .i64 d.o, .int .i64 d.p, .int .i64 d.f, .int .i64 d.m, .bool d.s, .bool d.t], .int .i64 z, .agg #[.int .i64 m, .int .i64 k, .int .i64 e]] w fun e w' => e = .returned (.bool true) ∧ Below w.heap.size w w' := by
  have HX := hide hx
  have HY := hide hy
  have HWF := hide wfd
  have Bel := hide (kept_new (kept_alloc w (.cells #[.slice a d.xs.length ca, .slice b d.ys.length cb, .int .i64 d.o, .int .i64 d.p, .int .i64 d.f, .int .i64 d.m, .bool d.s, .bool d.t] 29)) (.cells #[.int .i64 m, .int .i64 k, .int .i64 e] 35)).below
  have WA := hide ((Blk.new w #[.slice a d.xs.length ca, .slice b d.ys.length cb, .int .i64 d.o, .int .i64 d.p, .int .i64 d.f, .int .i64 d.m, .bool d.s, .bool d.t] 29).alloc (.cells #[.int .i64 m, .int .i64 k, .int .i64 e] 35))
  have WX := Blk.new (w.alloc (.cells #[.slice a d.xs.length ca, .slice b d.ys.length cb, .int .i64 d.o, .int .i64 d.p, .int .i64 d.f, .int .i64 d.m, .bool d.s, .bool d.t] 29)) #[.int .i64 m, .int .i64 k, .int .i64 e] 35
  simp only [World.size_alloc] at WX
  replace WX := hide WX
  have hn := Pl.plc_len d z m k e
  clear hx hy wfd
  by_cases hs : szB d.xs.length d.ys.length 1048576 < 0
  · go_enter Try.func6, Try.ntmps6
    go_wp2_with fail
    refine (szRegs _ d.o d.p d.f d.m d.s d.t a b ca cb d.xs.length d.ys.length 1048576 lx ly (by decide) (by decide)).mono ?_
    rintro e w1 ⟨rfl, k⟩
    have Bn := hide (below_kept Bel.out k (by omega))
    clear k
    go_wp2_with fail
    go_ret
    exact ⟨rfl, Bn.out⟩
  · have hb := szB_neg hs
    have bx : d.xs.length ≤ 2000000 := by omega
    have bm : d.ys.length ≤ 2000000 := by omega
    have ds : decide (szB d.xs.length d.ys.length 1048576 < 0) = false := by simpa using hs
    clear hs hb
    generalize hDD : Pl.plcR d z m k e = D at hn
    generalize hVV : Pl.plcV d z m k e = V
    generalize hKK : Pl.plcOk d z m k e = K
    obtain ⟨bD, bE⟩ : D.xs.length ≤ 2000000 ∧ D.ys.length ≤ 2000000 := ⟨by omega, by omega⟩
    have HDD := hide hDD
    have HVV := hide hVV
    have HKK := hide hKK
    clear hDD hVV hKK
    go_enter Try.func6, Try.ntmps6
    go_wp2_with fail
    refine (szRegs _ d.o d.p d.f d.m d.s d.t a b ca cb d.xs.length d.ys.length 1048576 lx ly (by decide) (by decide)).mono ?_
    rintro e w1 ⟨rfl, k1⟩
    have Beln := hide (below_kept Bel.out k1 (by omega))
    have WAn := hide (WA.out.kept k1 (by omega))
    have WXn := hide (WX.out.kept k1 (by omega))
    clear Bel WA WX
    have Bel := Beln
    have WA := WAn
    have WX := WXn
    clear Beln WAn WXn
    have n1 := k1.size
    simp only [World.size_alloc] at n1
    clear k1
    have p00 := WA.out.cell (i := 0) rfl
    have p01 := WA.out.cell (i := 1) rfl
    have p02 := WA.out.cell (i := 2) rfl
    have p03 := WA.out.cell (i := 3) rfl
    have p04 := WA.out.cell (i := 4) rfl
    have p05 := WA.out.cell (i := 5) rfl
    have p06 := WA.out.cell (i := 6) rfl
    have p07 := WA.out.cell (i := 7) rfl
    go_upto_region 5 with fail
    clear p00 p01 p02 p03 p04 p05 p06 p07
    clear ds
    have IX := hide (HX.out.below Bel.out).1
    have IY := hide (HY.out.below Bel.out).1
    go_upto_region 5 with fail
    go_cut [8, 9, 10, 27, 28, 29, 30, 31, 32, 26, 33, 34, 35] (fun pp zz kk _ _ _ _ _ _ _ _ _ _ W => ∃ (X : World) (B lo hi : Nat) (a0 b0 : Option Addr) (ca0 cb0 : Nat), X = W ∧ pp = .pointer (some ⟨B, 0, none⟩) ∧ zz = .int .i64 V ∧ kk = .bool K ∧ AnsR w1 W D B lo hi a0 b0 ca0 cb0)
    case first =>
      clear Bel
      refine wp_region_inv2 (fun A0 l A W => ∃ (a0 b0 : Option Addr) (ca0 cb0 lo hi B : Nat), FR [27, 28, 29, 30, 31, 32, 26, 33, 34, 35, 8, 9, 10] A0 A ∧ Once l 0 (A.tmps[27]? = some (.agg #[.slice a d.xs.length ca, .slice b d.ys.length cb, .int .i64 d.o, .int .i64 d.p, .int .i64 d.f, .int .i64 d.m, .bool d.s, .bool d.t])) ∧ Once l 1 (l.getD 11 true = false → ∃ h1 h2 : Nat, A.tmps[28]? = some (.agg #[.slice (some ⟨h1, 0, none⟩) d.xs.length d.xs.length, .slice (some ⟨h2, 0, none⟩) d.ys.length d.ys.length, .int .i64 d.o, .int .i64 d.p, .int .i64 d.f, .int .i64 d.m, .bool d.s, .bool d.t]) ∧ Own W h1 d.xs ∧ Own W h2 d.ys) ∧ Once l 2 (A.tmps[29]? = some (.int .i64 z)) ∧ Once l 3 (A.tmps[30]? = some (.agg #[.int .i64 m, .int .i64 k, .int .i64 e])) ∧ Once l 4 (A.tmps[31]? = some (.agg #[.int .i64 m, .int .i64 k, .int .i64 e])) ∧ Once l 5 (A.tmps[32]? = some (.tuple #[.agg #[.slice a0 D.xs.length ca0, .slice b0 D.ys.length cb0, .int .i64 D.o, .int .i64 D.p, .int .i64 D.f, .int .i64 D.m, .bool D.s, .bool D.t], .int .i64 V, .bool K]) ∧ SlotIn W lo hi a0 D.xs ∧ SlotIn W lo hi b0 D.ys ∧ (∀ g, blk a0 = some g → blk b0 ≠ some g) ∧ w1.heap.size ≤ lo ∧ hi ≤ W.heap.size) ∧ Once l 6 (l.getD 5 true = true ∧ A.tmps[26]? = some (.tuple #[.agg #[.slice a0 D.xs.length ca0, .slice b0 D.ys.length cb0, .int .i64 D.o, .int .i64 D.p, .int .i64 D.f, .int .i64 D.m, .bool D.s, .bool D.t], .int .i64 V, .bool K])) ∧ Once l 7 (l.getD 5 true = true ∧ A.tmps[33]? = some (.agg #[.slice a0 D.xs.length ca0, .slice b0 D.ys.length cb0, .int .i64 D.o, .int .i64 D.p, .int .i64 D.f, .int .i64 D.m, .bool D.s, .bool D.t])) ∧ Once l 8 (l.getD 5 true = true ∧ A.tmps[34]? = some (.int .i64 V)) ∧ Once l 9 (l.getD 5 true = true ∧ A.tmps[35]? = some (.bool K)) ∧ Once l 10 (A.tmps[8]? = some (.pointer (some ⟨B, 0, none⟩)) ∧ w1.heap.size ≤ B ∧ B < W.heap.size ∧ (l.getD 11 true = false → Blk W B #[.slice none 0 0, .slice none 0 0, .int .i64 0, .int .i64 0, .int .i64 0, .int .i64 0, .bool false, .bool false] 24)) ∧ Once l 11 (l.getD 5 true = true ∧ l.getD 10 true = true ∧ Blk W B #[.slice a0 D.xs.length ca0, .slice b0 D.ys.length cb0, .int .i64 D.o, .int .i64 D.p, .int .i64 D.f, .int .i64 D.m, .bool D.s, .bool D.t] 24) ∧ Once l 12 (l.getD 5 true = true ∧ A.tmps[9]? = some (.int .i64 V)) ∧ Once l 13 (l.getD 5 true = true ∧ A.tmps[10]? = some (.bool K)) ∧ (l.getD 5 true = true → l.getD 10 true = true → B < lo ∨ hi ≤ B) ∧ Kept 0 0 w1 W) (by kernel_rfl) (by kernel_rfl) ?start ?fin ?step
      case start => exact ⟨none, none, 0, 0, 0, 0, 0, FR.refl _ _, once_start (by decide), once_start (by decide), once_start (by decide), once_start (by decide), once_start (by decide), once_start (by decide), once_start (by decide), once_start (by decide), once_start (by decide), once_start (by decide), once_start (by decide), once_start (by decide), once_start (by decide), once_start (by decide), fun h => (by rw [start_at (by decide)] at h; cases h), kept_drew (Kept.refl _ _ _)⟩
      case fin =>
        intro l A W h hl
        obtain ⟨a0, b0, ca0, cb0, lo, hi, B, hFR, o_ld, o_toD, o_mz, o_lx, o_toX, o_F, o_mv, o_e0, o_e1, o_e2, o_al, o_st, o_a1, o_a2, hsep, hK⟩ := h
        have q_F := o_F (hl 5 (by decide))
        have q_al := o_al (hl 10 (by decide))
        have q_st := o_st (hl 11 (by decide))
        have q_a1 := o_a1 (hl 12 (by decide))
        have q_a2 := o_a2 (hl 13 (by decide))
        have q_sep := hsep (hl 5 (by decide)) (hl 10 (by decide))
        obtain ⟨_, g1⟩ := q_a1
        obtain ⟨_, g2⟩ := q_a2
        obtain ⟨g0, q1, q2, _⟩ := q_al
        obtain ⟨_, q3, q4, q5, q6, q7⟩ := q_F
        obtain ⟨_, _, q8⟩ := q_st
        have QQ : Hid (AnsR w1 W D B lo hi a0 b0 ca0 cb0) := hide ⟨q8, q3, q4, q5, hK, q1, q6, q7, q_sep⟩
        have hc := hFR.chain
        simp only [List.foldl] at hc
        rw [getD_of g0, getD_of g1, getD_of g2] at hc
        clear hl hK hsep q1 q2 q3 q4 q5 q6 q7 q8 q_sep hFR g0 g1 g2 o_ld o_toD o_mz o_lx o_toX o_F o_mv o_e0 o_e1 o_e2 o_al o_st o_a1 o_a2
        generalize A.tmps.getD 27 undef = s27 at hc
        generalize A.tmps.getD 28 undef = s28 at hc
        generalize A.tmps.getD 29 undef = s29 at hc
        generalize A.tmps.getD 30 undef = s30 at hc
        generalize A.tmps.getD 31 undef = s31 at hc
        generalize A.tmps.getD 32 undef = s32 at hc
        generalize A.tmps.getD 26 undef = s26 at hc
        generalize A.tmps.getD 33 undef = s33 at hc
        generalize A.tmps.getD 34 undef = s34 at hc
        generalize A.tmps.getD 35 undef = s35 at hc
        subst hc
        go_simp
        go_step
        go_meet
        case rel => exact ⟨_, _, lo, hi, a0, b0, ca0, cb0, rfl, rfl, rfl, rfl, QQ.out⟩
      case step =>
        intro l A W i hI hm
        obtain ⟨a0, b0, ca0, cb0, lo, hi, B, hFR, o_ld, o_toD, o_mz, o_lx, o_toX, o_F, o_mv, o_e0, o_e1, o_e2, o_al, o_st, o_a1, o_a2, hsep, hK⟩ := hI
        obtain ⟨hi1, hi2⟩ := ready_new hm
        have hsz : Hid (35 < A.tmps.size) := hide (by rw [hFR.size]; simp)
        have m1 : A.tmps[3]? = some (.pointer (some ⟨w.heap.size, 0, none⟩)) := (hFR.out 3 (by decide)).trans rfl
        have m2 : A.tmps[5]? = some (.pointer (some ⟨w.heap.size + 1, 0, none⟩)) := (hFR.out 5 (by decide)).trans rfl
        have m3 : A.tmps[1]? = some (.int .i64 z) := (hFR.out 1 (by decide)).trans rfl
        rcases i with _ | _ | _ | _ | _ | _ | _ | _ | _ | _ | _ | _ | _ | _ | i
        · have x0 := (WA.out.kept0 hK).cell (i := 0) rfl
          have x1 := (WA.out.kept0 hK).cell (i := 1) rfl
          have x2 := (WA.out.kept0 hK).cell (i := 2) rfl
          have x3 := (WA.out.kept0 hK).cell (i := 3) rfl
          have x4 := (WA.out.kept0 hK).cell (i := 4) rfl
          have x5 := (WA.out.kept0 hK).cell (i := 5) rfl
          have x6 := (WA.out.kept0 hK).cell (i := 6) rfl
          have x7 := (WA.out.kept0 hK).cell (i := 7) rfl
          refine wpOp_step rfl (fun KK hK2 => ?_)
          go_simp
          exact hK2 (A.put (some 27) (.agg #[.slice a d.xs.length ca, .slice b d.ys.length cb, .int .i64 d.o, .int .i64 d.p, .int .i64 d.f, .int .i64 d.m, .bool d.s, .bool d.t])) _ ⟨a0, b0, ca0, cb0, lo, hi, B, hFR.put (by decide) _, .now (put_eq (by have hz := hsz.out; omega)), o_toD.past (by decide) (fun h e => by obtain ⟨h1, h2, q0, q1, q2⟩ := h (by rwa [getD_set_ne (by decide)] at e); exact ⟨h1, h2, ((put_ne (by decide)).trans q0), q1, q2⟩), o_mz.past (by decide) (fun h => ((put_ne (by decide)).trans h)), o_lx.past (by decide) (fun h => ((put_ne (by decide)).trans h)), o_toX.past (by decide) (fun h => ((put_ne (by decide)).trans h)), o_F.past (by decide) (fun h => ⟨((put_ne (by decide)).trans h.1), h.2⟩), o_mv.past (by decide) (fun h => ⟨getD_mono h.1, ((put_ne (by decide)).trans h.2)⟩), o_e0.past (by decide) (fun h => ⟨getD_mono h.1, ((put_ne (by decide)).trans h.2)⟩), o_e1.past (by decide) (fun h => ⟨getD_mono h.1, ((put_ne (by decide)).trans h.2)⟩), o_e2.past (by decide) (fun h => ⟨getD_mono h.1, ((put_ne (by decide)).trans h.2)⟩), o_al.past (by decide) (fun h => ⟨((put_ne (by decide)).trans h.1), h.2.1, h.2.2.1, fun e => h.2.2.2 (by rwa [getD_set_ne (by decide)] at e)⟩), o_st.past (by decide) (fun h => ⟨getD_mono h.1, getD_mono h.2.1, h.2.2⟩), o_a1.past (by decide) (fun h => ⟨getD_mono h.1, ((put_ne (by decide)).trans h.2)⟩), o_a2.past (by decide) (fun h => ⟨getD_mono h.1, ((put_ne (by decide)).trans h.2)⟩), fun h9 h8 => hsep (by rwa [getD_set_ne (by decide)] at h9) (by rwa [getD_set_ne (by decide)] at h8), hK⟩
        · have e1 := o_ld (ready_dep hm 0 (by kernel_rfl))
          refine wpOp_step rfl (fun KK hK2 => ?_)
          go_simp
          refine (toRegs W d.o d.p d.f d.m d.s d.t a b ca cb d.xs d.ys (IX.out.keptS hK) (IY.out.keptS hK) bx bm).mono ?_
          rintro e y ⟨h1, h2, rfl, q1, q2, m1, m2, m3, kd⟩
          go_simp
          exact hK2 (A.put (some 28) (.agg #[.slice (some ⟨h1, 0, none⟩) d.xs.length d.xs.length, .slice (some ⟨h2, 0, none⟩) d.ys.length d.ys.length, .int .i64 d.o, .int .i64 d.p, .int .i64 d.f, .int .i64 d.m, .bool d.s, .bool d.t])) _ ⟨a0, b0, ca0, cb0, lo, hi, B, hFR.put (by decide) _, o_ld.past (by decide) (fun h => ((put_ne (by decide)).trans h)), .now (fun _ => ⟨h1, h2, put_eq (by have hz := hsz.out; omega), q1, q2⟩), o_mz.past (by decide) (fun h => ((put_ne (by decide)).trans h)), o_lx.past (by decide) (fun h => ((put_ne (by decide)).trans h)), o_toX.past (by decide) (fun h => ((put_ne (by decide)).trans h)), o_F.past (by decide) (fun h => ⟨((put_ne (by decide)).trans h.1), h.2.1.kept kd (by omega), h.2.2.1.kept kd (by omega), h.2.2.2.1, h.2.2.2.2.1, Nat.le_trans h.2.2.2.2.2 kd.size⟩), o_mv.past (by decide) (fun h => ⟨getD_mono h.1, ((put_ne (by decide)).trans h.2)⟩), o_e0.past (by decide) (fun h => ⟨getD_mono h.1, ((put_ne (by decide)).trans h.2)⟩), o_e1.past (by decide) (fun h => ⟨getD_mono h.1, ((put_ne (by decide)).trans h.2)⟩), o_e2.past (by decide) (fun h => ⟨getD_mono h.1, ((put_ne (by decide)).trans h.2)⟩), o_al.past (by decide) (fun h => ⟨((put_ne (by decide)).trans h.1), h.2.1, Nat.lt_of_lt_of_le h.2.2.1 kd.size, fun e => (h.2.2.2 (by rwa [getD_set_ne (by decide)] at e)).kept0 kd⟩), o_st.past (by decide) (fun h => ⟨getD_mono h.1, getD_mono h.2.1, h.2.2.kept0 kd⟩), o_a1.past (by decide) (fun h => ⟨getD_mono h.1, ((put_ne (by decide)).trans h.2)⟩), o_a2.past (by decide) (fun h => ⟨getD_mono h.1, ((put_ne (by decide)).trans h.2)⟩), fun h9 h8 => hsep (by rwa [getD_set_ne (by decide)] at h9) (by rwa [getD_set_ne (by decide)] at h8), (hK.trans kd)⟩
        · refine wpOp_step rfl (fun KK hK2 => ?_)
          go_simp
          exact hK2 (A.put (some 29) (.int .i64 z)) _ ⟨a0, b0, ca0, cb0, lo, hi, B, hFR.put (by decide) _, o_ld.past (by decide) (fun h => ((put_ne (by decide)).trans h)), o_toD.past (by decide) (fun h e => by obtain ⟨h1, h2, q0, q1, q2⟩ := h (by rwa [getD_set_ne (by decide)] at e); exact ⟨h1, h2, ((put_ne (by decide)).trans q0), q1, q2⟩), .now (put_eq (by have hz := hsz.out; omega)), o_lx.past (by decide) (fun h => ((put_ne (by decide)).trans h)), o_toX.past (by decide) (fun h => ((put_ne (by decide)).trans h)), o_F.past (by decide) (fun h => ⟨((put_ne (by decide)).trans h.1), h.2⟩), o_mv.past (by decide) (fun h => ⟨getD_mono h.1, ((put_ne (by decide)).trans h.2)⟩), o_e0.past (by decide) (fun h => ⟨getD_mono h.1, ((put_ne (by decide)).trans h.2)⟩), o_e1.past (by decide) (fun h => ⟨getD_mono h.1, ((put_ne (by decide)).trans h.2)⟩), o_e2.past (by decide) (fun h => ⟨getD_mono h.1, ((put_ne (by decide)).trans h.2)⟩), o_al.past (by decide) (fun h => ⟨((put_ne (by decide)).trans h.1), h.2.1, h.2.2.1, fun e => h.2.2.2 (by rwa [getD_set_ne (by decide)] at e)⟩), o_st.past (by decide) (fun h => ⟨getD_mono h.1, getD_mono h.2.1, h.2.2⟩), o_a1.past (by decide) (fun h => ⟨getD_mono h.1, ((put_ne (by decide)).trans h.2)⟩), o_a2.past (by decide) (fun h => ⟨getD_mono h.1, ((put_ne (by decide)).trans h.2)⟩), fun h9 h8 => hsep (by rwa [getD_set_ne (by decide)] at h9) (by rwa [getD_set_ne (by decide)] at h8), hK⟩
        · have x0 := (WX.out.kept0 hK).cell (i := 0) rfl
          have x1 := (WX.out.kept0 hK).cell (i := 1) rfl
          have x2 := (WX.out.kept0 hK).cell (i := 2) rfl
          refine wpOp_step rfl (fun KK hK2 => ?_)
          go_simp
          exact hK2 (A.put (some 30) (.agg #[.int .i64 m, .int .i64 k, .int .i64 e])) _ ⟨a0, b0, ca0, cb0, lo, hi, B, hFR.put (by decide) _, o_ld.past (by decide) (fun h => ((put_ne (by decide)).trans h)), o_toD.past (by decide) (fun h e => by obtain ⟨h1, h2, q0, q1, q2⟩ := h (by rwa [getD_set_ne (by decide)] at e); exact ⟨h1, h2, ((put_ne (by decide)).trans q0), q1, q2⟩), o_mz.past (by decide) (fun h => ((put_ne (by decide)).trans h)), .now (put_eq (by have hz := hsz.out; omega)), o_toX.past (by decide) (fun h => ((put_ne (by decide)).trans h)), o_F.past (by decide) (fun h => ⟨((put_ne (by decide)).trans h.1), h.2⟩), o_mv.past (by decide) (fun h => ⟨getD_mono h.1, ((put_ne (by decide)).trans h.2)⟩), o_e0.past (by decide) (fun h => ⟨getD_mono h.1, ((put_ne (by decide)).trans h.2)⟩), o_e1.past (by decide) (fun h => ⟨getD_mono h.1, ((put_ne (by decide)).trans h.2)⟩), o_e2.past (by decide) (fun h => ⟨getD_mono h.1, ((put_ne (by decide)).trans h.2)⟩), o_al.past (by decide) (fun h => ⟨((put_ne (by decide)).trans h.1), h.2.1, h.2.2.1, fun e => h.2.2.2 (by rwa [getD_set_ne (by decide)] at e)⟩), o_st.past (by decide) (fun h => ⟨getD_mono h.1, getD_mono h.2.1, h.2.2⟩), o_a1.past (by decide) (fun h => ⟨getD_mono h.1, ((put_ne (by decide)).trans h.2)⟩), o_a2.past (by decide) (fun h => ⟨getD_mono h.1, ((put_ne (by decide)).trans h.2)⟩), fun h9 h8 => hsep (by rwa [getD_set_ne (by decide)] at h9) (by rwa [getD_set_ne (by decide)] at h8), hK⟩
        · have e1 := o_lx (ready_dep hm 3 (by kernel_rfl))
          refine wpOp_step rfl (fun KK hK2 => ?_)
          go_simp
          refine (toOperand _ _ _ W).mono ?_
          rintro e y ⟨rfl, q1, q2, q3, hw3⟩
          have kd := kept3 hw3
          clear hw3
          go_simp
          exact hK2 (A.put (some 31) (.agg #[.int .i64 m, .int .i64 k, .int .i64 e])) _ ⟨a0, b0, ca0, cb0, lo, hi, B, hFR.put (by decide) _, o_ld.past (by decide) (fun h => ((put_ne (by decide)).trans h)), o_toD.past (by decide) (fun h e => by obtain ⟨h1, h2, q0, q1, q2⟩ := h (by rwa [getD_set_ne (by decide)] at e); exact ⟨h1, h2, ((put_ne (by decide)).trans q0), q1.keptS kd (by omega), q2.keptS kd (by omega)⟩), o_mz.past (by decide) (fun h => ((put_ne (by decide)).trans h)), o_lx.past (by decide) (fun h => ((put_ne (by decide)).trans h)), .now (put_eq (by have hz := hsz.out; omega)), o_F.past (by decide) (fun h => ⟨((put_ne (by decide)).trans h.1), h.2.1.kept kd (by omega), h.2.2.1.kept kd (by omega), h.2.2.2.1, h.2.2.2.2.1, Nat.le_trans h.2.2.2.2.2 kd.size⟩), o_mv.past (by decide) (fun h => ⟨getD_mono h.1, ((put_ne (by decide)).trans h.2)⟩), o_e0.past (by decide) (fun h => ⟨getD_mono h.1, ((put_ne (by decide)).trans h.2)⟩), o_e1.past (by decide) (fun h => ⟨getD_mono h.1, ((put_ne (by decide)).trans h.2)⟩), o_e2.past (by decide) (fun h => ⟨getD_mono h.1, ((put_ne (by decide)).trans h.2)⟩), o_al.past (by decide) (fun h => ⟨((put_ne (by decide)).trans h.1), h.2.1, Nat.lt_of_lt_of_le h.2.2.1 kd.size, fun e => (h.2.2.2 (by rwa [getD_set_ne (by decide)] at e)).kept0 kd⟩), o_st.past (by decide) (fun h => ⟨getD_mono h.1, getD_mono h.2.1, h.2.2.kept0 kd⟩), o_a1.past (by decide) (fun h => ⟨getD_mono h.1, ((put_ne (by decide)).trans h.2)⟩), o_a2.past (by decide) (fun h => ⟨getD_mono h.1, ((put_ne (by decide)).trans h.2)⟩), fun h9 h8 => hsep (by rwa [getD_set_ne (by decide)] at h9) (by rwa [getD_set_ne (by decide)] at h8), (hK.trans kd)⟩
        · have e1 := o_toX (ready_dep hm 4 (by kernel_rfl))
          have e4 := o_mz (ready_dep hm 2 (by kernel_rfl))
          have hst : l.getD 11 true = false := by
            cases e : l.getD 11 true
            · rfl
            · have h2 := (o_st e).1
              rw [hi2] at h2
              cases h2
          obtain ⟨h1, h2, e2, c1, c2⟩ := o_toD (ready_dep hm 1 (by kernel_rfl)) hst
          refine wpOp_step rfl (fun KK hK2 => ?_)
          go_simp
          have CN := specPlaceOf W d _ _ d.xs.length d.ys.length z m k e c1.row c2.row bx bm
          rw [HDD.out, HVV.out, HKK.out] at CN
          refine CN.mono ?_
          clear CN
          rintro e y ⟨a5, b5, ca5, cb5, rfl, hD5, kd⟩
          go_simp
          exact hK2 (A.put (some 32) (.tuple #[.agg #[.slice a5 D.xs.length ca5, .slice b5 D.ys.length cb5, .int .i64 D.o, .int .i64 D.p, .int .i64 D.f, .int .i64 D.m, .bool D.s, .bool D.t], .int .i64 V, .bool K])) _ ⟨a5, b5, ca5, cb5, W.heap.size, y.heap.size, B, hFR.put (by decide) _, o_ld.past (by decide) (fun h => ((put_ne (by decide)).trans h)), o_toD.past (by decide) (fun h e => by obtain ⟨h1, h2, q0, q1, q2⟩ := h (by rwa [getD_set_ne (by decide)] at e); exact ⟨h1, h2, ((put_ne (by decide)).trans q0), q1.keptS kd (by omega), q2.keptS kd (by omega)⟩), o_mz.past (by decide) (fun h => ((put_ne (by decide)).trans h)), o_lx.past (by decide) (fun h => ((put_ne (by decide)).trans h)), o_toX.past (by decide) (fun h => ((put_ne (by decide)).trans h)), .now ⟨put_eq (by have hz := hsz.out; omega), hD5.1, hD5.2.1, hD5.2.2, hK.size, Nat.le_refl _⟩, o_mv.past (by decide) (fun h => by have h2 := h.1; rw [hi2] at h2; cases h2), o_e0.past (by decide) (fun h => by have h2 := h.1; rw [hi2] at h2; cases h2), o_e1.past (by decide) (fun h => by have h2 := h.1; rw [hi2] at h2; cases h2), o_e2.past (by decide) (fun h => by have h2 := h.1; rw [hi2] at h2; cases h2), o_al.past (by decide) (fun h => ⟨((put_ne (by decide)).trans h.1), h.2.1, Nat.lt_of_lt_of_le h.2.2.1 kd.size, fun e => (h.2.2.2 (by rwa [getD_set_ne (by decide)] at e)).kept0 kd⟩), o_st.past (by decide) (fun h => by have h2 := h.1; rw [hi2] at h2; cases h2), o_a1.past (by decide) (fun h => by have h2 := h.1; rw [hi2] at h2; cases h2), o_a2.past (by decide) (fun h => by have h2 := h.1; rw [hi2] at h2; cases h2), fun _ h8 => .inl (o_al (by rwa [getD_set_ne (by decide)] at h8)).2.2.1, (hK.trans kd)⟩
        · have h4 := ready_dep hm 5 (by kernel_rfl)
          have e1 := (o_F h4).1
          refine wpOp_step rfl (fun KK hK2 => ?_)
          go_simp
          exact hK2 (A.put (some 26) (.tuple #[.agg #[.slice a0 D.xs.length ca0, .slice b0 D.ys.length cb0, .int .i64 D.o, .int .i64 D.p, .int .i64 D.f, .int .i64 D.m, .bool D.s, .bool D.t], .int .i64 V, .bool K])) _ ⟨a0, b0, ca0, cb0, lo, hi, B, hFR.put (by decide) _, o_ld.past (by decide) (fun h => ((put_ne (by decide)).trans h)), o_toD.past (by decide) (fun h e => by obtain ⟨h1, h2, q0, q1, q2⟩ := h (by rwa [getD_set_ne (by decide)] at e); exact ⟨h1, h2, ((put_ne (by decide)).trans q0), q1, q2⟩), o_mz.past (by decide) (fun h => ((put_ne (by decide)).trans h)), o_lx.past (by decide) (fun h => ((put_ne (by decide)).trans h)), o_toX.past (by decide) (fun h => ((put_ne (by decide)).trans h)), o_F.past (by decide) (fun h => ⟨((put_ne (by decide)).trans h.1), h.2⟩), .now ⟨getD_mono h4, put_eq (by have hz := hsz.out; omega)⟩, o_e0.past (by decide) (fun h => ⟨getD_mono h.1, ((put_ne (by decide)).trans h.2)⟩), o_e1.past (by decide) (fun h => ⟨getD_mono h.1, ((put_ne (by decide)).trans h.2)⟩), o_e2.past (by decide) (fun h => ⟨getD_mono h.1, ((put_ne (by decide)).trans h.2)⟩), o_al.past (by decide) (fun h => ⟨((put_ne (by decide)).trans h.1), h.2.1, h.2.2.1, fun e => h.2.2.2 (by rwa [getD_set_ne (by decide)] at e)⟩), o_st.past (by decide) (fun h => ⟨getD_mono h.1, getD_mono h.2.1, h.2.2⟩), o_a1.past (by decide) (fun h => ⟨getD_mono h.1, ((put_ne (by decide)).trans h.2)⟩), o_a2.past (by decide) (fun h => ⟨getD_mono h.1, ((put_ne (by decide)).trans h.2)⟩), fun h9 h8 => hsep (by rwa [getD_set_ne (by decide)] at h9) (by rwa [getD_set_ne (by decide)] at h8), hK⟩
        · obtain ⟨h4, e1⟩ := o_mv (ready_dep hm 6 (by kernel_rfl))
          refine wpOp_step rfl (fun KK hK2 => ?_)
          go_simp
          exact hK2 (A.put (some 33) (.agg #[.slice a0 D.xs.length ca0, .slice b0 D.ys.length cb0, .int .i64 D.o, .int .i64 D.p, .int .i64 D.f, .int .i64 D.m, .bool D.s, .bool D.t])) _ ⟨a0, b0, ca0, cb0, lo, hi, B, hFR.put (by decide) _, o_ld.past (by decide) (fun h => ((put_ne (by decide)).trans h)), o_toD.past (by decide) (fun h e => by obtain ⟨h1, h2, q0, q1, q2⟩ := h (by rwa [getD_set_ne (by decide)] at e); exact ⟨h1, h2, ((put_ne (by decide)).trans q0), q1, q2⟩), o_mz.past (by decide) (fun h => ((put_ne (by decide)).trans h)), o_lx.past (by decide) (fun h => ((put_ne (by decide)).trans h)), o_toX.past (by decide) (fun h => ((put_ne (by decide)).trans h)), o_F.past (by decide) (fun h => ⟨((put_ne (by decide)).trans h.1), h.2⟩), o_mv.past (by decide) (fun h => ⟨getD_mono h.1, ((put_ne (by decide)).trans h.2)⟩), .now ⟨getD_mono h4, put_eq (by have hz := hsz.out; omega)⟩, o_e1.past (by decide) (fun h => ⟨getD_mono h.1, ((put_ne (by decide)).trans h.2)⟩), o_e2.past (by decide) (fun h => ⟨getD_mono h.1, ((put_ne (by decide)).trans h.2)⟩), o_al.past (by decide) (fun h => ⟨((put_ne (by decide)).trans h.1), h.2.1, h.2.2.1, fun e => h.2.2.2 (by rwa [getD_set_ne (by decide)] at e)⟩), o_st.past (by decide) (fun h => ⟨getD_mono h.1, getD_mono h.2.1, h.2.2⟩), o_a1.past (by decide) (fun h => ⟨getD_mono h.1, ((put_ne (by decide)).trans h.2)⟩), o_a2.past (by decide) (fun h => ⟨getD_mono h.1, ((put_ne (by decide)).trans h.2)⟩), fun h9 h8 => hsep (by rwa [getD_set_ne (by decide)] at h9) (by rwa [getD_set_ne (by decide)] at h8), hK⟩
        · obtain ⟨h4, e1⟩ := o_mv (ready_dep hm 6 (by kernel_rfl))
          refine wpOp_step rfl (fun KK hK2 => ?_)
          go_simp
          exact hK2 (A.put (some 34) (.int .i64 V)) _ ⟨a0, b0, ca0, cb0, lo, hi, B, hFR.put (by decide) _, o_ld.past (by decide) (fun h => ((put_ne (by decide)).trans h)), o_toD.past (by decide) (fun h e => by obtain ⟨h1, h2, q0, q1, q2⟩ := h (by rwa [getD_set_ne (by decide)] at e); exact ⟨h1, h2, ((put_ne (by decide)).trans q0), q1, q2⟩), o_mz.past (by decide) (fun h => ((put_ne (by decide)).trans h)), o_lx.past (by decide) (fun h => ((put_ne (by decide)).trans h)), o_toX.past (by decide) (fun h => ((put_ne (by decide)).trans h)), o_F.past (by decide) (fun h => ⟨((put_ne (by decide)).trans h.1), h.2⟩), o_mv.past (by decide) (fun h => ⟨getD_mono h.1, ((put_ne (by decide)).trans h.2)⟩), o_e0.past (by decide) (fun h => ⟨getD_mono h.1, ((put_ne (by decide)).trans h.2)⟩), .now ⟨getD_mono h4, put_eq (by have hz := hsz.out; omega)⟩, o_e2.past (by decide) (fun h => ⟨getD_mono h.1, ((put_ne (by decide)).trans h.2)⟩), o_al.past (by decide) (fun h => ⟨((put_ne (by decide)).trans h.1), h.2.1, h.2.2.1, fun e => h.2.2.2 (by rwa [getD_set_ne (by decide)] at e)⟩), o_st.past (by decide) (fun h => ⟨getD_mono h.1, getD_mono h.2.1, h.2.2⟩), o_a1.past (by decide) (fun h => ⟨getD_mono h.1, ((put_ne (by decide)).trans h.2)⟩), o_a2.past (by decide) (fun h => ⟨getD_mono h.1, ((put_ne (by decide)).trans h.2)⟩), fun h9 h8 => hsep (by rwa [getD_set_ne (by decide)] at h9) (by rwa [getD_set_ne (by decide)] at h8), hK⟩
        · obtain ⟨h4, e1⟩ := o_mv (ready_dep hm 6 (by kernel_rfl))
          refine wpOp_step rfl (fun KK hK2 => ?_)
          go_simp
          exact hK2 (A.put (some 35) (.bool K)) _ ⟨a0, b0, ca0, cb0, lo, hi, B, hFR.put (by decide) _, o_ld.past (by decide) (fun h => ((put_ne (by decide)).trans h)), o_toD.past (by decide) (fun h e => by obtain ⟨h1, h2, q0, q1, q2⟩ := h (by rwa [getD_set_ne (by decide)] at e); exact ⟨h1, h2, ((put_ne (by decide)).trans q0), q1, q2⟩), o_mz.past (by decide) (fun h => ((put_ne (by decide)).trans h)), o_lx.past (by decide) (fun h => ((put_ne (by decide)).trans h)), o_toX.past (by decide) (fun h => ((put_ne (by decide)).trans h)), o_F.past (by decide) (fun h => ⟨((put_ne (by decide)).trans h.1), h.2⟩), o_mv.past (by decide) (fun h => ⟨getD_mono h.1, ((put_ne (by decide)).trans h.2)⟩), o_e0.past (by decide) (fun h => ⟨getD_mono h.1, ((put_ne (by decide)).trans h.2)⟩), o_e1.past (by decide) (fun h => ⟨getD_mono h.1, ((put_ne (by decide)).trans h.2)⟩), .now ⟨getD_mono h4, put_eq (by have hz := hsz.out; omega)⟩, o_al.past (by decide) (fun h => ⟨((put_ne (by decide)).trans h.1), h.2.1, h.2.2.1, fun e => h.2.2.2 (by rwa [getD_set_ne (by decide)] at e)⟩), o_st.past (by decide) (fun h => ⟨getD_mono h.1, getD_mono h.2.1, h.2.2⟩), o_a1.past (by decide) (fun h => ⟨getD_mono h.1, ((put_ne (by decide)).trans h.2)⟩), o_a2.past (by decide) (fun h => ⟨getD_mono h.1, ((put_ne (by decide)).trans h.2)⟩), fun h9 h8 => hsep (by rwa [getD_set_ne (by decide)] at h9) (by rwa [getD_set_ne (by decide)] at h8), hK⟩
        · have kd := kept_alloc W (.cells #[.slice none 0 0, .slice none 0 0, .int .i64 0, .int .i64 0, .int .i64 0, .int .i64 0, .bool false, .bool false] 24)
          refine wpOp_step rfl (fun KK hK2 => ?_)
          go_simp
          exact hK2 (A.put (some 8) (.pointer (some ⟨W.heap.size, 0, none⟩))) _ ⟨a0, b0, ca0, cb0, lo, hi, W.heap.size, hFR.put (by decide) _, o_ld.past (by decide) (fun h => ((put_ne (by decide)).trans h)), o_toD.past (by decide) (fun h e => by obtain ⟨h1, h2, q0, q1, q2⟩ := h (by rwa [getD_set_ne (by decide)] at e); exact ⟨h1, h2, ((put_ne (by decide)).trans q0), q1.keptS kd (by omega), q2.keptS kd (by omega)⟩), o_mz.past (by decide) (fun h => ((put_ne (by decide)).trans h)), o_lx.past (by decide) (fun h => ((put_ne (by decide)).trans h)), o_toX.past (by decide) (fun h => ((put_ne (by decide)).trans h)), o_F.past (by decide) (fun h => ⟨((put_ne (by decide)).trans h.1), h.2.1.kept kd (by omega), h.2.2.1.kept kd (by omega), h.2.2.2.1, h.2.2.2.2.1, Nat.le_trans h.2.2.2.2.2 kd.size⟩), o_mv.past (by decide) (fun h => ⟨getD_mono h.1, ((put_ne (by decide)).trans h.2)⟩), o_e0.past (by decide) (fun h => ⟨getD_mono h.1, ((put_ne (by decide)).trans h.2)⟩), o_e1.past (by decide) (fun h => ⟨getD_mono h.1, ((put_ne (by decide)).trans h.2)⟩), o_e2.past (by decide) (fun h => ⟨getD_mono h.1, ((put_ne (by decide)).trans h.2)⟩), .now ⟨put_eq (by have hz := hsz.out; omega), hK.size, by simp, fun _ => Blk.new _ _ _⟩, o_st.past (by decide) (fun h => by have h2 := h.2.1; rw [hi2] at h2; cases h2), o_a1.past (by decide) (fun h => ⟨getD_mono h.1, ((put_ne (by decide)).trans h.2)⟩), o_a2.past (by decide) (fun h => ⟨getD_mono h.1, ((put_ne (by decide)).trans h.2)⟩), fun h9 _ => .inr (o_F (by rwa [getD_set_ne (by decide)] at h9)).2.2.2.2.2, (hK.trans kd)⟩
        · obtain ⟨h4, e1⟩ := o_e0 (ready_dep hm 7 (by kernel_rfl))
          have h9 := ready_dep hm 10 (by kernel_rfl)
          obtain ⟨e2, n1, n2, hB⟩ := o_al h9
          replace hB := hB hi2
          obtain ⟨e3, q1, q2, q3, q4, q5⟩ := o_F h4
          have hs := hsep h4 h9
          have x0 := hB.cell (i := 0) rfl
          have f0 := hB.frozen 0
          have x1 := hB.cell (i := 1) rfl
          have f1 := hB.frozen 1
          have x2 := hB.cell (i := 2) rfl
          have f2 := hB.frozen 2
          have x3 := hB.cell (i := 3) rfl
          have f3 := hB.frozen 3
          have x4 := hB.cell (i := 4) rfl
          have f4 := hB.frozen 4
          have x5 := hB.cell (i := 5) rfl
          have f5 := hB.frozen 5
          have x6 := hB.cell (i := 6) rfl
          have f6 := hB.frozen 6
          have x7 := hB.cell (i := 7) rfl
          have f7 := hB.frozen 7
          refine wpOp_step rfl (fun KK hK2 => ?_)
          go_simp
          exact hK2 A _ ⟨a0, b0, ca0, cb0, lo, hi, B, hFR, o_ld.past (by decide) (fun h => h), fun _ e => (by rw [getD_set_eq] at e; cases e), o_mz.past (by decide) (fun h => h), o_lx.past (by decide) (fun h => h), o_toX.past (by decide) (fun h => h), .now ⟨e3, ((((((((q1.setBlk _ _ _ (by omega)).setBlk _ _ _ (by omega)).setBlk _ _ _ (by omega)).setBlk _ _ _ (by omega)).setBlk _ _ _ (by omega)).setBlk _ _ _ (by omega)).setBlk _ _ _ (by omega)).setBlk _ _ _ (by omega)), ((((((((q2.setBlk _ _ _ (by omega)).setBlk _ _ _ (by omega)).setBlk _ _ _ (by omega)).setBlk _ _ _ (by omega)).setBlk _ _ _ (by omega)).setBlk _ _ _ (by omega)).setBlk _ _ _ (by omega)).setBlk _ _ _ (by omega)), q3, q4, by simpa using q5⟩, o_mv.past (by decide) (fun h => ⟨getD_mono h.1, h.2⟩), o_e0.past (by decide) (fun h => ⟨getD_mono h.1, h.2⟩), o_e1.past (by decide) (fun h => ⟨getD_mono h.1, h.2⟩), o_e2.past (by decide) (fun h => ⟨getD_mono h.1, h.2⟩), .now ⟨e2, n1, by simpa using n2, fun e => (by rw [getD_set_eq] at e; cases e)⟩, .now ⟨getD_mono h4, getD_mono h9, ((((((((hB.set 0 _).set 1 _).set 2 _).set 3 _).set 4 _).set 5 _).set 6 _).set 7 _)⟩, o_a1.past (by decide) (fun h => ⟨getD_mono h.1, h.2⟩), o_a2.past (by decide) (fun h => ⟨getD_mono h.1, h.2⟩), fun _ _ => hs, (kept_set (kept_set (kept_set (kept_set (kept_set (kept_set (kept_set (kept_set hK _ _ _ (.inr n1)) _ _ _ (.inr n1)) _ _ _ (.inr n1)) _ _ _ (.inr n1)) _ _ _ (.inr n1)) _ _ _ (.inr n1)) _ _ _ (.inr n1)) _ _ _ (.inr n1))⟩
        · obtain ⟨h4, e1⟩ := o_e1 (ready_dep hm 8 (by kernel_rfl))
          refine wpOp_step rfl (fun KK hK2 => ?_)
          go_simp
          exact hK2 (A.put (some 9) (.int .i64 V)) _ ⟨a0, b0, ca0, cb0, lo, hi, B, hFR.put (by decide) _, o_ld.past (by decide) (fun h => ((put_ne (by decide)).trans h)), o_toD.past (by decide) (fun h e => by obtain ⟨h1, h2, q0, q1, q2⟩ := h (by rwa [getD_set_ne (by decide)] at e); exact ⟨h1, h2, ((put_ne (by decide)).trans q0), q1, q2⟩), o_mz.past (by decide) (fun h => ((put_ne (by decide)).trans h)), o_lx.past (by decide) (fun h => ((put_ne (by decide)).trans h)), o_toX.past (by decide) (fun h => ((put_ne (by decide)).trans h)), o_F.past (by decide) (fun h => ⟨((put_ne (by decide)).trans h.1), h.2⟩), o_mv.past (by decide) (fun h => ⟨getD_mono h.1, ((put_ne (by decide)).trans h.2)⟩), o_e0.past (by decide) (fun h => ⟨getD_mono h.1, ((put_ne (by decide)).trans h.2)⟩), o_e1.past (by decide) (fun h => ⟨getD_mono h.1, ((put_ne (by decide)).trans h.2)⟩), o_e2.past (by decide) (fun h => ⟨getD_mono h.1, ((put_ne (by decide)).trans h.2)⟩), o_al.past (by decide) (fun h => ⟨((put_ne (by decide)).trans h.1), h.2.1, h.2.2.1, fun e => h.2.2.2 (by rwa [getD_set_ne (by decide)] at e)⟩), o_st.past (by decide) (fun h => ⟨getD_mono h.1, getD_mono h.2.1, h.2.2⟩), .now ⟨getD_mono h4, put_eq (by have hz := hsz.out; omega)⟩, o_a2.past (by decide) (fun h => ⟨getD_mono h.1, ((put_ne (by decide)).trans h.2)⟩), fun h9 h8 => hsep (by rwa [getD_set_ne (by decide)] at h9) (by rwa [getD_set_ne (by decide)] at h8), hK⟩
        · obtain ⟨h4, e1⟩ := o_e2 (ready_dep hm 9 (by kernel_rfl))
          refine wpOp_step rfl (fun KK hK2 => ?_)
          go_simp
          exact hK2 (A.put (some 10) (.bool K)) _ ⟨a0, b0, ca0, cb0, lo, hi, B, hFR.put (by decide) _, o_ld.past (by decide) (fun h => ((put_ne (by decide)).trans h)), o_toD.past (by decide) (fun h e => by obtain ⟨h1, h2, q0, q1, q2⟩ := h (by rwa [getD_set_ne (by decide)] at e); exact ⟨h1, h2, ((put_ne (by decide)).trans q0), q1, q2⟩), o_mz.past (by decide) (fun h => ((put_ne (by decide)).trans h)), o_lx.past (by decide) (fun h => ((put_ne (by decide)).trans h)), o_toX.past (by decide) (fun h => ((put_ne (by decide)).trans h)), o_F.past (by decide) (fun h => ⟨((put_ne (by decide)).trans h.1), h.2⟩), o_mv.past (by decide) (fun h => ⟨getD_mono h.1, ((put_ne (by decide)).trans h.2)⟩), o_e0.past (by decide) (fun h => ⟨getD_mono h.1, ((put_ne (by decide)).trans h.2)⟩), o_e1.past (by decide) (fun h => ⟨getD_mono h.1, ((put_ne (by decide)).trans h.2)⟩), o_e2.past (by decide) (fun h => ⟨getD_mono h.1, ((put_ne (by decide)).trans h.2)⟩), o_al.past (by decide) (fun h => ⟨((put_ne (by decide)).trans h.1), h.2.1, h.2.2.1, fun e => h.2.2.2 (by rwa [getD_set_ne (by decide)] at e)⟩), o_st.past (by decide) (fun h => ⟨getD_mono h.1, getD_mono h.2.1, h.2.2⟩), o_a1.past (by decide) (fun h => ⟨getD_mono h.1, ((put_ne (by decide)).trans h.2)⟩), .now ⟨getD_mono h4, put_eq (by have hz := hsz.out; omega)⟩, fun h9 h8 => hsep (by rwa [getD_set_ne (by decide)] at h9) (by rwa [getD_set_ne (by decide)] at h8), hK⟩
        · simp at hi1
          omega
    case rest =>
      clear IX IY
      obtain ⟨w3, B0, lo0, hi0, a0, b0, ca0, cb0, hw, rfl, rfl, rfl, hbx, sl, tl, hd0, kk, nB0, nlo0, nhi0, nbl0⟩ := hcut
      subst hw
      have Beln := hide (below_kept Bel.out kk (by omega))
      have WAn := hide (WA.out.kept kk (by omega))
      have WXn := hide (WX.out.kept kk (by omega))
      clear Bel WA WX
      have Bel := Beln
      have WA := WAn
      have WX := WXn
      clear Beln WAn WXn
      have W0 := hide hbx
      have S0 := hide sl
      have T0 := hide tl
      have nw3 := kk.size
      have lB0 := W0.out.lt
      clear kk hbx sl tl
      clear hd0
      have p00 := WA.out.cell (i := 0) rfl
      have p01 := WA.out.cell (i := 1) rfl
      have p02 := WA.out.cell (i := 2) rfl
      have p03 := WA.out.cell (i := 3) rfl
      have p04 := WA.out.cell (i := 4) rfl
      have p05 := WA.out.cell (i := 5) rfl
      have p06 := WA.out.cell (i := 6) rfl
      have p07 := WA.out.cell (i := 7) rfl
      go_wp2_with fail
      clear p00 p01 p02 p03 p04 p05 p06 p07
      refine (toRegs _ d.o d.p d.f d.m d.s d.t a b ca cb d.xs d.ys (HX.out.below Bel.out).1 (HY.out.below Bel.out).1 bx bm).mono ?_
      rintro e w4 ⟨g3, g4, rfl, o, o2, l4, l5, l6, k⟩
      have Beln := hide (below_kept Bel.out k (by omega))
      have WAn := hide (WA.out.kept k (by omega))
      have WXn := hide (WX.out.kept k (by omega))
      have W0n := hide (W0.out.kept k (by omega))
      have S0n := hide (S0.out.kept k (by omega))
      have T0n := hide (T0.out.kept k (by omega))
      clear Bel WA WX W0 S0 T0
      have Bel := Beln
      have WA := WAn
      have WX := WXn
      have W0 := W0n
      have S0 := S0n
      have T0 := T0n
      clear Beln WAn WXn W0n S0n T0n
      have O3 := hide o
      have O4 := hide o2
      clear o o2 k
      have ka := kept_alloc w4 (.cells #[.slice (some ⟨g3, 0, none⟩) d.xs.length d.xs.length, .slice (some ⟨g4, 0, none⟩) d.ys.length d.ys.length, .int .i64 d.o, .int .i64 d.p, .int .i64 d.f, .int .i64 d.m, .bool d.s, .bool d.t] 24)
      have Beln := hide (below_kept Bel.out ka (by omega))
      have WAn := hide (WA.out.kept ka (by omega))
      have WXn := hide (WX.out.kept ka (by omega))
      have W0n := hide (W0.out.kept ka (by omega))
      have S0n := hide (S0.out.kept ka (by omega))
      have T0n := hide (T0.out.kept ka (by omega))
      have O3n := hide (O3.out.keptS ka (by omega))
      have O4n := hide (O4.out.keptS ka (by omega))
      clear Bel WA WX W0 S0 T0 O3 O4
      have Bel := Beln
      have WA := WAn
      have WX := WXn
      have W0 := W0n
      have S0 := S0n
      have T0 := T0n
      have O3 := O3n
      have O4 := O4n
      clear Beln WAn WXn W0n S0n T0n O3n O4n
      have VA := hide (Blk.new w4 #[.slice (some ⟨g3, 0, none⟩) d.xs.length d.xs.length, .slice (some ⟨g4, 0, none⟩) d.ys.length d.ys.length, .int .i64 d.o, .int .i64 d.p, .int .i64 d.f, .int .i64 d.m, .bool d.s, .bool d.t] 24)
      go_upto_region 7 with fail
      obtain ⟨X4, hX4⟩ : ∃ X : World, X = w4.alloc (.cells #[.slice (some ⟨g3, 0, none⟩) d.xs.length d.xs.length, .slice (some ⟨g4, 0, none⟩) d.ys.length d.ys.length, .int .i64 d.o, .int .i64 d.p, .int .i64 d.f, .int .i64 d.m, .bool d.s, .bool d.t] 24) := ⟨_, rfl⟩
      have nX4 : w4.heap.size < X4.heap.size := by rw [hX4]; simp
      rw [← hX4] at Bel WA WX W0 S0 T0 O3 O4 VA ⊢
      clear ka hX4
      have IX := hide (HX.out.below Bel.out).1
      have IY := hide (HY.out.below Bel.out).1
      go_upto_region 7 with fail
      go_cut [12, 13, 14, 39, 40, 41, 42, 43, 38, 44, 45, 46] (fun pp zz kk _ _ _ _ _ _ _ _ _ W => ∃ (X : World) (B lo hi : Nat) (a0 b0 : Option Addr) (ca0 cb0 : Nat), X = W ∧ pp = .pointer (some ⟨B, 0, none⟩) ∧ zz = .int .i64 V ∧ kk = .bool K ∧ AnsR X4 W D B lo hi a0 b0 ca0 cb0)
      case first =>
        clear Bel WA W0 S0 T0
        refine wp_region_inv2 (fun A0 l A W => ∃ (a0 b0 : Option Addr) (ca0 cb0 lo hi B : Nat), FR [39, 40, 41, 42, 43, 38, 44, 45, 46, 12, 13, 14] A0 A ∧ Once l 0 (A.tmps[39]? = some (.agg #[.slice (some ⟨g3, 0, none⟩) d.xs.length d.xs.length, .slice (some ⟨g4, 0, none⟩) d.ys.length d.ys.length, .int .i64 d.o, .int .i64 d.p, .int .i64 d.f, .int .i64 d.m, .bool d.s, .bool d.t])) ∧ Once l 1 (A.tmps[40]? = some (.int .i64 z)) ∧ Once l 2 (A.tmps[41]? = some (.agg #[.int .i64 m, .int .i64 k, .int .i64 e])) ∧ Once l 3 (A.tmps[42]? = some (.agg #[.int .i64 m, .int .i64 k, .int .i64 e])) ∧ Once l 4 (A.tmps[43]? = some (.tuple #[.agg #[.slice a0 D.xs.length ca0, .slice b0 D.ys.length cb0, .int .i64 D.o, .int .i64 D.p, .int .i64 D.f, .int .i64 D.m, .bool D.s, .bool D.t], .int .i64 V, .bool K]) ∧ SlotIn W lo hi a0 D.xs ∧ SlotIn W lo hi b0 D.ys ∧ (∀ g, blk a0 = some g → blk b0 ≠ some g) ∧ X4.heap.size ≤ lo ∧ hi ≤ W.heap.size) ∧ Once l 5 (l.getD 4 true = true ∧ A.tmps[38]? = some (.tuple #[.agg #[.slice a0 D.xs.length ca0, .slice b0 D.ys.length cb0, .int .i64 D.o, .int .i64 D.p, .int .i64 D.f, .int .i64 D.m, .bool D.s, .bool D.t], .int .i64 V, .bool K])) ∧ Once l 6 (l.getD 4 true = true ∧ A.tmps[44]? = some (.agg #[.slice a0 D.xs.length ca0, .slice b0 D.ys.length cb0, .int .i64 D.o, .int .i64 D.p, .int .i64 D.f, .int .i64 D.m, .bool D.s, .bool D.t])) ∧ Once l 7 (l.getD 4 true = true ∧ A.tmps[45]? = some (.int .i64 V)) ∧ Once l 8 (l.getD 4 true = true ∧ A.tmps[46]? = some (.bool K)) ∧ Once l 9 (A.tmps[12]? = some (.pointer (some ⟨B, 0, none⟩)) ∧ X4.heap.size ≤ B ∧ B < W.heap.size ∧ (l.getD 10 true = false → Blk W B #[.slice none 0 0, .slice none 0 0, .int .i64 0, .int .i64 0, .int .i64 0, .int .i64 0, .bool false, .bool false] 24)) ∧ Once l 10 (l.getD 4 true = true ∧ l.getD 9 true = true ∧ Blk W B #[.slice a0 D.xs.length ca0, .slice b0 D.ys.length cb0, .int .i64 D.o, .int .i64 D.p, .int .i64 D.f, .int .i64 D.m, .bool D.s, .bool D.t] 24) ∧ Once l 11 (l.getD 4 true = true ∧ A.tmps[13]? = some (.int .i64 V)) ∧ Once l 12 (l.getD 4 true = true ∧ A.tmps[14]? = some (.bool K)) ∧ (l.getD 4 true = true → l.getD 9 true = true → B < lo ∨ hi ≤ B) ∧ Kept 0 0 X4 W) (by kernel_rfl) (by kernel_rfl) ?start ?fin ?step
        case start => exact ⟨none, none, 0, 0, 0, 0, 0, FR.refl _ _, once_start (by decide), once_start (by decide), once_start (by decide), once_start (by decide), once_start (by decide), once_start (by decide), once_start (by decide), once_start (by decide), once_start (by decide), once_start (by decide), once_start (by decide), once_start (by decide), once_start (by decide), fun h => (by rw [start_at (by decide)] at h; cases h), kept_drew (Kept.refl _ _ _)⟩
        case fin =>
          intro l A W h hl
          obtain ⟨a0, b0, ca0, cb0, lo, hi, B, hFR, o_ld, o_mz, o_lx, o_toX, o_F, o_mv, o_e0, o_e1, o_e2, o_al, o_st, o_a1, o_a2, hsep, hK⟩ := h
          have q_F := o_F (hl 4 (by decide))
          have q_al := o_al (hl 9 (by decide))
          have q_st := o_st (hl 10 (by decide))
          have q_a1 := o_a1 (hl 11 (by decide))
          have q_a2 := o_a2 (hl 12 (by decide))
          have q_sep := hsep (hl 4 (by decide)) (hl 9 (by decide))
          obtain ⟨_, g1⟩ := q_a1
          obtain ⟨_, g2⟩ := q_a2
          obtain ⟨g0, q1, q2, _⟩ := q_al
          obtain ⟨_, q3, q4, q5, q6, q7⟩ := q_F
          obtain ⟨_, _, q8⟩ := q_st
          have QQ : Hid (AnsR X4 W D B lo hi a0 b0 ca0 cb0) := hide ⟨q8, q3, q4, q5, hK, q1, q6, q7, q_sep⟩
          have hc := hFR.chain
          simp only [List.foldl] at hc
          rw [getD_of g0, getD_of g1, getD_of g2] at hc
          clear hl hK hsep q1 q2 q3 q4 q5 q6 q7 q8 q_sep hFR g0 g1 g2 o_ld o_mz o_lx o_toX o_F o_mv o_e0 o_e1 o_e2 o_al o_st o_a1 o_a2
          generalize A.tmps.getD 39 undef = s39 at hc
          generalize A.tmps.getD 40 undef = s40 at hc
          generalize A.tmps.getD 41 undef = s41 at hc
          generalize A.tmps.getD 42 undef = s42 at hc
          generalize A.tmps.getD 43 undef = s43 at hc
          generalize A.tmps.getD 38 undef = s38 at hc
          generalize A.tmps.getD 44 undef = s44 at hc
          generalize A.tmps.getD 45 undef = s45 at hc
          generalize A.tmps.getD 46 undef = s46 at hc
          subst hc
          go_simp
          go_step
          go_meet
          case rel => exact ⟨_, _, lo, hi, a0, b0, ca0, cb0, rfl, rfl, rfl, rfl, QQ.out⟩
        case step =>
          intro l A W i hI hm
          obtain ⟨a0, b0, ca0, cb0, lo, hi, B, hFR, o_ld, o_mz, o_lx, o_toX, o_F, o_mv, o_e0, o_e1, o_e2, o_al, o_st, o_a1, o_a2, hsep, hK⟩ := hI
          obtain ⟨hi1, hi2⟩ := ready_new hm
          have hsz : Hid (46 < A.tmps.size) := hide (by rw [hFR.size]; simp)
          have m1 : A.tmps[11]? = some (.pointer (some ⟨w4.heap.size, 0, none⟩)) := (hFR.out 11 (by decide)).trans rfl
          have m2 : A.tmps[5]? = some (.pointer (some ⟨w.heap.size + 1, 0, none⟩)) := (hFR.out 5 (by decide)).trans rfl
          have m3 : A.tmps[1]? = some (.int .i64 z) := (hFR.out 1 (by decide)).trans rfl
          rcases i with _ | _ | _ | _ | _ | _ | _ | _ | _ | _ | _ | _ | _ | i
          · have x0 := (VA.out.kept0 hK).cell (i := 0) rfl
            have x1 := (VA.out.kept0 hK).cell (i := 1) rfl
            have x2 := (VA.out.kept0 hK).cell (i := 2) rfl
            have x3 := (VA.out.kept0 hK).cell (i := 3) rfl
            have x4 := (VA.out.kept0 hK).cell (i := 4) rfl
            have x5 := (VA.out.kept0 hK).cell (i := 5) rfl
            have x6 := (VA.out.kept0 hK).cell (i := 6) rfl
            have x7 := (VA.out.kept0 hK).cell (i := 7) rfl
            refine wpOp_step rfl (fun KK hK2 => ?_)
            go_simp
            exact hK2 (A.put (some 39) (.agg #[.slice (some ⟨g3, 0, none⟩) d.xs.length d.xs.length, .slice (some ⟨g4, 0, none⟩) d.ys.length d.ys.length, .int .i64 d.o, .int .i64 d.p, .int .i64 d.f, .int .i64 d.m, .bool d.s, .bool d.t])) _ ⟨a0, b0, ca0, cb0, lo, hi, B, hFR.put (by decide) _, .now (put_eq (by have hz := hsz.out; omega)), o_mz.past (by decide) (fun h => ((put_ne (by decide)).trans h)), o_lx.past (by decide) (fun h => ((put_ne (by decide)).trans h)), o_toX.past (by decide) (fun h => ((put_ne (by decide)).trans h)), o_F.past (by decide) (fun h => ⟨((put_ne (by decide)).trans h.1), h.2⟩), o_mv.past (by decide) (fun h => ⟨getD_mono h.1, ((put_ne (by decide)).trans h.2)⟩), o_e0.past (by decide) (fun h => ⟨getD_mono h.1, ((put_ne (by decide)).trans h.2)⟩), o_e1.past (by decide) (fun h => ⟨getD_mono h.1, ((put_ne (by decide)).trans h.2)⟩), o_e2.past (by decide) (fun h => ⟨getD_mono h.1, ((put_ne (by decide)).trans h.2)⟩), o_al.past (by decide) (fun h => ⟨((put_ne (by decide)).trans h.1), h.2.1, h.2.2.1, fun e => h.2.2.2 (by rwa [getD_set_ne (by decide)] at e)⟩), o_st.past (by decide) (fun h => ⟨getD_mono h.1, getD_mono h.2.1, h.2.2⟩), o_a1.past (by decide) (fun h => ⟨getD_mono h.1, ((put_ne (by decide)).trans h.2)⟩), o_a2.past (by decide) (fun h => ⟨getD_mono h.1, ((put_ne (by decide)).trans h.2)⟩), fun h9 h8 => hsep (by rwa [getD_set_ne (by decide)] at h9) (by rwa [getD_set_ne (by decide)] at h8), hK⟩
          · refine wpOp_step rfl (fun KK hK2 => ?_)
            go_simp
            exact hK2 (A.put (some 40) (.int .i64 z)) _ ⟨a0, b0, ca0, cb0, lo, hi, B, hFR.put (by decide) _, o_ld.past (by decide) (fun h => ((put_ne (by decide)).trans h)), .now (put_eq (by have hz := hsz.out; omega)), o_lx.past (by decide) (fun h => ((put_ne (by decide)).trans h)), o_toX.past (by decide) (fun h => ((put_ne (by decide)).trans h)), o_F.past (by decide) (fun h => ⟨((put_ne (by decide)).trans h.1), h.2⟩), o_mv.past (by decide) (fun h => ⟨getD_mono h.1, ((put_ne (by decide)).trans h.2)⟩), o_e0.past (by decide) (fun h => ⟨getD_mono h.1, ((put_ne (by decide)).trans h.2)⟩), o_e1.past (by decide) (fun h => ⟨getD_mono h.1, ((put_ne (by decide)).trans h.2)⟩), o_e2.past (by decide) (fun h => ⟨getD_mono h.1, ((put_ne (by decide)).trans h.2)⟩), o_al.past (by decide) (fun h => ⟨((put_ne (by decide)).trans h.1), h.2.1, h.2.2.1, fun e => h.2.2.2 (by rwa [getD_set_ne (by decide)] at e)⟩), o_st.past (by decide) (fun h => ⟨getD_mono h.1, getD_mono h.2.1, h.2.2⟩), o_a1.past (by decide) (fun h => ⟨getD_mono h.1, ((put_ne (by decide)).trans h.2)⟩), o_a2.past (by decide) (fun h => ⟨getD_mono h.1, ((put_ne (by decide)).trans h.2)⟩), fun h9 h8 => hsep (by rwa [getD_set_ne (by decide)] at h9) (by rwa [getD_set_ne (by decide)] at h8), hK⟩
          · have x0 := (WX.out.kept0 hK).cell (i := 0) rfl
            have x1 := (WX.out.kept0 hK).cell (i := 1) rfl
            have x2 := (WX.out.kept0 hK).cell (i := 2) rfl
            refine wpOp_step rfl (fun KK hK2 => ?_)
            go_simp
            exact hK2 (A.put (some 41) (.agg #[.int .i64 m, .int .i64 k, .int .i64 e])) _ ⟨a0, b0, ca0, cb0, lo, hi, B, hFR.put (by decide) _, o_ld.past (by decide) (fun h => ((put_ne (by decide)).trans h)), o_mz.past (by decide) (fun h => ((put_ne (by decide)).trans h)), .now (put_eq (by have hz := hsz.out; omega)), o_toX.past (by decide) (fun h => ((put_ne (by decide)).trans h)), o_F.past (by decide) (fun h => ⟨((put_ne (by decide)).trans h.1), h.2⟩), o_mv.past (by decide) (fun h => ⟨getD_mono h.1, ((put_ne (by decide)).trans h.2)⟩), o_e0.past (by decide) (fun h => ⟨getD_mono h.1, ((put_ne (by decide)).trans h.2)⟩), o_e1.past (by decide) (fun h => ⟨getD_mono h.1, ((put_ne (by decide)).trans h.2)⟩), o_e2.past (by decide) (fun h => ⟨getD_mono h.1, ((put_ne (by decide)).trans h.2)⟩), o_al.past (by decide) (fun h => ⟨((put_ne (by decide)).trans h.1), h.2.1, h.2.2.1, fun e => h.2.2.2 (by rwa [getD_set_ne (by decide)] at e)⟩), o_st.past (by decide) (fun h => ⟨getD_mono h.1, getD_mono h.2.1, h.2.2⟩), o_a1.past (by decide) (fun h => ⟨getD_mono h.1, ((put_ne (by decide)).trans h.2)⟩), o_a2.past (by decide) (fun h => ⟨getD_mono h.1, ((put_ne (by decide)).trans h.2)⟩), fun h9 h8 => hsep (by rwa [getD_set_ne (by decide)] at h9) (by rwa [getD_set_ne (by decide)] at h8), hK⟩
          · have e1 := o_lx (ready_dep hm 2 (by kernel_rfl))
            refine wpOp_step rfl (fun KK hK2 => ?_)
            go_simp
            refine (toOperand _ _ _ W).mono ?_
            rintro e y ⟨rfl, q1, q2, q3, hw3⟩
            have kd := kept3 hw3
            clear hw3
            go_simp
            exact hK2 (A.put (some 42) (.agg #[.int .i64 m, .int .i64 k, .int .i64 e])) _ ⟨a0, b0, ca0, cb0, lo, hi, B, hFR.put (by decide) _, o_ld.past (by decide) (fun h => ((put_ne (by decide)).trans h)), o_mz.past (by decide) (fun h => ((put_ne (by decide)).trans h)), o_lx.past (by decide) (fun h => ((put_ne (by decide)).trans h)), .now (put_eq (by have hz := hsz.out; omega)), o_F.past (by decide) (fun h => ⟨((put_ne (by decide)).trans h.1), h.2.1.kept kd (by omega), h.2.2.1.kept kd (by omega), h.2.2.2.1, h.2.2.2.2.1, Nat.le_trans h.2.2.2.2.2 kd.size⟩), o_mv.past (by decide) (fun h => ⟨getD_mono h.1, ((put_ne (by decide)).trans h.2)⟩), o_e0.past (by decide) (fun h => ⟨getD_mono h.1, ((put_ne (by decide)).trans h.2)⟩), o_e1.past (by decide) (fun h => ⟨getD_mono h.1, ((put_ne (by decide)).trans h.2)⟩), o_e2.past (by decide) (fun h => ⟨getD_mono h.1, ((put_ne (by decide)).trans h.2)⟩), o_al.past (by decide) (fun h => ⟨((put_ne (by decide)).trans h.1), h.2.1, Nat.lt_of_lt_of_le h.2.2.1 kd.size, fun e => (h.2.2.2 (by rwa [getD_set_ne (by decide)] at e)).kept0 kd⟩), o_st.past (by decide) (fun h => ⟨getD_mono h.1, getD_mono h.2.1, h.2.2.kept0 kd⟩), o_a1.past (by decide) (fun h => ⟨getD_mono h.1, ((put_ne (by decide)).trans h.2)⟩), o_a2.past (by decide) (fun h => ⟨getD_mono h.1, ((put_ne (by decide)).trans h.2)⟩), fun h9 h8 => hsep (by rwa [getD_set_ne (by decide)] at h9) (by rwa [getD_set_ne (by decide)] at h8), (hK.trans kd)⟩
          · have e1 := o_toX (ready_dep hm 3 (by kernel_rfl))
            have e4 := o_mz (ready_dep hm 1 (by kernel_rfl))
            have e2 := o_ld (ready_dep hm 0 (by kernel_rfl))
            have c1 := O3.out.keptS hK (by omega)
            have c2 := O4.out.keptS hK (by omega)
            refine wpOp_step rfl (fun KK hK2 => ?_)
            go_simp
            have CN := HI.out W d _ _ d.xs.length d.ys.length z m k e (c1.came HX.out.2) (c2.came HY.out.2) bx bm HWF.out wfz wfm wfk wfe
            rw [HDD.out, HVV.out, HKK.out] at CN
            refine CN.mono ?_
            clear CN
            rintro e y ⟨a5, b5, ca5, cb5, rfl, hD5, kd⟩
            go_simp
            exact hK2 (A.put (some 43) (.tuple #[.agg #[.slice a5 D.xs.length ca5, .slice b5 D.ys.length cb5, .int .i64 D.o, .int .i64 D.p, .int .i64 D.f, .int .i64 D.m, .bool D.s, .bool D.t], .int .i64 V, .bool K])) _ ⟨a5, b5, ca5, cb5, W.heap.size, y.heap.size, B, hFR.put (by decide) _, o_ld.past (by decide) (fun h => ((put_ne (by decide)).trans h)), o_mz.past (by decide) (fun h => ((put_ne (by decide)).trans h)), o_lx.past (by decide) (fun h => ((put_ne (by decide)).trans h)), o_toX.past (by decide) (fun h => ((put_ne (by decide)).trans h)), .now ⟨put_eq (by have hz := hsz.out; omega), hD5.1, hD5.2.1, hD5.2.2, hK.size, Nat.le_refl _⟩, o_mv.past (by decide) (fun h => by have h2 := h.1; rw [hi2] at h2; cases h2), o_e0.past (by decide) (fun h => by have h2 := h.1; rw [hi2] at h2; cases h2), o_e1.past (by decide) (fun h => by have h2 := h.1; rw [hi2] at h2; cases h2), o_e2.past (by decide) (fun h => by have h2 := h.1; rw [hi2] at h2; cases h2), o_al.past (by decide) (fun h => ⟨((put_ne (by decide)).trans h.1), h.2.1, Nat.lt_of_lt_of_le h.2.2.1 kd.size, fun e => (h.2.2.2 (by rwa [getD_set_ne (by decide)] at e)).kept0 kd⟩), o_st.past (by decide) (fun h => by have h2 := h.1; rw [hi2] at h2; cases h2), o_a1.past (by decide) (fun h => by have h2 := h.1; rw [hi2] at h2; cases h2), o_a2.past (by decide) (fun h => by have h2 := h.1; rw [hi2] at h2; cases h2), fun _ h8 => .inl (o_al (by rwa [getD_set_ne (by decide)] at h8)).2.2.1, (hK.trans kd)⟩
          · have h4 := ready_dep hm 4 (by kernel_rfl)
            have e1 := (o_F h4).1
            refine wpOp_step rfl (fun KK hK2 => ?_)
            go_simp
            exact hK2 (A.put (some 38) (.tuple #[.agg #[.slice a0 D.xs.length ca0, .slice b0 D.ys.length cb0, .int .i64 D.o, .int .i64 D.p, .int .i64 D.f, .int .i64 D.m, .bool D.s, .bool D.t], .int .i64 V, .bool K])) _ ⟨a0, b0, ca0, cb0, lo, hi, B, hFR.put (by decide) _, o_ld.past (by decide) (fun h => ((put_ne (by decide)).trans h)), o_mz.past (by decide) (fun h => ((put_ne (by decide)).trans h)), o_lx.past (by decide) (fun h => ((put_ne (by decide)).trans h)), o_toX.past (by decide) (fun h => ((put_ne (by decide)).trans h)), o_F.past (by decide) (fun h => ⟨((put_ne (by decide)).trans h.1), h.2⟩), .now ⟨getD_mono h4, put_eq (by have hz := hsz.out; omega)⟩, o_e0.past (by decide) (fun h => ⟨getD_mono h.1, ((put_ne (by decide)).trans h.2)⟩), o_e1.past (by decide) (fun h => ⟨getD_mono h.1, ((put_ne (by decide)).trans h.2)⟩), o_e2.past (by decide) (fun h => ⟨getD_mono h.1, ((put_ne (by decide)).trans h.2)⟩), o_al.past (by decide) (fun h => ⟨((put_ne (by decide)).trans h.1), h.2.1, h.2.2.1, fun e => h.2.2.2 (by rwa [getD_set_ne (by decide)] at e)⟩), o_st.past (by decide) (fun h => ⟨getD_mono h.1, getD_mono h.2.1, h.2.2⟩), o_a1.past (by decide) (fun h => ⟨getD_mono h.1, ((put_ne (by decide)).trans h.2)⟩), o_a2.past (by decide) (fun h => ⟨getD_mono h.1, ((put_ne (by decide)).trans h.2)⟩), fun h9 h8 => hsep (by rwa [getD_set_ne (by decide)] at h9) (by rwa [getD_set_ne (by decide)] at h8), hK⟩
          · obtain ⟨h4, e1⟩ := o_mv (ready_dep hm 5 (by kernel_rfl))
            refine wpOp_step rfl (fun KK hK2 => ?_)
            go_simp
            exact hK2 (A.put (some 44) (.agg #[.slice a0 D.xs.length ca0, .slice b0 D.ys.length cb0, .int .i64 D.o, .int .i64 D.p, .int .i64 D.f, .int .i64 D.m, .bool D.s, .bool D.t])) _ ⟨a0, b0, ca0, cb0, lo, hi, B, hFR.put (by decide) _, o_ld.past (by decide) (fun h => ((put_ne (by decide)).trans h)), o_mz.past (by decide) (fun h => ((put_ne (by decide)).trans h)), o_lx.past (by decide) (fun h => ((put_ne (by decide)).trans h)), o_toX.past (by decide) (fun h => ((put_ne (by decide)).trans h)), o_F.past (by decide) (fun h => ⟨((put_ne (by decide)).trans h.1), h.2⟩), o_mv.past (by decide) (fun h => ⟨getD_mono h.1, ((put_ne (by decide)).trans h.2)⟩), .now ⟨getD_mono h4, put_eq (by have hz := hsz.out; omega)⟩, o_e1.past (by decide) (fun h => ⟨getD_mono h.1, ((put_ne (by decide)).trans h.2)⟩), o_e2.past (by decide) (fun h => ⟨getD_mono h.1, ((put_ne (by decide)).trans h.2)⟩), o_al.past (by decide) (fun h => ⟨((put_ne (by decide)).trans h.1), h.2.1, h.2.2.1, fun e => h.2.2.2 (by rwa [getD_set_ne (by decide)] at e)⟩), o_st.past (by decide) (fun h => ⟨getD_mono h.1, getD_mono h.2.1, h.2.2⟩), o_a1.past (by decide) (fun h => ⟨getD_mono h.1, ((put_ne (by decide)).trans h.2)⟩), o_a2.past (by decide) (fun h => ⟨getD_mono h.1, ((put_ne (by decide)).trans h.2)⟩), fun h9 h8 => hsep (by rwa [getD_set_ne (by decide)] at h9) (by rwa [getD_set_ne (by decide)] at h8), hK⟩
          · obtain ⟨h4, e1⟩ := o_mv (ready_dep hm 5 (by kernel_rfl))
            refine wpOp_step rfl (fun KK hK2 => ?_)
            go_simp
            exact hK2 (A.put (some 45) (.int .i64 V)) _ ⟨a0, b0, ca0, cb0, lo, hi, B, hFR.put (by decide) _, o_ld.past (by decide) (fun h => ((put_ne (by decide)).trans h)), o_mz.past (by decide) (fun h => ((put_ne (by decide)).trans h)), o_lx.past (by decide) (fun h => ((put_ne (by decide)).trans h)), o_toX.past (by decide) (fun h => ((put_ne (by decide)).trans h)), o_F.past (by decide) (fun h => ⟨((put_ne (by decide)).trans h.1), h.2⟩), o_mv.past (by decide) (fun h => ⟨getD_mono h.1, ((put_ne (by decide)).trans h.2)⟩), o_e0.past (by decide) (fun h => ⟨getD_mono h.1, ((put_ne (by decide)).trans h.2)⟩), .now ⟨getD_mono h4, put_eq (by have hz := hsz.out; omega)⟩, o_e2.past (by decide) (fun h => ⟨getD_mono h.1, ((put_ne (by decide)).trans h.2)⟩), o_al.past (by decide) (fun h => ⟨((put_ne (by decide)).trans h.1), h.2.1, h.2.2.1, fun e => h.2.2.2 (by rwa [getD_set_ne (by decide)] at e)⟩), o_st.past (by decide) (fun h => ⟨getD_mono h.1, getD_mono h.2.1, h.2.2⟩), o_a1.past (by decide) (fun h => ⟨getD_mono h.1, ((put_ne (by decide)).trans h.2)⟩), o_a2.past (by decide) (fun h => ⟨getD_mono h.1, ((put_ne (by decide)).trans h.2)⟩), fun h9 h8 => hsep (by rwa [getD_set_ne (by decide)] at h9) (by rwa [getD_set_ne (by decide)] at h8), hK⟩
          · obtain ⟨h4, e1⟩ := o_mv (ready_dep hm 5 (by kernel_rfl))
            refine wpOp_step rfl (fun KK hK2 => ?_)
            go_simp
            exact hK2 (A.put (some 46) (.bool K)) _ ⟨a0, b0, ca0, cb0, lo, hi, B, hFR.put (by decide) _, o_ld.past (by decide) (fun h => ((put_ne (by decide)).trans h)), o_mz.past (by decide) (fun h => ((put_ne (by decide)).trans h)), o_lx.past (by decide) (fun h => ((put_ne (by decide)).trans h)), o_toX.past (by decide) (fun h => ((put_ne (by decide)).trans h)), o_F.past (by decide) (fun h => ⟨((put_ne (by decide)).trans h.1), h.2⟩), o_mv.past (by decide) (fun h => ⟨getD_mono h.1, ((put_ne (by decide)).trans h.2)⟩), o_e0.past (by decide) (fun h => ⟨getD_mono h.1, ((put_ne (by decide)).trans h.2)⟩), o_e1.past (by decide) (fun h => ⟨getD_mono h.1, ((put_ne (by decide)).trans h.2)⟩), .now ⟨getD_mono h4, put_eq (by have hz := hsz.out; omega)⟩, o_al.past (by decide) (fun h => ⟨((put_ne (by decide)).trans h.1), h.2.1, h.2.2.1, fun e => h.2.2.2 (by rwa [getD_set_ne (by decide)] at e)⟩), o_st.past (by decide) (fun h => ⟨getD_mono h.1, getD_mono h.2.1, h.2.2⟩), o_a1.past (by decide) (fun h => ⟨getD_mono h.1, ((put_ne (by decide)).trans h.2)⟩), o_a2.past (by decide) (fun h => ⟨getD_mono h.1, ((put_ne (by decide)).trans h.2)⟩), fun h9 h8 => hsep (by rwa [getD_set_ne (by decide)] at h9) (by rwa [getD_set_ne (by decide)] at h8), hK⟩
          · have kd := kept_alloc W (.cells #[.slice none 0 0, .slice none 0 0, .int .i64 0, .int .i64 0, .int .i64 0, .int .i64 0, .bool false, .bool false] 24)
            refine wpOp_step rfl (fun KK hK2 => ?_)
            go_simp
            exact hK2 (A.put (some 12) (.pointer (some ⟨W.heap.size, 0, none⟩))) _ ⟨a0, b0, ca0, cb0, lo, hi, W.heap.size, hFR.put (by decide) _, o_ld.past (by decide) (fun h => ((put_ne (by decide)).trans h)), o_mz.past (by decide) (fun h => ((put_ne (by decide)).trans h)), o_lx.past (by decide) (fun h => ((put_ne (by decide)).trans h)), o_toX.past (by decide) (fun h => ((put_ne (by decide)).trans h)), o_F.past (by decide) (fun h => ⟨((put_ne (by decide)).trans h.1), h.2.1.kept kd (by omega), h.2.2.1.kept kd (by omega), h.2.2.2.1, h.2.2.2.2.1, Nat.le_trans h.2.2.2.2.2 kd.size⟩), o_mv.past (by decide) (fun h => ⟨getD_mono h.1, ((put_ne (by decide)).trans h.2)⟩), o_e0.past (by decide) (fun h => ⟨getD_mono h.1, ((put_ne (by decide)).trans h.2)⟩), o_e1.past (by decide) (fun h => ⟨getD_mono h.1, ((put_ne (by decide)).trans h.2)⟩), o_e2.past (by decide) (fun h => ⟨getD_mono h.1, ((put_ne (by decide)).trans h.2)⟩), .now ⟨put_eq (by have hz := hsz.out; omega), hK.size, by simp, fun _ => Blk.new _ _ _⟩, o_st.past (by decide) (fun h => by have h2 := h.2.1; rw [hi2] at h2; cases h2), o_a1.past (by decide) (fun h => ⟨getD_mono h.1, ((put_ne (by decide)).trans h.2)⟩), o_a2.past (by decide) (fun h => ⟨getD_mono h.1, ((put_ne (by decide)).trans h.2)⟩), fun h9 _ => .inr (o_F (by rwa [getD_set_ne (by decide)] at h9)).2.2.2.2.2, (hK.trans kd)⟩
          · obtain ⟨h4, e1⟩ := o_e0 (ready_dep hm 6 (by kernel_rfl))
            have h9 := ready_dep hm 9 (by kernel_rfl)
            obtain ⟨e2, n1, n2, hB⟩ := o_al h9
            replace hB := hB hi2
            obtain ⟨e3, q1, q2, q3, q4, q5⟩ := o_F h4
            have hs := hsep h4 h9
            have x0 := hB.cell (i := 0) rfl
            have f0 := hB.frozen 0
            have x1 := hB.cell (i := 1) rfl
            have f1 := hB.frozen 1
            have x2 := hB.cell (i := 2) rfl
            have f2 := hB.frozen 2
            have x3 := hB.cell (i := 3) rfl
            have f3 := hB.frozen 3
            have x4 := hB.cell (i := 4) rfl
            have f4 := hB.frozen 4
            have x5 := hB.cell (i := 5) rfl
            have f5 := hB.frozen 5
            have x6 := hB.cell (i := 6) rfl
            have f6 := hB.frozen 6
            have x7 := hB.cell (i := 7) rfl
            have f7 := hB.frozen 7
            refine wpOp_step rfl (fun KK hK2 => ?_)
            go_simp
            exact hK2 A _ ⟨a0, b0, ca0, cb0, lo, hi, B, hFR, o_ld.past (by decide) (fun h => h), o_mz.past (by decide) (fun h => h), o_lx.past (by decide) (fun h => h), o_toX.past (by decide) (fun h => h), .now ⟨e3, ((((((((q1.setBlk _ _ _ (by omega)).setBlk _ _ _ (by omega)).setBlk _ _ _ (by omega)).setBlk _ _ _ (by omega)).setBlk _ _ _ (by omega)).setBlk _ _ _ (by omega)).setBlk _ _ _ (by omega)).setBlk _ _ _ (by omega)), ((((((((q2.setBlk _ _ _ (by omega)).setBlk _ _ _ (by omega)).setBlk _ _ _ (by omega)).setBlk _ _ _ (by omega)).setBlk _ _ _ (by omega)).setBlk _ _ _ (by omega)).setBlk _ _ _ (by omega)).setBlk _ _ _ (by omega)), q3, q4, by simpa using q5⟩, o_mv.past (by decide) (fun h => ⟨getD_mono h.1, h.2⟩), o_e0.past (by decide) (fun h => ⟨getD_mono h.1, h.2⟩), o_e1.past (by decide) (fun h => ⟨getD_mono h.1, h.2⟩), o_e2.past (by decide) (fun h => ⟨getD_mono h.1, h.2⟩), .now ⟨e2, n1, by simpa using n2, fun e => (by rw [getD_set_eq] at e; cases e)⟩, .now ⟨getD_mono h4, getD_mono h9, ((((((((hB.set 0 _).set 1 _).set 2 _).set 3 _).set 4 _).set 5 _).set 6 _).set 7 _)⟩, o_a1.past (by decide) (fun h => ⟨getD_mono h.1, h.2⟩), o_a2.past (by decide) (fun h => ⟨getD_mono h.1, h.2⟩), fun _ _ => hs, (kept_set (kept_set (kept_set (kept_set (kept_set (kept_set (kept_set (kept_set hK _ _ _ (.inr n1)) _ _ _ (.inr n1)) _ _ _ (.inr n1)) _ _ _ (.inr n1)) _ _ _ (.inr n1)) _ _ _ (.inr n1)) _ _ _ (.inr n1)) _ _ _ (.inr n1))⟩
          · obtain ⟨h4, e1⟩ := o_e1 (ready_dep hm 7 (by kernel_rfl))
            refine wpOp_step rfl (fun KK hK2 => ?_)
            go_simp
            exact hK2 (A.put (some 13) (.int .i64 V)) _ ⟨a0, b0, ca0, cb0, lo, hi, B, hFR.put (by decide) _, o_ld.past (by decide) (fun h => ((put_ne (by decide)).trans h)), o_mz.past (by decide) (fun h => ((put_ne (by decide)).trans h)), o_lx.past (by decide) (fun h => ((put_ne (by decide)).trans h)), o_toX.past (by decide) (fun h => ((put_ne (by decide)).trans h)), o_F.past (by decide) (fun h => ⟨((put_ne (by decide)).trans h.1), h.2⟩), o_mv.past (by decide) (fun h => ⟨getD_mono h.1, ((put_ne (by decide)).trans h.2)⟩), o_e0.past (by decide) (fun h => ⟨getD_mono h.1, ((put_ne (by decide)).trans h.2)⟩), o_e1.past (by decide) (fun h => ⟨getD_mono h.1, ((put_ne (by decide)).trans h.2)⟩), o_e2.past (by decide) (fun h => ⟨getD_mono h.1, ((put_ne (by decide)).trans h.2)⟩), o_al.past (by decide) (fun h => ⟨((put_ne (by decide)).trans h.1), h.2.1, h.2.2.1, fun e => h.2.2.2 (by rwa [getD_set_ne (by decide)] at e)⟩), o_st.past (by decide) (fun h => ⟨getD_mono h.1, getD_mono h.2.1, h.2.2⟩), .now ⟨getD_mono h4, put_eq (by have hz := hsz.out; omega)⟩, o_a2.past (by decide) (fun h => ⟨getD_mono h.1, ((put_ne (by decide)).trans h.2)⟩), fun h9 h8 => hsep (by rwa [getD_set_ne (by decide)] at h9) (by rwa [getD_set_ne (by decide)] at h8), hK⟩
          · obtain ⟨h4, e1⟩ := o_e2 (ready_dep hm 8 (by kernel_rfl))
            refine wpOp_step rfl (fun KK hK2 => ?_)
            go_simp
            exact hK2 (A.put (some 14) (.bool K)) _ ⟨a0, b0, ca0, cb0, lo, hi, B, hFR.put (by decide) _, o_ld.past (by decide) (fun h => ((put_ne (by decide)).trans h)), o_mz.past (by decide) (fun h => ((put_ne (by decide)).trans h)), o_lx.past (by decide) (fun h => ((put_ne (by decide)).trans h)), o_toX.past (by decide) (fun h => ((put_ne (by decide)).trans h)), o_F.past (by decide) (fun h => ⟨((put_ne (by decide)).trans h.1), h.2⟩), o_mv.past (by decide) (fun h => ⟨getD_mono h.1, ((put_ne (by decide)).trans h.2)⟩), o_e0.past (by decide) (fun h => ⟨getD_mono h.1, ((put_ne (by decide)).trans h.2)⟩), o_e1.past (by decide) (fun h => ⟨getD_mono h.1, ((put_ne (by decide)).trans h.2)⟩), o_e2.past (by decide) (fun h => ⟨getD_mono h.1, ((put_ne (by decide)).trans h.2)⟩), o_al.past (by decide) (fun h => ⟨((put_ne (by decide)).trans h.1), h.2.1, h.2.2.1, fun e => h.2.2.2 (by rwa [getD_set_ne (by decide)] at e)⟩), o_st.past (by decide) (fun h => ⟨getD_mono h.1, getD_mono h.2.1, h.2.2⟩), o_a1.past (by decide) (fun h => ⟨getD_mono h.1, ((put_ne (by decide)).trans h.2)⟩), .now ⟨getD_mono h4, put_eq (by have hz := hsz.out; omega)⟩, fun h9 h8 => hsep (by rwa [getD_set_ne (by decide)] at h9) (by rwa [getD_set_ne (by decide)] at h8), hK⟩
          · simp at hi1
            omega
      case rest =>
        clear IX IY
        obtain ⟨w5, B1, lo1, hi1, a1, b1, ca1, cb1, hw, rfl, rfl, rfl, hbx, sl, tl, hd1, kk, nB1, nlo1, nhi1, nbl1⟩ := hcut
        subst hw
        have Beln := hide (below_kept Bel.out kk (by omega))
        have WAn := hide (WA.out.kept kk (by omega))
        have WXn := hide (WX.out.kept kk (by omega))
        have W0n := hide (W0.out.kept kk (by omega))
        have S0n := hide (S0.out.kept kk (by omega))
        have T0n := hide (T0.out.kept kk (by omega))
        have O3n := hide (O3.out.keptS kk (by omega))
        have O4n := hide (O4.out.keptS kk (by omega))
        have VAn := hide (VA.out.kept kk (by omega))
        clear Bel WA WX W0 S0 T0 O3 O4 VA
        have Bel := Beln
        have WA := WAn
        have WX := WXn
        have W0 := W0n
        have S0 := S0n
        have T0 := T0n
        have O3 := O3n
        have O4 := O4n
        have VA := VAn
        clear Beln WAn WXn W0n S0n T0n O3n O4n VAn
        have W1 := hide hbx
        have S1 := hide sl
        have T1 := hide tl
        have nw5 := kk.size
        have lB1 := W1.out.lt
        clear kk hbx sl tl
        have HD1 := hide hd1
        clear hd1
        have p00 := W1.out.cell (i := 0) rfl
        have p01 := W1.out.cell (i := 1) rfl
        have p02 := W1.out.cell (i := 2) rfl
        have p03 := W1.out.cell (i := 3) rfl
        have p04 := W1.out.cell (i := 4) rfl
        have p05 := W1.out.cell (i := 5) rfl
        have p06 := W1.out.cell (i := 6) rfl
        have p07 := W1.out.cell (i := 7) rfl
        have p10 := W0.out.cell (i := 0) rfl
        have p11 := W0.out.cell (i := 1) rfl
        have p12 := W0.out.cell (i := 2) rfl
        have p13 := W0.out.cell (i := 3) rfl
        have p14 := W0.out.cell (i := 4) rfl
        have p15 := W0.out.cell (i := 5) rfl
        have p16 := W0.out.cell (i := 6) rfl
        have p17 := W0.out.cell (i := 7) rfl
        go_wp2_with fail
        clear p00 p01 p02 p03 p04 p05 p06 p07 p10 p11 p12 p13 p14 p15 p16 p17
        refine (eqRegs _ D.o D.p D.f D.m D.s D.t a1 b1 a0 b0 _ _ _ _ D.xs D.ys S1.out.row T1.out.row S0.out.row T0.out.row bD bE).mono ?_
        rintro e w6 ⟨rfl, k⟩
        have Beln := hide (below_kept Bel.out k (by omega))
        have WAn := hide (WA.out.kept k (by omega))
        have WXn := hide (WX.out.kept k (by omega))
        have W0n := hide (W0.out.kept k (by omega))
        have S0n := hide (S0.out.kept k (by omega))
        have T0n := hide (T0.out.kept k (by omega))
        have O3n := hide (O3.out.keptS k (by omega))
        have O4n := hide (O4.out.keptS k (by omega))
        have VAn := hide (VA.out.kept k (by omega))
        have W1n := hide (W1.out.kept k (by omega))
        have S1n := hide (S1.out.kept k (by omega))
        have T1n := hide (T1.out.kept k (by omega))
        clear Bel WA WX W0 S0 T0 O3 O4 VA W1 S1 T1
        have Bel := Beln
        have WA := WAn
        have WX := WXn
        have W0 := W0n
        have S0 := S0n
        have T0 := T0n
        have O3 := O3n
        have O4 := O4n
        have VA := VAn
        have W1 := W1n
        have S1 := S1n
        have T1 := T1n
        clear Beln WAn WXn W0n S0n T0n O3n O4n VAn W1n S1n T1n
        have nw6 := k.size
        clear k
        have p00 := WA.out.cell (i := 0) rfl
        have p01 := WA.out.cell (i := 1) rfl
        have p02 := WA.out.cell (i := 2) rfl
        have p03 := WA.out.cell (i := 3) rfl
        have p04 := WA.out.cell (i := 4) rfl
        have p05 := WA.out.cell (i := 5) rfl
        have p06 := WA.out.cell (i := 6) rfl
        have p07 := WA.out.cell (i := 7) rfl
        have p10 := VA.out.cell (i := 0) rfl
        have p11 := VA.out.cell (i := 1) rfl
        have p12 := VA.out.cell (i := 2) rfl
        have p13 := VA.out.cell (i := 3) rfl
        have p14 := VA.out.cell (i := 4) rfl
        have p15 := VA.out.cell (i := 5) rfl
        have p16 := VA.out.cell (i := 6) rfl
        have p17 := VA.out.cell (i := 7) rfl
        go_upto_region 10 with fail
        go_cut [61, 62, 63, 64, 65] (fun _ _ _ _ t wx => t = .bool false ∧ Kept 0 0 w6 wx)
        case first =>
          go_region_with (first | (go_at_call 18; refine (toRegs _ d.o d.p d.f d.m d.s d.t a b ca cb d.xs d.ys (HX.out.below Bel.out.drew).1 (HY.out.below Bel.out.drew).1 bx bm).mono ?_; rintro e w7 ⟨g5, g6, rfl, o5, o6, l7, l8, l9, kd⟩; have k := undrewK kd; have VN := hide (VA.out.kept0 k); have u0 := VN.out.cell (i := 0) rfl; have u1 := VN.out.cell (i := 1) rfl; have u2 := VN.out.cell (i := 2) rfl; have u3 := VN.out.cell (i := 3) rfl; have u4 := VN.out.cell (i := 4) rfl; have u5 := VN.out.cell (i := 5) rfl; have u6 := VN.out.cell (i := 6) rfl; have u7 := VN.out.cell (i := 7) rfl; have P3 := hide (O3.out.keptS k (by omega)); have P4 := hide (O4.out.keptS k (by omega)); have P5 := hide o5; have P6 := hide o6; have K7 := hide k; clear k kd o5 o6) | (go_at_call 13; refine (eqRegs _ d.o d.p d.f d.m d.s d.t _ _ _ _ _ _ _ _ d.xs d.ys P3.out.row P4.out.row P5.out.row P6.out.row bx bm).mono ?_; rintro e w8 ⟨rfl, k⟩; have K8 := hide (K7.out.trans k); clear k))
          all_goals
            go_wp2_with fail
            go_meet
            case rel => exact ⟨rfl, K8.out⟩
        case rest =>
          clear p00 p01 p02 p03 p04 p05 p06 p07 p10 p11 p12 p13 p14 p15 p16 p17
          rename_i wx
          obtain ⟨rfl, k⟩ := hcut
          have Beln := hide (below_kept Bel.out k (by omega))
          have WAn := hide (WA.out.kept k (by omega))
          have WXn := hide (WX.out.kept k (by omega))
          have W0n := hide (W0.out.kept k (by omega))
          have S0n := hide (S0.out.kept k (by omega))
          have T0n := hide (T0.out.kept k (by omega))
          have O3n := hide (O3.out.keptS k (by omega))
          have O4n := hide (O4.out.keptS k (by omega))
          have VAn := hide (VA.out.kept k (by omega))
          have W1n := hide (W1.out.kept k (by omega))
          have S1n := hide (S1.out.kept k (by omega))
          have T1n := hide (T1.out.kept k (by omega))
          clear Bel WA WX W0 S0 T0 O3 O4 VA W1 S1 T1
          have Bel := Beln
          have WA := WAn
          have WX := WXn
          have W0 := W0n
          have S0 := S0n
          have T0 := T0n
          have O3 := O3n
          have O4 := O4n
          have VA := VAn
          have W1 := W1n
          have S1 := S1n
          have T1 := T1n
          clear Beln WAn WXn W0n S0n T0n O3n O4n VAn W1n S1n T1n
          have nwx := k.size
          clear k
          have p00 := VA.out.cell (i := 0) rfl
          have p01 := VA.out.cell (i := 1) rfl
          have p02 := VA.out.cell (i := 2) rfl
          have p03 := VA.out.cell (i := 3) rfl
          have p04 := VA.out.cell (i := 4) rfl
          have p05 := VA.out.cell (i := 5) rfl
          have p06 := VA.out.cell (i := 6) rfl
          have p07 := VA.out.cell (i := 7) rfl
          go_wp2_with fail
          clear p00 p01 p02 p03 p04 p05 p06 p07
          refine (markRegs _ w3.heap.size w4.heap.size d.o d.p d.f d.m d.s d.t _ _ _ _ d.xs d.ys 1 (.inr ⟨g3, rfl, l4, by omega, O3.out⟩) (.inr ⟨g4, rfl, by omega, l6, O4.out⟩) (fun g h => by simp [blk] at h ⊢; omega) (by omega) bx bm (by decide) (by decide)).mono ?_
          rintro e w9 ⟨rfl, _, _, k⟩
          clear O3 O4
          have Beln := hide (below_kept Bel.out k (by omega))
          have WAn := hide (WA.out.kept k (by omega))
          have WXn := hide (WX.out.kept k (by omega))
          have W0n := hide (W0.out.kept k (by omega))
          have S0n := hide (S0.out.kept k (by omega))
          have T0n := hide (T0.out.kept k (by omega))
          have VAn := hide (VA.out.kept k (by omega))
          have W1n := hide (W1.out.kept k (by omega))
          have S1n := hide (S1.out.kept k (by omega))
          have T1n := hide (T1.out.kept k (by omega))
          clear Bel WA WX W0 S0 T0 VA W1 S1 T1
          have Bel := Beln
          have WA := WAn
          have WX := WXn
          have W0 := W0n
          have S0 := S0n
          have T0 := T0n
          have VA := VAn
          have W1 := W1n
          have S1 := S1n
          have T1 := T1n
          clear Beln WAn WXn W0n S0n T0n VAn W1n S1n T1n
          have n9 := k.size
          clear k
          clear VA
          have p00 := W1.out.cell (i := 0) rfl
          have p01 := W1.out.cell (i := 1) rfl
          have p02 := W1.out.cell (i := 2) rfl
          have p03 := W1.out.cell (i := 3) rfl
          have p04 := W1.out.cell (i := 4) rfl
          have p05 := W1.out.cell (i := 5) rfl
          have p06 := W1.out.cell (i := 6) rfl
          have p07 := W1.out.cell (i := 7) rfl
          have p10 := W0.out.cell (i := 0) rfl
          have p11 := W0.out.cell (i := 1) rfl
          have p12 := W0.out.cell (i := 2) rfl
          have p13 := W0.out.cell (i := 3) rfl
          have p14 := W0.out.cell (i := 4) rfl
          have p15 := W0.out.cell (i := 5) rfl
          have p16 := W0.out.cell (i := 6) rfl
          have p17 := W0.out.cell (i := 7) rfl
          go_wp2_with fail
          clear p00 p01 p02 p03 p04 p05 p06 p07 p10 p11 p12 p13 p14 p15 p16 p17
          refine (eqRegs _ D.o D.p D.f D.m D.s D.t a1 b1 a0 b0 _ _ _ _ D.xs D.ys S1.out.row T1.out.row S0.out.row T0.out.row bD bE).mono ?_
          rintro e w10 ⟨rfl, k⟩
          have Beln := hide (below_kept Bel.out k (by omega))
          have WAn := hide (WA.out.kept k (by omega))
          have WXn := hide (WX.out.kept k (by omega))
          have W0n := hide (W0.out.kept k (by omega))
          have S0n := hide (S0.out.kept k (by omega))
          have T0n := hide (T0.out.kept k (by omega))
          have W1n := hide (W1.out.kept k (by omega))
          have S1n := hide (S1.out.kept k (by omega))
          have T1n := hide (T1.out.kept k (by omega))
          clear Bel WA WX W0 S0 T0 W1 S1 T1
          have Bel := Beln
          have WA := WAn
          have WX := WXn
          have W0 := W0n
          have S0 := S0n
          have T0 := T0n
          have W1 := W1n
          have S1 := S1n
          have T1 := T1n
          clear Beln WAn WXn W0n S0n T0n W1n S1n T1n
          have nw10 := k.size
          clear k
          have p00 := W1.out.cell (i := 0) rfl
          have p01 := W1.out.cell (i := 1) rfl
          have p02 := W1.out.cell (i := 2) rfl
          have p03 := W1.out.cell (i := 3) rfl
          have p04 := W1.out.cell (i := 4) rfl
          have p05 := W1.out.cell (i := 5) rfl
          have p06 := W1.out.cell (i := 6) rfl
          have p07 := W1.out.cell (i := 7) rfl
          go_wp2_with fail
          clear p00 p01 p02 p03 p04 p05 p06 p07
          refine (markRegs _ lo1 hi1 D.o D.p D.f D.m D.s D.t a1 b1 _ _ D.xs D.ys 1 S1.out T1.out HD1.out (by omega) bD bE (by decide) (by decide)).mono ?_
          rintro e w11 ⟨rfl, s, t, k⟩
          clear S1 T1
          have Beln := hide (below_kept Bel.out k (by omega))
          have WAn := hide (WA.out.kept k (by omega))
          have WXn := hide (WX.out.kept k (by omega))
          have W0n := hide (W0.out.kept k (by omega))
          have S0n := hide (S0.out.kept k (by omega))
          have T0n := hide (T0.out.kept k (by omega))
          have W1n := hide (W1.out.kept k (by omega))
          clear Bel WA WX W0 S0 T0 W1
          have Bel := Beln
          have WA := WAn
          have WX := WXn
          have W0 := W0n
          have S0 := S0n
          have T0 := T0n
          have W1 := W1n
          clear Beln WAn WXn W0n S0n T0n W1n
          have M1 := hide s
          have M2 := hide t
          have n11 := k.size
          clear k s t
          have p00 := W1.out.cell (i := 0) rfl
          have p01 := W1.out.cell (i := 1) rfl
          have p02 := W1.out.cell (i := 2) rfl
          have p03 := W1.out.cell (i := 3) rfl
          have p04 := W1.out.cell (i := 4) rfl
          have p05 := W1.out.cell (i := 5) rfl
          have p06 := W1.out.cell (i := 6) rfl
          have p07 := W1.out.cell (i := 7) rfl
          go_wp2_with fail
          clear p00 p01 p02 p03 p04 p05 p06 p07
          refine (heldRegs _ D.o D.p D.f D.m D.s D.t a1 b1 _ _ D.xs.length D.ys.length 1 M1.out.row M2.out.row bD bE (by decide) (by decide)).mono ?_
          rintro e w12 ⟨rfl, k⟩
          have Beln := hide (below_kept Bel.out k (by omega))
          have WAn := hide (WA.out.kept k (by omega))
          have WXn := hide (WX.out.kept k (by omega))
          have W0n := hide (W0.out.kept k (by omega))
          have S0n := hide (S0.out.kept k (by omega))
          have T0n := hide (T0.out.kept k (by omega))
          have W1n := hide (W1.out.kept k (by omega))
          have M1n := hide (M1.out.kept k (by omega))
          have M2n := hide (M2.out.kept k (by omega))
          clear Bel WA WX W0 S0 T0 W1 M1 M2
          have Bel := Beln
          have WA := WAn
          have WX := WXn
          have W0 := W0n
          have S0 := S0n
          have T0 := T0n
          have W1 := W1n
          have M1 := M1n
          have M2 := M2n
          clear Beln WAn WXn W0n S0n T0n W1n M1n M2n
          have nw12 := k.size
          clear k
          go_upto_region 24 with fail
          have IX := hide (HX.out.below Bel.out).1
          have IY := hide (HY.out.below Bel.out).1
          go_upto_region 24 with fail
          go_cut [18, 19, 20, 99, 100, 101, 102, 103, 104, 98, 105, 106, 107] (fun pp zz kk _ _ _ _ _ _ _ _ _ _ W => ∃ (X : World) (B lo hi : Nat) (a0 b0 : Option Addr) (ca0 cb0 : Nat), X = W ∧ pp = .pointer (some ⟨B, 0, none⟩) ∧ zz = .int .i64 V ∧ kk = .bool K ∧ AnsR w12 W D B lo hi a0 b0 ca0 cb0)
          case first =>
            clear Bel W0 S0 T0 W1 M1 M2
            refine wp_region_inv2 (fun A0 l A W => ∃ (a0 b0 : Option Addr) (ca0 cb0 lo hi B : Nat), FR [99, 100, 101, 102, 103, 104, 98, 105, 106, 107, 18, 19, 20] A0 A ∧ Once l 0 (A.tmps[99]? = some (.agg #[.slice a d.xs.length ca, .slice b d.ys.length cb, .int .i64 d.o, .int .i64 d.p, .int .i64 d.f, .int .i64 d.m, .bool d.s, .bool d.t])) ∧ Once l 1 (l.getD 11 true = false → ∃ h1 h2 : Nat, A.tmps[100]? = some (.agg #[.slice (some ⟨h1, 0, none⟩) d.xs.length d.xs.length, .slice (some ⟨h2, 0, none⟩) d.ys.length d.ys.length, .int .i64 d.o, .int .i64 d.p, .int .i64 d.f, .int .i64 d.m, .bool d.s, .bool d.t]) ∧ Own W h1 d.xs ∧ Own W h2 d.ys) ∧ Once l 2 (A.tmps[101]? = some (.int .i64 z)) ∧ Once l 3 (A.tmps[102]? = some (.agg #[.int .i64 m, .int .i64 k, .int .i64 e])) ∧ Once l 4 (A.tmps[103]? = some (.agg #[.int .i64 m, .int .i64 k, .int .i64 e])) ∧ Once l 5 (A.tmps[104]? = some (.tuple #[.agg #[.slice a0 D.xs.length ca0, .slice b0 D.ys.length cb0, .int .i64 D.o, .int .i64 D.p, .int .i64 D.f, .int .i64 D.m, .bool D.s, .bool D.t], .int .i64 V, .bool K]) ∧ SlotIn W lo hi a0 D.xs ∧ SlotIn W lo hi b0 D.ys ∧ (∀ g, blk a0 = some g → blk b0 ≠ some g) ∧ w12.heap.size ≤ lo ∧ hi ≤ W.heap.size) ∧ Once l 6 (l.getD 5 true = true ∧ A.tmps[98]? = some (.tuple #[.agg #[.slice a0 D.xs.length ca0, .slice b0 D.ys.length cb0, .int .i64 D.o, .int .i64 D.p, .int .i64 D.f, .int .i64 D.m, .bool D.s, .bool D.t], .int .i64 V, .bool K])) ∧ Once l 7 (l.getD 5 true = true ∧ A.tmps[105]? = some (.agg #[.slice a0 D.xs.length ca0, .slice b0 D.ys.length cb0, .int .i64 D.o, .int .i64 D.p, .int .i64 D.f, .int .i64 D.m, .bool D.s, .bool D.t])) ∧ Once l 8 (l.getD 5 true = true ∧ A.tmps[106]? = some (.int .i64 V)) ∧ Once l 9 (l.getD 5 true = true ∧ A.tmps[107]? = some (.bool K)) ∧ Once l 10 (A.tmps[18]? = some (.pointer (some ⟨B, 0, none⟩)) ∧ w12.heap.size ≤ B ∧ B < W.heap.size ∧ (l.getD 11 true = false → Blk W B #[.slice none 0 0, .slice none 0 0, .int .i64 0, .int .i64 0, .int .i64 0, .int .i64 0, .bool false, .bool false] 24)) ∧ Once l 11 (l.getD 5 true = true ∧ l.getD 10 true = true ∧ Blk W B #[.slice a0 D.xs.length ca0, .slice b0 D.ys.length cb0, .int .i64 D.o, .int .i64 D.p, .int .i64 D.f, .int .i64 D.m, .bool D.s, .bool D.t] 24) ∧ Once l 12 (l.getD 5 true = true ∧ A.tmps[19]? = some (.int .i64 V)) ∧ Once l 13 (l.getD 5 true = true ∧ A.tmps[20]? = some (.bool K)) ∧ (l.getD 5 true = true → l.getD 10 true = true → B < lo ∨ hi ≤ B) ∧ Kept 0 0 w12 W) (by kernel_rfl) (by kernel_rfl) ?start ?fin ?step
            case start => exact ⟨none, none, 0, 0, 0, 0, 0, FR.refl _ _, once_start (by decide), once_start (by decide), once_start (by decide), once_start (by decide), once_start (by decide), once_start (by decide), once_start (by decide), once_start (by decide), once_start (by decide), once_start (by decide), once_start (by decide), once_start (by decide), once_start (by decide), once_start (by decide), fun h => (by rw [start_at (by decide)] at h; cases h), kept_drew (Kept.refl _ _ _)⟩
            case fin =>
              intro l A W h hl
              obtain ⟨a0, b0, ca0, cb0, lo, hi, B, hFR, o_ld, o_toD, o_mz, o_lx, o_toX, o_F, o_mv, o_e0, o_e1, o_e2, o_al, o_st, o_a1, o_a2, hsep, hK⟩ := h
              have q_F := o_F (hl 5 (by decide))
              have q_al := o_al (hl 10 (by decide))
              have q_st := o_st (hl 11 (by decide))
              have q_a1 := o_a1 (hl 12 (by decide))
              have q_a2 := o_a2 (hl 13 (by decide))
              have q_sep := hsep (hl 5 (by decide)) (hl 10 (by decide))
              obtain ⟨_, g1⟩ := q_a1
              obtain ⟨_, g2⟩ := q_a2
              obtain ⟨g0, q1, q2, _⟩ := q_al
              obtain ⟨_, q3, q4, q5, q6, q7⟩ := q_F
              obtain ⟨_, _, q8⟩ := q_st
              have QQ : Hid (AnsR w12 W D B lo hi a0 b0 ca0 cb0) := hide ⟨q8, q3, q4, q5, hK, q1, q6, q7, q_sep⟩
              have hc := hFR.chain
              simp only [List.foldl] at hc
              rw [getD_of g0, getD_of g1, getD_of g2] at hc
              clear hl hK hsep q1 q2 q3 q4 q5 q6 q7 q8 q_sep hFR g0 g1 g2 o_ld o_toD o_mz o_lx o_toX o_F o_mv o_e0 o_e1 o_e2 o_al o_st o_a1 o_a2
              generalize A.tmps.getD 99 undef = s99 at hc
              generalize A.tmps.getD 100 undef = s100 at hc
              generalize A.tmps.getD 101 undef = s101 at hc
              generalize A.tmps.getD 102 undef = s102 at hc
              generalize A.tmps.getD 103 undef = s103 at hc
              generalize A.tmps.getD 104 undef = s104 at hc
              generalize A.tmps.getD 98 undef = s98 at hc
              generalize A.tmps.getD 105 undef = s105 at hc
              generalize A.tmps.getD 106 undef = s106 at hc
              generalize A.tmps.getD 107 undef = s107 at hc
              subst hc
              go_simp
              go_step
              go_meet
              case rel => exact ⟨_, _, lo, hi, a0, b0, ca0, cb0, rfl, rfl, rfl, rfl, QQ.out⟩
            case step =>
              intro l A W i hI hm
              obtain ⟨a0, b0, ca0, cb0, lo, hi, B, hFR, o_ld, o_toD, o_mz, o_lx, o_toX, o_F, o_mv, o_e0, o_e1, o_e2, o_al, o_st, o_a1, o_a2, hsep, hK⟩ := hI
              obtain ⟨hi1, hi2⟩ := ready_new hm
              have hsz : Hid (107 < A.tmps.size) := hide (by rw [hFR.size]; simp)
              have m1 : A.tmps[3]? = some (.pointer (some ⟨w.heap.size, 0, none⟩)) := (hFR.out 3 (by decide)).trans rfl
              have m2 : A.tmps[5]? = some (.pointer (some ⟨w.heap.size + 1, 0, none⟩)) := (hFR.out 5 (by decide)).trans rfl
              have m3 : A.tmps[1]? = some (.int .i64 z) := (hFR.out 1 (by decide)).trans rfl
              rcases i with _ | _ | _ | _ | _ | _ | _ | _ | _ | _ | _ | _ | _ | _ | i
              · have x0 := (WA.out.kept0 hK).cell (i := 0) rfl
                have x1 := (WA.out.kept0 hK).cell (i := 1) rfl
                have x2 := (WA.out.kept0 hK).cell (i := 2) rfl
                have x3 := (WA.out.kept0 hK).cell (i := 3) rfl
                have x4 := (WA.out.kept0 hK).cell (i := 4) rfl
                have x5 := (WA.out.kept0 hK).cell (i := 5) rfl
                have x6 := (WA.out.kept0 hK).cell (i := 6) rfl
                have x7 := (WA.out.kept0 hK).cell (i := 7) rfl
                refine wpOp_step rfl (fun KK hK2 => ?_)
                go_simp
                exact hK2 (A.put (some 99) (.agg #[.slice a d.xs.length ca, .slice b d.ys.length cb, .int .i64 d.o, .int .i64 d.p, .int .i64 d.f, .int .i64 d.m, .bool d.s, .bool d.t])) _ ⟨a0, b0, ca0, cb0, lo, hi, B, hFR.put (by decide) _, .now (put_eq (by have hz := hsz.out; omega)), o_toD.past (by decide) (fun h e => by obtain ⟨h1, h2, q0, q1, q2⟩ := h (by rwa [getD_set_ne (by decide)] at e); exact ⟨h1, h2, ((put_ne (by decide)).trans q0), q1, q2⟩), o_mz.past (by decide) (fun h => ((put_ne (by decide)).trans h)), o_lx.past (by decide) (fun h => ((put_ne (by decide)).trans h)), o_toX.past (by decide) (fun h => ((put_ne (by decide)).trans h)), o_F.past (by decide) (fun h => ⟨((put_ne (by decide)).trans h.1), h.2⟩), o_mv.past (by decide) (fun h => ⟨getD_mono h.1, ((put_ne (by decide)).trans h.2)⟩), o_e0.past (by decide) (fun h => ⟨getD_mono h.1, ((put_ne (by decide)).trans h.2)⟩), o_e1.past (by decide) (fun h => ⟨getD_mono h.1, ((put_ne (by decide)).trans h.2)⟩), o_e2.past (by decide) (fun h => ⟨getD_mono h.1, ((put_ne (by decide)).trans h.2)⟩), o_al.past (by decide) (fun h => ⟨((put_ne (by decide)).trans h.1), h.2.1, h.2.2.1, fun e => h.2.2.2 (by rwa [getD_set_ne (by decide)] at e)⟩), o_st.past (by decide) (fun h => ⟨getD_mono h.1, getD_mono h.2.1, h.2.2⟩), o_a1.past (by decide) (fun h => ⟨getD_mono h.1, ((put_ne (by decide)).trans h.2)⟩), o_a2.past (by decide) (fun h => ⟨getD_mono h.1, ((put_ne (by decide)).trans h.2)⟩), fun h9 h8 => hsep (by rwa [getD_set_ne (by decide)] at h9) (by rwa [getD_set_ne (by decide)] at h8), hK⟩
              · have e1 := o_ld (ready_dep hm 0 (by kernel_rfl))
                refine wpOp_step rfl (fun KK hK2 => ?_)
                go_simp
                refine (toRegs W d.o d.p d.f d.m d.s d.t a b ca cb d.xs d.ys (IX.out.keptS hK) (IY.out.keptS hK) bx bm).mono ?_
                rintro e y ⟨h1, h2, rfl, q1, q2, m1, m2, m3, kd⟩
                go_simp
                exact hK2 (A.put (some 100) (.agg #[.slice (some ⟨h1, 0, none⟩) d.xs.length d.xs.length, .slice (some ⟨h2, 0, none⟩) d.ys.length d.ys.length, .int .i64 d.o, .int .i64 d.p, .int .i64 d.f, .int .i64 d.m, .bool d.s, .bool d.t])) _ ⟨a0, b0, ca0, cb0, lo, hi, B, hFR.put (by decide) _, o_ld.past (by decide) (fun h => ((put_ne (by decide)).trans h)), .now (fun _ => ⟨h1, h2, put_eq (by have hz := hsz.out; omega), q1, q2⟩), o_mz.past (by decide) (fun h => ((put_ne (by decide)).trans h)), o_lx.past (by decide) (fun h => ((put_ne (by decide)).trans h)), o_toX.past (by decide) (fun h => ((put_ne (by decide)).trans h)), o_F.past (by decide) (fun h => ⟨((put_ne (by decide)).trans h.1), h.2.1.kept kd (by omega), h.2.2.1.kept kd (by omega), h.2.2.2.1, h.2.2.2.2.1, Nat.le_trans h.2.2.2.2.2 kd.size⟩), o_mv.past (by decide) (fun h => ⟨getD_mono h.1, ((put_ne (by decide)).trans h.2)⟩), o_e0.past (by decide) (fun h => ⟨getD_mono h.1, ((put_ne (by decide)).trans h.2)⟩), o_e1.past (by decide) (fun h => ⟨getD_mono h.1, ((put_ne (by decide)).trans h.2)⟩), o_e2.past (by decide) (fun h => ⟨getD_mono h.1, ((put_ne (by decide)).trans h.2)⟩), o_al.past (by decide) (fun h => ⟨((put_ne (by decide)).trans h.1), h.2.1, Nat.lt_of_lt_of_le h.2.2.1 kd.size, fun e => (h.2.2.2 (by rwa [getD_set_ne (by decide)] at e)).kept0 kd⟩), o_st.past (by decide) (fun h => ⟨getD_mono h.1, getD_mono h.2.1, h.2.2.kept0 kd⟩), o_a1.past (by decide) (fun h => ⟨getD_mono h.1, ((put_ne (by decide)).trans h.2)⟩), o_a2.past (by decide) (fun h => ⟨getD_mono h.1, ((put_ne (by decide)).trans h.2)⟩), fun h9 h8 => hsep (by rwa [getD_set_ne (by decide)] at h9) (by rwa [getD_set_ne (by decide)] at h8), (hK.trans kd)⟩
              · refine wpOp_step rfl (fun KK hK2 => ?_)
                go_simp
                exact hK2 (A.put (some 101) (.int .i64 z)) _ ⟨a0, b0, ca0, cb0, lo, hi, B, hFR.put (by decide) _, o_ld.past (by decide) (fun h => ((put_ne (by decide)).trans h)), o_toD.past (by decide) (fun h e => by obtain ⟨h1, h2, q0, q1, q2⟩ := h (by rwa [getD_set_ne (by decide)] at e); exact ⟨h1, h2, ((put_ne (by decide)).trans q0), q1, q2⟩), .now (put_eq (by have hz := hsz.out; omega)), o_lx.past (by decide) (fun h => ((put_ne (by decide)).trans h)), o_toX.past (by decide) (fun h => ((put_ne (by decide)).trans h)), o_F.past (by decide) (fun h => ⟨((put_ne (by decide)).trans h.1), h.2⟩), o_mv.past (by decide) (fun h => ⟨getD_mono h.1, ((put_ne (by decide)).trans h.2)⟩), o_e0.past (by decide) (fun h => ⟨getD_mono h.1, ((put_ne (by decide)).trans h.2)⟩), o_e1.past (by decide) (fun h => ⟨getD_mono h.1, ((put_ne (by decide)).trans h.2)⟩), o_e2.past (by decide) (fun h => ⟨getD_mono h.1, ((put_ne (by decide)).trans h.2)⟩), o_al.past (by decide) (fun h => ⟨((put_ne (by decide)).trans h.1), h.2.1, h.2.2.1, fun e => h.2.2.2 (by rwa [getD_set_ne (by decide)] at e)⟩), o_st.past (by decide) (fun h => ⟨getD_mono h.1, getD_mono h.2.1, h.2.2⟩), o_a1.past (by decide) (fun h => ⟨getD_mono h.1, ((put_ne (by decide)).trans h.2)⟩), o_a2.past (by decide) (fun h => ⟨getD_mono h.1, ((put_ne (by decide)).trans h.2)⟩), fun h9 h8 => hsep (by rwa [getD_set_ne (by decide)] at h9) (by rwa [getD_set_ne (by decide)] at h8), hK⟩
              · have x0 := (WX.out.kept0 hK).cell (i := 0) rfl
                have x1 := (WX.out.kept0 hK).cell (i := 1) rfl
                have x2 := (WX.out.kept0 hK).cell (i := 2) rfl
                refine wpOp_step rfl (fun KK hK2 => ?_)
                go_simp
                exact hK2 (A.put (some 102) (.agg #[.int .i64 m, .int .i64 k, .int .i64 e])) _ ⟨a0, b0, ca0, cb0, lo, hi, B, hFR.put (by decide) _, o_ld.past (by decide) (fun h => ((put_ne (by decide)).trans h)), o_toD.past (by decide) (fun h e => by obtain ⟨h1, h2, q0, q1, q2⟩ := h (by rwa [getD_set_ne (by decide)] at e); exact ⟨h1, h2, ((put_ne (by decide)).trans q0), q1, q2⟩), o_mz.past (by decide) (fun h => ((put_ne (by decide)).trans h)), .now (put_eq (by have hz := hsz.out; omega)), o_toX.past (by decide) (fun h => ((put_ne (by decide)).trans h)), o_F.past (by decide) (fun h => ⟨((put_ne (by decide)).trans h.1), h.2⟩), o_mv.past (by decide) (fun h => ⟨getD_mono h.1, ((put_ne (by decide)).trans h.2)⟩), o_e0.past (by decide) (fun h => ⟨getD_mono h.1, ((put_ne (by decide)).trans h.2)⟩), o_e1.past (by decide) (fun h => ⟨getD_mono h.1, ((put_ne (by decide)).trans h.2)⟩), o_e2.past (by decide) (fun h => ⟨getD_mono h.1, ((put_ne (by decide)).trans h.2)⟩), o_al.past (by decide) (fun h => ⟨((put_ne (by decide)).trans h.1), h.2.1, h.2.2.1, fun e => h.2.2.2 (by rwa [getD_set_ne (by decide)] at e)⟩), o_st.past (by decide) (fun h => ⟨getD_mono h.1, getD_mono h.2.1, h.2.2⟩), o_a1.past (by decide) (fun h => ⟨getD_mono h.1, ((put_ne (by decide)).trans h.2)⟩), o_a2.past (by decide) (fun h => ⟨getD_mono h.1, ((put_ne (by decide)).trans h.2)⟩), fun h9 h8 => hsep (by rwa [getD_set_ne (by decide)] at h9) (by rwa [getD_set_ne (by decide)] at h8), hK⟩
              · have e1 := o_lx (ready_dep hm 3 (by kernel_rfl))
                refine wpOp_step rfl (fun KK hK2 => ?_)
                go_simp
                refine (toOperand _ _ _ W).mono ?_
                rintro e y ⟨rfl, q1, q2, q3, hw3⟩
                have kd := kept3 hw3
                clear hw3
                go_simp
                exact hK2 (A.put (some 103) (.agg #[.int .i64 m, .int .i64 k, .int .i64 e])) _ ⟨a0, b0, ca0, cb0, lo, hi, B, hFR.put (by decide) _, o_ld.past (by decide) (fun h => ((put_ne (by decide)).trans h)), o_toD.past (by decide) (fun h e => by obtain ⟨h1, h2, q0, q1, q2⟩ := h (by rwa [getD_set_ne (by decide)] at e); exact ⟨h1, h2, ((put_ne (by decide)).trans q0), q1.keptS kd (by omega), q2.keptS kd (by omega)⟩), o_mz.past (by decide) (fun h => ((put_ne (by decide)).trans h)), o_lx.past (by decide) (fun h => ((put_ne (by decide)).trans h)), .now (put_eq (by have hz := hsz.out; omega)), o_F.past (by decide) (fun h => ⟨((put_ne (by decide)).trans h.1), h.2.1.kept kd (by omega), h.2.2.1.kept kd (by omega), h.2.2.2.1, h.2.2.2.2.1, Nat.le_trans h.2.2.2.2.2 kd.size⟩), o_mv.past (by decide) (fun h => ⟨getD_mono h.1, ((put_ne (by decide)).trans h.2)⟩), o_e0.past (by decide) (fun h => ⟨getD_mono h.1, ((put_ne (by decide)).trans h.2)⟩), o_e1.past (by decide) (fun h => ⟨getD_mono h.1, ((put_ne (by decide)).trans h.2)⟩), o_e2.past (by decide) (fun h => ⟨getD_mono h.1, ((put_ne (by decide)).trans h.2)⟩), o_al.past (by decide) (fun h => ⟨((put_ne (by decide)).trans h.1), h.2.1, Nat.lt_of_lt_of_le h.2.2.1 kd.size, fun e => (h.2.2.2 (by rwa [getD_set_ne (by decide)] at e)).kept0 kd⟩), o_st.past (by decide) (fun h => ⟨getD_mono h.1, getD_mono h.2.1, h.2.2.kept0 kd⟩), o_a1.past (by decide) (fun h => ⟨getD_mono h.1, ((put_ne (by decide)).trans h.2)⟩), o_a2.past (by decide) (fun h => ⟨getD_mono h.1, ((put_ne (by decide)).trans h.2)⟩), fun h9 h8 => hsep (by rwa [getD_set_ne (by decide)] at h9) (by rwa [getD_set_ne (by decide)] at h8), (hK.trans kd)⟩
              · have e1 := o_toX (ready_dep hm 4 (by kernel_rfl))
                have e4 := o_mz (ready_dep hm 2 (by kernel_rfl))
                have hst : l.getD 11 true = false := by
                  cases e : l.getD 11 true
                  · rfl
                  · have h2 := (o_st e).1
                    rw [hi2] at h2
                    cases h2
                obtain ⟨h1, h2, e2, c1, c2⟩ := o_toD (ready_dep hm 1 (by kernel_rfl)) hst
                refine wpOp_step rfl (fun KK hK2 => ?_)
                go_simp
                have CN := HI.out W d _ _ d.xs.length d.ys.length z m k e (c1.came HX.out.2) (c2.came HY.out.2) bx bm HWF.out wfz wfm wfk wfe
                rw [HDD.out, HVV.out, HKK.out] at CN
                refine CN.mono ?_
                clear CN
                rintro e y ⟨a5, b5, ca5, cb5, rfl, hD5, kd⟩
                go_simp
                exact hK2 (A.put (some 104) (.tuple #[.agg #[.slice a5 D.xs.length ca5, .slice b5 D.ys.length cb5, .int .i64 D.o, .int .i64 D.p, .int .i64 D.f, .int .i64 D.m, .bool D.s, .bool D.t], .int .i64 V, .bool K])) _ ⟨a5, b5, ca5, cb5, W.heap.size, y.heap.size, B, hFR.put (by decide) _, o_ld.past (by decide) (fun h => ((put_ne (by decide)).trans h)), o_toD.past (by decide) (fun h e => by obtain ⟨h1, h2, q0, q1, q2⟩ := h (by rwa [getD_set_ne (by decide)] at e); exact ⟨h1, h2, ((put_ne (by decide)).trans q0), q1.keptS kd (by omega), q2.keptS kd (by omega)⟩), o_mz.past (by decide) (fun h => ((put_ne (by decide)).trans h)), o_lx.past (by decide) (fun h => ((put_ne (by decide)).trans h)), o_toX.past (by decide) (fun h => ((put_ne (by decide)).trans h)), .now ⟨put_eq (by have hz := hsz.out; omega), hD5.1, hD5.2.1, hD5.2.2, hK.size, Nat.le_refl _⟩, o_mv.past (by decide) (fun h => by have h2 := h.1; rw [hi2] at h2; cases h2), o_e0.past (by decide) (fun h => by have h2 := h.1; rw [hi2] at h2; cases h2), o_e1.past (by decide) (fun h => by have h2 := h.1; rw [hi2] at h2; cases h2), o_e2.past (by decide) (fun h => by have h2 := h.1; rw [hi2] at h2; cases h2), o_al.past (by decide) (fun h => ⟨((put_ne (by decide)).trans h.1), h.2.1, Nat.lt_of_lt_of_le h.2.2.1 kd.size, fun e => (h.2.2.2 (by rwa [getD_set_ne (by decide)] at e)).kept0 kd⟩), o_st.past (by decide) (fun h => by have h2 := h.1; rw [hi2] at h2; cases h2), o_a1.past (by decide) (fun h => by have h2 := h.1; rw [hi2] at h2; cases h2), o_a2.past (by decide) (fun h => by have h2 := h.1; rw [hi2] at h2; cases h2), fun _ h8 => .inl (o_al (by rwa [getD_set_ne (by decide)] at h8)).2.2.1, (hK.trans kd)⟩
              · have h4 := ready_dep hm 5 (by kernel_rfl)
                have e1 := (o_F h4).1
                refine wpOp_step rfl (fun KK hK2 => ?_)
                go_simp
                exact hK2 (A.put (some 98) (.tuple #[.agg #[.slice a0 D.xs.length ca0, .slice b0 D.ys.length cb0, .int .i64 D.o, .int .i64 D.p, .int .i64 D.f, .int .i64 D.m, .bool D.s, .bool D.t], .int .i64 V, .bool K])) _ ⟨a0, b0, ca0, cb0, lo, hi, B, hFR.put (by decide) _, o_ld.past (by decide) (fun h => ((put_ne (by decide)).trans h)), o_toD.past (by decide) (fun h e => by obtain ⟨h1, h2, q0, q1, q2⟩ := h (by rwa [getD_set_ne (by decide)] at e); exact ⟨h1, h2, ((put_ne (by decide)).trans q0), q1, q2⟩), o_mz.past (by decide) (fun h => ((put_ne (by decide)).trans h)), o_lx.past (by decide) (fun h => ((put_ne (by decide)).trans h)), o_toX.past (by decide) (fun h => ((put_ne (by decide)).trans h)), o_F.past (by decide) (fun h => ⟨((put_ne (by decide)).trans h.1), h.2⟩), .now ⟨getD_mono h4, put_eq (by have hz := hsz.out; omega)⟩, o_e0.past (by decide) (fun h => ⟨getD_mono h.1, ((put_ne (by decide)).trans h.2)⟩), o_e1.past (by decide) (fun h => ⟨getD_mono h.1, ((put_ne (by decide)).trans h.2)⟩), o_e2.past (by decide) (fun h => ⟨getD_mono h.1, ((put_ne (by decide)).trans h.2)⟩), o_al.past (by decide) (fun h => ⟨((put_ne (by decide)).trans h.1), h.2.1, h.2.2.1, fun e => h.2.2.2 (by rwa [getD_set_ne (by decide)] at e)⟩), o_st.past (by decide) (fun h => ⟨getD_mono h.1, getD_mono h.2.1, h.2.2⟩), o_a1.past (by decide) (fun h => ⟨getD_mono h.1, ((put_ne (by decide)).trans h.2)⟩), o_a2.past (by decide) (fun h => ⟨getD_mono h.1, ((put_ne (by decide)).trans h.2)⟩), fun h9 h8 => hsep (by rwa [getD_set_ne (by decide)] at h9) (by rwa [getD_set_ne (by decide)] at h8), hK⟩
              · obtain ⟨h4, e1⟩ := o_mv (ready_dep hm 6 (by kernel_rfl))
                refine wpOp_step rfl (fun KK hK2 => ?_)
                go_simp
                exact hK2 (A.put (some 105) (.agg #[.slice a0 D.xs.length ca0, .slice b0 D.ys.length cb0, .int .i64 D.o, .int .i64 D.p, .int .i64 D.f, .int .i64 D.m, .bool D.s, .bool D.t])) _ ⟨a0, b0, ca0, cb0, lo, hi, B, hFR.put (by decide) _, o_ld.past (by decide) (fun h => ((put_ne (by decide)).trans h)), o_toD.past (by decide) (fun h e => by obtain ⟨h1, h2, q0, q1, q2⟩ := h (by rwa [getD_set_ne (by decide)] at e); exact ⟨h1, h2, ((put_ne (by decide)).trans q0), q1, q2⟩), o_mz.past (by decide) (fun h => ((put_ne (by decide)).trans h)), o_lx.past (by decide) (fun h => ((put_ne (by decide)).trans h)), o_toX.past (by decide) (fun h => ((put_ne (by decide)).trans h)), o_F.past (by decide) (fun h => ⟨((put_ne (by decide)).trans h.1), h.2⟩), o_mv.past (by decide) (fun h => ⟨getD_mono h.1, ((put_ne (by decide)).trans h.2)⟩), .now ⟨getD_mono h4, put_eq (by have hz := hsz.out; omega)⟩, o_e1.past (by decide) (fun h => ⟨getD_mono h.1, ((put_ne (by decide)).trans h.2)⟩), o_e2.past (by decide) (fun h => ⟨getD_mono h.1, ((put_ne (by decide)).trans h.2)⟩), o_al.past (by decide) (fun h => ⟨((put_ne (by decide)).trans h.1), h.2.1, h.2.2.1, fun e => h.2.2.2 (by rwa [getD_set_ne (by decide)] at e)⟩), o_st.past (by decide) (fun h => ⟨getD_mono h.1, getD_mono h.2.1, h.2.2⟩), o_a1.past (by decide) (fun h => ⟨getD_mono h.1, ((put_ne (by decide)).trans h.2)⟩), o_a2.past (by decide) (fun h => ⟨getD_mono h.1, ((put_ne (by decide)).trans h.2)⟩), fun h9 h8 => hsep (by rwa [getD_set_ne (by decide)] at h9) (by rwa [getD_set_ne (by decide)] at h8), hK⟩
              · obtain ⟨h4, e1⟩ := o_mv (ready_dep hm 6 (by kernel_rfl))
                refine wpOp_step rfl (fun KK hK2 => ?_)
                go_simp
                exact hK2 (A.put (some 106) (.int .i64 V)) _ ⟨a0, b0, ca0, cb0, lo, hi, B, hFR.put (by decide) _, o_ld.past (by decide) (fun h => ((put_ne (by decide)).trans h)), o_toD.past (by decide) (fun h e => by obtain ⟨h1, h2, q0, q1, q2⟩ := h (by rwa [getD_set_ne (by decide)] at e); exact ⟨h1, h2, ((put_ne (by decide)).trans q0), q1, q2⟩), o_mz.past (by decide) (fun h => ((put_ne (by decide)).trans h)), o_lx.past (by decide) (fun h => ((put_ne (by decide)).trans h)), o_toX.past (by decide) (fun h => ((put_ne (by decide)).trans h)), o_F.past (by decide) (fun h => ⟨((put_ne (by decide)).trans h.1), h.2⟩), o_mv.past (by decide) (fun h => ⟨getD_mono h.1, ((put_ne (by decide)).trans h.2)⟩), o_e0.past (by decide) (fun h => ⟨getD_mono h.1, ((put_ne (by decide)).trans h.2)⟩), .now ⟨getD_mono h4, put_eq (by have hz := hsz.out; omega)⟩, o_e2.past (by decide) (fun h => ⟨getD_mono h.1, ((put_ne (by decide)).trans h.2)⟩), o_al.past (by decide) (fun h => ⟨((put_ne (by decide)).trans h.1), h.2.1, h.2.2.1, fun e => h.2.2.2 (by rwa [getD_set_ne (by decide)] at e)⟩), o_st.past (by decide) (fun h => ⟨getD_mono h.1, getD_mono h.2.1, h.2.2⟩), o_a1.past (by decide) (fun h => ⟨getD_mono h.1, ((put_ne (by decide)).trans h.2)⟩), o_a2.past (by decide) (fun h => ⟨getD_mono h.1, ((put_ne (by decide)).trans h.2)⟩), fun h9 h8 => hsep (by rwa [getD_set_ne (by decide)] at h9) (by rwa [getD_set_ne (by decide)] at h8), hK⟩
              · obtain ⟨h4, e1⟩ := o_mv (ready_dep hm 6 (by kernel_rfl))
                refine wpOp_step rfl (fun KK hK2 => ?_)
                go_simp
                exact hK2 (A.put (some 107) (.bool K)) _ ⟨a0, b0, ca0, cb0, lo, hi, B, hFR.put (by decide) _, o_ld.past (by decide) (fun h => ((put_ne (by decide)).trans h)), o_toD.past (by decide) (fun h e => by obtain ⟨h1, h2, q0, q1, q2⟩ := h (by rwa [getD_set_ne (by decide)] at e); exact ⟨h1, h2, ((put_ne (by decide)).trans q0), q1, q2⟩), o_mz.past (by decide) (fun h => ((put_ne (by decide)).trans h)), o_lx.past (by decide) (fun h => ((put_ne (by decide)).trans h)), o_toX.past (by decide) (fun h => ((put_ne (by decide)).trans h)), o_F.past (by decide) (fun h => ⟨((put_ne (by decide)).trans h.1), h.2⟩), o_mv.past (by decide) (fun h => ⟨getD_mono h.1, ((put_ne (by decide)).trans h.2)⟩), o_e0.past (by decide) (fun h => ⟨getD_mono h.1, ((put_ne (by decide)).trans h.2)⟩), o_e1.past (by decide) (fun h => ⟨getD_mono h.1, ((put_ne (by decide)).trans h.2)⟩), .now ⟨getD_mono h4, put_eq (by have hz := hsz.out; omega)⟩, o_al.past (by decide) (fun h => ⟨((put_ne (by decide)).trans h.1), h.2.1, h.2.2.1, fun e => h.2.2.2 (by rwa [getD_set_ne (by decide)] at e)⟩), o_st.past (by decide) (fun h => ⟨getD_mono h.1, getD_mono h.2.1, h.2.2⟩), o_a1.past (by decide) (fun h => ⟨getD_mono h.1, ((put_ne (by decide)).trans h.2)⟩), o_a2.past (by decide) (fun h => ⟨getD_mono h.1, ((put_ne (by decide)).trans h.2)⟩), fun h9 h8 => hsep (by rwa [getD_set_ne (by decide)] at h9) (by rwa [getD_set_ne (by decide)] at h8), hK⟩
              · have kd := kept_alloc W (.cells #[.slice none 0 0, .slice none 0 0, .int .i64 0, .int .i64 0, .int .i64 0, .int .i64 0, .bool false, .bool false] 24)
                refine wpOp_step rfl (fun KK hK2 => ?_)
                go_simp
                exact hK2 (A.put (some 18) (.pointer (some ⟨W.heap.size, 0, none⟩))) _ ⟨a0, b0, ca0, cb0, lo, hi, W.heap.size, hFR.put (by decide) _, o_ld.past (by decide) (fun h => ((put_ne (by decide)).trans h)), o_toD.past (by decide) (fun h e => by obtain ⟨h1, h2, q0, q1, q2⟩ := h (by rwa [getD_set_ne (by decide)] at e); exact ⟨h1, h2, ((put_ne (by decide)).trans q0), q1.keptS kd (by omega), q2.keptS kd (by omega)⟩), o_mz.past (by decide) (fun h => ((put_ne (by decide)).trans h)), o_lx.past (by decide) (fun h => ((put_ne (by decide)).trans h)), o_toX.past (by decide) (fun h => ((put_ne (by decide)).trans h)), o_F.past (by decide) (fun h => ⟨((put_ne (by decide)).trans h.1), h.2.1.kept kd (by omega), h.2.2.1.kept kd (by omega), h.2.2.2.1, h.2.2.2.2.1, Nat.le_trans h.2.2.2.2.2 kd.size⟩), o_mv.past (by decide) (fun h => ⟨getD_mono h.1, ((put_ne (by decide)).trans h.2)⟩), o_e0.past (by decide) (fun h => ⟨getD_mono h.1, ((put_ne (by decide)).trans h.2)⟩), o_e1.past (by decide) (fun h => ⟨getD_mono h.1, ((put_ne (by decide)).trans h.2)⟩), o_e2.past (by decide) (fun h => ⟨getD_mono h.1, ((put_ne (by decide)).trans h.2)⟩), .now ⟨put_eq (by have hz := hsz.out; omega), hK.size, by simp, fun _ => Blk.new _ _ _⟩, o_st.past (by decide) (fun h => by have h2 := h.2.1; rw [hi2] at h2; cases h2), o_a1.past (by decide) (fun h => ⟨getD_mono h.1, ((put_ne (by decide)).trans h.2)⟩), o_a2.past (by decide) (fun h => ⟨getD_mono h.1, ((put_ne (by decide)).trans h.2)⟩), fun h9 _ => .inr (o_F (by rwa [getD_set_ne (by decide)] at h9)).2.2.2.2.2, (hK.trans kd)⟩
              · obtain ⟨h4, e1⟩ := o_e0 (ready_dep hm 7 (by kernel_rfl))
                have h9 := ready_dep hm 10 (by kernel_rfl)
                obtain ⟨e2, n1, n2, hB⟩ := o_al h9
                replace hB := hB hi2
                obtain ⟨e3, q1, q2, q3, q4, q5⟩ := o_F h4
                have hs := hsep h4 h9
                have x0 := hB.cell (i := 0) rfl
                have f0 := hB.frozen 0
                have x1 := hB.cell (i := 1) rfl
                have f1 := hB.frozen 1
                have x2 := hB.cell (i := 2) rfl
                have f2 := hB.frozen 2
                have x3 := hB.cell (i := 3) rfl
                have f3 := hB.frozen 3
                have x4 := hB.cell (i := 4) rfl
                have f4 := hB.frozen 4
                have x5 := hB.cell (i := 5) rfl
                have f5 := hB.frozen 5
                have x6 := hB.cell (i := 6) rfl
                have f6 := hB.frozen 6
                have x7 := hB.cell (i := 7) rfl
                have f7 := hB.frozen 7
                refine wpOp_step rfl (fun KK hK2 => ?_)
                go_simp
                exact hK2 A _ ⟨a0, b0, ca0, cb0, lo, hi, B, hFR, o_ld.past (by decide) (fun h => h), fun _ e => (by rw [getD_set_eq] at e; cases e), o_mz.past (by decide) (fun h => h), o_lx.past (by decide) (fun h => h), o_toX.past (by decide) (fun h => h), .now ⟨e3, ((((((((q1.setBlk _ _ _ (by omega)).setBlk _ _ _ (by omega)).setBlk _ _ _ (by omega)).setBlk _ _ _ (by omega)).setBlk _ _ _ (by omega)).setBlk _ _ _ (by omega)).setBlk _ _ _ (by omega)).setBlk _ _ _ (by omega)), ((((((((q2.setBlk _ _ _ (by omega)).setBlk _ _ _ (by omega)).setBlk _ _ _ (by omega)).setBlk _ _ _ (by omega)).setBlk _ _ _ (by omega)).setBlk _ _ _ (by omega)).setBlk _ _ _ (by omega)).setBlk _ _ _ (by omega)), q3, q4, by simpa using q5⟩, o_mv.past (by decide) (fun h => ⟨getD_mono h.1, h.2⟩), o_e0.past (by decide) (fun h => ⟨getD_mono h.1, h.2⟩), o_e1.past (by decide) (fun h => ⟨getD_mono h.1, h.2⟩), o_e2.past (by decide) (fun h => ⟨getD_mono h.1, h.2⟩), .now ⟨e2, n1, by simpa using n2, fun e => (by rw [getD_set_eq] at e; cases e)⟩, .now ⟨getD_mono h4, getD_mono h9, ((((((((hB.set 0 _).set 1 _).set 2 _).set 3 _).set 4 _).set 5 _).set 6 _).set 7 _)⟩, o_a1.past (by decide) (fun h => ⟨getD_mono h.1, h.2⟩), o_a2.past (by decide) (fun h => ⟨getD_mono h.1, h.2⟩), fun _ _ => hs, (kept_set (kept_set (kept_set (kept_set (kept_set (kept_set (kept_set (kept_set hK _ _ _ (.inr n1)) _ _ _ (.inr n1)) _ _ _ (.inr n1)) _ _ _ (.inr n1)) _ _ _ (.inr n1)) _ _ _ (.inr n1)) _ _ _ (.inr n1)) _ _ _ (.inr n1))⟩
              · obtain ⟨h4, e1⟩ := o_e1 (ready_dep hm 8 (by kernel_rfl))
                refine wpOp_step rfl (fun KK hK2 => ?_)
                go_simp
                exact hK2 (A.put (some 19) (.int .i64 V)) _ ⟨a0, b0, ca0, cb0, lo, hi, B, hFR.put (by decide) _, o_ld.past (by decide) (fun h => ((put_ne (by decide)).trans h)), o_toD.past (by decide) (fun h e => by obtain ⟨h1, h2, q0, q1, q2⟩ := h (by rwa [getD_set_ne (by decide)] at e); exact ⟨h1, h2, ((put_ne (by decide)).trans q0), q1, q2⟩), o_mz.past (by decide) (fun h => ((put_ne (by decide)).trans h)), o_lx.past (by decide) (fun h => ((put_ne (by decide)).trans h)), o_toX.past (by decide) (fun h => ((put_ne (by decide)).trans h)), o_F.past (by decide) (fun h => ⟨((put_ne (by decide)).trans h.1), h.2⟩), o_mv.past (by decide) (fun h => ⟨getD_mono h.1, ((put_ne (by decide)).trans h.2)⟩), o_e0.past (by decide) (fun h => ⟨getD_mono h.1, ((put_ne (by decide)).trans h.2)⟩), o_e1.past (by decide) (fun h => ⟨getD_mono h.1, ((put_ne (by decide)).trans h.2)⟩), o_e2.past (by decide) (fun h => ⟨getD_mono h.1, ((put_ne (by decide)).trans h.2)⟩), o_al.past (by decide) (fun h => ⟨((put_ne (by decide)).trans h.1), h.2.1, h.2.2.1, fun e => h.2.2.2 (by rwa [getD_set_ne (by decide)] at e)⟩), o_st.past (by decide) (fun h => ⟨getD_mono h.1, getD_mono h.2.1, h.2.2⟩), .now ⟨getD_mono h4, put_eq (by have hz := hsz.out; omega)⟩, o_a2.past (by decide) (fun h => ⟨getD_mono h.1, ((put_ne (by decide)).trans h.2)⟩), fun h9 h8 => hsep (by rwa [getD_set_ne (by decide)] at h9) (by rwa [getD_set_ne (by decide)] at h8), hK⟩
              · obtain ⟨h4, e1⟩ := o_e2 (ready_dep hm 9 (by kernel_rfl))
                refine wpOp_step rfl (fun KK hK2 => ?_)
                go_simp
                exact hK2 (A.put (some 20) (.bool K)) _ ⟨a0, b0, ca0, cb0, lo, hi, B, hFR.put (by decide) _, o_ld.past (by decide) (fun h => ((put_ne (by decide)).trans h)), o_toD.past (by decide) (fun h e => by obtain ⟨h1, h2, q0, q1, q2⟩ := h (by rwa [getD_set_ne (by decide)] at e); exact ⟨h1, h2, ((put_ne (by decide)).trans q0), q1, q2⟩), o_mz.past (by decide) (fun h => ((put_ne (by decide)).trans h)), o_lx.past (by decide) (fun h => ((put_ne (by decide)).trans h)), o_toX.past (by decide) (fun h => ((put_ne (by decide)).trans h)), o_F.past (by decide) (fun h => ⟨((put_ne (by decide)).trans h.1), h.2⟩), o_mv.past (by decide) (fun h => ⟨getD_mono h.1, ((put_ne (by decide)).trans h.2)⟩), o_e0.past (by decide) (fun h => ⟨getD_mono h.1, ((put_ne (by decide)).trans h.2)⟩), o_e1.past (by decide) (fun h => ⟨getD_mono h.1, ((put_ne (by decide)).trans h.2)⟩), o_e2.past (by decide) (fun h => ⟨getD_mono h.1, ((put_ne (by decide)).trans h.2)⟩), o_al.past (by decide) (fun h => ⟨((put_ne (by decide)).trans h.1), h.2.1, h.2.2.1, fun e => h.2.2.2 (by rwa [getD_set_ne (by decide)] at e)⟩), o_st.past (by decide) (fun h => ⟨getD_mono h.1, getD_mono h.2.1, h.2.2⟩), o_a1.past (by decide) (fun h => ⟨getD_mono h.1, ((put_ne (by decide)).trans h.2)⟩), .now ⟨getD_mono h4, put_eq (by have hz := hsz.out; omega)⟩, fun h9 h8 => hsep (by rwa [getD_set_ne (by decide)] at h9) (by rwa [getD_set_ne (by decide)] at h8), hK⟩
              · simp at hi1
                omega
          case rest =>
            clear IX IY
            obtain ⟨w14, B2, lo2, hi2, a2, b2, ca2, cb2, hw, rfl, rfl, rfl, hbx, sl, tl, hd2, kk, nB2, nlo2, nhi2, nbl2⟩ := hcut
            subst hw
            have Beln := hide (below_kept Bel.out kk (by omega))
            have WAn := hide (WA.out.kept kk (by omega))
            have WXn := hide (WX.out.kept kk (by omega))
            have W0n := hide (W0.out.kept kk (by omega))
            have S0n := hide (S0.out.kept kk (by omega))
            have T0n := hide (T0.out.kept kk (by omega))
            have W1n := hide (W1.out.kept kk (by omega))
            have M1n := hide (M1.out.kept kk (by omega))
            have M2n := hide (M2.out.kept kk (by omega))
            clear Bel WA WX W0 S0 T0 W1 M1 M2
            have Bel := Beln
            have WA := WAn
            have WX := WXn
            have W0 := W0n
            have S0 := S0n
            have T0 := T0n
            have W1 := W1n
            have M1 := M1n
            have M2 := M2n
            clear Beln WAn WXn W0n S0n T0n W1n M1n M2n
            have W2 := hide hbx
            have S2 := hide sl
            have T2 := hide tl
            have nw14 := kk.size
            have lB2 := W2.out.lt
            clear kk hbx sl tl
            clear hd2
            have p00 := W2.out.cell (i := 0) rfl
            have p01 := W2.out.cell (i := 1) rfl
            have p02 := W2.out.cell (i := 2) rfl
            have p03 := W2.out.cell (i := 3) rfl
            have p04 := W2.out.cell (i := 4) rfl
            have p05 := W2.out.cell (i := 5) rfl
            have p06 := W2.out.cell (i := 6) rfl
            have p07 := W2.out.cell (i := 7) rfl
            have p10 := W0.out.cell (i := 0) rfl
            have p11 := W0.out.cell (i := 1) rfl
            have p12 := W0.out.cell (i := 2) rfl
            have p13 := W0.out.cell (i := 3) rfl
            have p14 := W0.out.cell (i := 4) rfl
            have p15 := W0.out.cell (i := 5) rfl
            have p16 := W0.out.cell (i := 6) rfl
            have p17 := W0.out.cell (i := 7) rfl
            go_wp2_with fail
            clear p00 p01 p02 p03 p04 p05 p06 p07 p10 p11 p12 p13 p14 p15 p16 p17
            refine (eqRegs _ D.o D.p D.f D.m D.s D.t a2 b2 a0 b0 _ _ _ _ D.xs D.ys S2.out.row T2.out.row S0.out.row T0.out.row bD bE).mono ?_
            rintro e w15 ⟨rfl, k⟩
            have Beln := hide (below_kept Bel.out k (by omega))
            have WAn := hide (WA.out.kept k (by omega))
            have WXn := hide (WX.out.kept k (by omega))
            have W0n := hide (W0.out.kept k (by omega))
            have S0n := hide (S0.out.kept k (by omega))
            have T0n := hide (T0.out.kept k (by omega))
            have W1n := hide (W1.out.kept k (by omega))
            have M1n := hide (M1.out.kept k (by omega))
            have M2n := hide (M2.out.kept k (by omega))
            have W2n := hide (W2.out.kept k (by omega))
            have S2n := hide (S2.out.kept k (by omega))
            have T2n := hide (T2.out.kept k (by omega))
            clear Bel WA WX W0 S0 T0 W1 M1 M2 W2 S2 T2
            have Bel := Beln
            have WA := WAn
            have WX := WXn
            have W0 := W0n
            have S0 := S0n
            have T0 := T0n
            have W1 := W1n
            have M1 := M1n
            have M2 := M2n
            have W2 := W2n
            have S2 := S2n
            have T2 := T2n
            clear Beln WAn WXn W0n S0n T0n W1n M1n M2n W2n S2n T2n
            have nw15 := k.size
            clear k
            have p00 := W1.out.cell (i := 0) rfl
            have p01 := W1.out.cell (i := 1) rfl
            have p02 := W1.out.cell (i := 2) rfl
            have p03 := W1.out.cell (i := 3) rfl
            have p04 := W1.out.cell (i := 4) rfl
            have p05 := W1.out.cell (i := 5) rfl
            have p06 := W1.out.cell (i := 6) rfl
            have p07 := W1.out.cell (i := 7) rfl
            go_wp2_with fail
            clear p00 p01 p02 p03 p04 p05 p06 p07
            refine (heldRegs _ D.o D.p D.f D.m D.s D.t a1 b1 _ _ D.xs.length D.ys.length 1 M1.out.row M2.out.row bD bE (by decide) (by decide)).mono ?_
            rintro e w16 ⟨rfl, k⟩
            have Beln := hide (below_kept Bel.out k (by omega))
            have WAn := hide (WA.out.kept k (by omega))
            have WXn := hide (WX.out.kept k (by omega))
            have W0n := hide (W0.out.kept k (by omega))
            have S0n := hide (S0.out.kept k (by omega))
            have T0n := hide (T0.out.kept k (by omega))
            have W1n := hide (W1.out.kept k (by omega))
            have M1n := hide (M1.out.kept k (by omega))
            have M2n := hide (M2.out.kept k (by omega))
            have W2n := hide (W2.out.kept k (by omega))
            have S2n := hide (S2.out.kept k (by omega))
            have T2n := hide (T2.out.kept k (by omega))
            clear Bel WA WX W0 S0 T0 W1 M1 M2 W2 S2 T2
            have Bel := Beln
            have WA := WAn
            have WX := WXn
            have W0 := W0n
            have S0 := S0n
            have T0 := T0n
            have W1 := W1n
            have M1 := M1n
            have M2 := M2n
            have W2 := W2n
            have S2 := S2n
            have T2 := T2n
            clear Beln WAn WXn W0n S0n T0n W1n M1n M2n W2n S2n T2n
            have nw16 := k.size
            clear k
            go_wp2_with fail
            go_ret
            exact ⟨rfl, Bel.out⟩
end Go.Proofs.Ytikmelkobbbgnaa
