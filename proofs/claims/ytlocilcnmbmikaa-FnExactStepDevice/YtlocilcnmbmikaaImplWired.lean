/- What the program's device in work answers: made of a device. -/
import Derived.Test.YtlocilcnmbmikaaImplFifo
import Derived.Test.YtlocilcnmbmikaaRegInv
import Derived.Test.YtlocilcnmbmikaaSpecDev1
import Derived.Deep.DeepCutAuto
namespace Go.Proofs.Ytlocilcnmbmikaa
open Go.RowKit Go.Conc
set_option linter.unusedVariables false

/-- a value is a channel that holds these bytes, its block new -/
def ChV (w : World) (v : Value) (cap : Nat) (xs : List Int) (B : Nat) : Prop := ∃ c : Nat, v = .chan (some c) ∧ Ch w c cap xs ∧ B ≤ c
theorem ChV.kept {w w' : World} {v : Value} {cap B : Nat} {xs : List Int} (h : ChV w v cap xs B) (k : Kept 0 0 w w') : ChV w' v cap xs B := by
  obtain ⟨c, h1, h2, h3⟩ := h
  exact ⟨c, h1, h2.kept k (by omega), h3⟩
/-- the device in work lies in block R -/
def WFin (w W : World) (d : Pl.Dev) (R : Nat) : Prop := ∃ ci co : Nat, Blk W R #[.int .i64 d.e, .int .i64 d.l, .bool d.r, .chan (some ci), .chan (some co), .int .i64 d.t] 71 ∧ Ch W ci 4 d.xs ∧ Ch W co 200 d.ys ∧ w.heap.size ≤ ci ∧ w.heap.size ≤ co ∧ Kept 0 0 w W
theorem Ch.setOther {w : World} {c cap : Nat} {vs : List Int} (h : Ch w c cap vs) (b i : Nat) (v : Value) (hn : c ≠ b) : Ch (w.setCell ⟨b, i, none⟩ v) c cap vs := by
  obtain ⟨s, r, h⟩ := h
  exact ⟨s, r, (Below.heap_setCell _ _ _ _ hn).trans h⟩
theorem Blk.ne_ch {w : World} {b c cap : Nat} {cs : Array Value} {ty : TypeId} {vs : List Int} (h : Blk w b cs ty) (k : Ch w c cap vs) : c ≠ b := by
  rintro rfl
  obtain ⟨s, r, k⟩ := k
  unfold Blk at h
  rw [h] at k
  cases k

set_option maxRecDepth 20000 in
set_option maxHeartbeats 4000000 in
theorem wiredOf (w : World) (d : Pl.Dev) (a b : Option Addr) (ca cb : Nat) (ha : IRow w a d.xs) (hb : IRow w b d.ys) (lx : d.xs.length ≤ 4) (ly : d.ys.length ≤ 200) :
    Calls Try.prog 47 #[.agg #[.int .i64 d.e, .int .i64 d.l, .bool d.r, .slice a d.xs.length ca, .slice b d.ys.length cb, .int .i64 d.t]] w fun e w' => ∃ ci co : Nat, e = .returned (.agg #[.int .i64 d.e, .int .i64 d.l, .bool d.r, .chan (some ci), .chan (some co), .int .i64 d.t]) ∧ Ch w' ci 4 d.xs ∧ Ch w' co 200 d.ys ∧ w.heap.size ≤ ci ∧ w.heap.size ≤ co ∧ Kept 0 0 w w' := by
  have HA := hide ha
  have HB := hide hb
  have K0 := hide (kept_new (kept_alloc w (.cells #[.int .i64 d.e, .int .i64 d.l, .bool d.r, .slice a d.xs.length ca, .slice b d.ys.length cb, .int .i64 d.t] 24)) (.cells #[.int .i64 0, .int .i64 0, .bool false, .chan none, .chan none, .int .i64 0] 71))
  have B0 := hide ((Blk.new w #[.int .i64 d.e, .int .i64 d.l, .bool d.r, .slice a d.xs.length ca, .slice b d.ys.length cb, .int .i64 d.t] 24).alloc (.cells #[.int .i64 0, .int .i64 0, .bool false, .chan none, .chan none, .int .i64 0] 71))
  have R0 := Blk.new (w.alloc (.cells #[.int .i64 d.e, .int .i64 d.l, .bool d.r, .slice a d.xs.length ca, .slice b d.ys.length cb, .int .i64 d.t] 24)) #[.int .i64 0, .int .i64 0, .bool false, .chan none, .chan none, .int .i64 0] 71
  simp only [World.size_alloc] at R0
  replace R0 := hide R0
  clear ha hb
  go_enter Try.func47, Try.ntmps47
  go_upto_region 1 with fail
  obtain ⟨X, hX⟩ : ∃ X : World, X = (w.alloc (.cells #[.int .i64 d.e, .int .i64 d.l, .bool d.r, .slice a d.xs.length ca, .slice b d.ys.length cb, .int .i64 d.t] 24)).alloc (.cells #[.int .i64 0, .int .i64 0, .bool false, .chan none, .chan none, .int .i64 0] 71) := ⟨_, rfl⟩
  rw [← hX] at K0 B0 R0 ⊢
  clear hX
  refine wp_region_inv (fun l A W => ∃ s3 s4 s5 s6 s7 s8 s9 s10 s11 s12 s13 s14 s15 s16 s17 : Value, A = ⟨#[.agg #[.int .i64 d.e, .int .i64 d.l, .bool d.r, .slice a d.xs.length ca, .slice b d.ys.length cb, .int .i64 d.t], .pointer (some ⟨w.heap.size, 0, none⟩), .pointer (some ⟨(w.heap.size + 1), 0, none⟩), s3, s4, s5, s6, s7, s8, s9, s10, s11, s12, s13, s14, s15, s16, s17], []⟩ ∧ Once l 0 (s3 = .pointer (some ⟨w.heap.size, 0, none⟩)) ∧ Once l 1 (s4 = .int .i64 d.e) ∧ Once l 2 (s5 = .pointer (some ⟨w.heap.size, 1, none⟩)) ∧ Once l 3 (s6 = .int .i64 d.l) ∧ Once l 4 (s7 = .pointer (some ⟨w.heap.size, 2, none⟩)) ∧ Once l 5 (s8 = .bool d.r) ∧ Once l 6 (s9 = .pointer (some ⟨w.heap.size, 3, none⟩)) ∧ Once l 7 (s10 = .slice a d.xs.length ca) ∧ Once l 8 (ChV W s11 4 d.xs w.heap.size) ∧ Once l 9 (s12 = .pointer (some ⟨w.heap.size, 4, none⟩)) ∧ Once l 10 (s13 = .slice b d.ys.length cb) ∧ Once l 11 (ChV W s14 200 d.ys w.heap.size) ∧ Once l 12 (s15 = .pointer (some ⟨w.heap.size, 5, none⟩)) ∧ Once l 13 (s16 = .int .i64 d.t) ∧ Once l 14 (l.getD 8 true = true ∧ l.getD 11 true = true ∧ s17 = .agg #[.int .i64 d.e, .int .i64 d.l, .bool d.r, s11, s14, .int .i64 d.t]) ∧ (l.getD 15 true = false → Kept 0 0 X W) ∧ Once l 15 ((∀ j, j < 16 → l.getD j true = true) ∧ WFin w W d (w.heap.size + 1))) (by kernel_rfl) (by kernel_rfl) ?start ?fin ?step
  case start => exact ⟨_, _, _, _, _, _, _, _, _, _, _, _, _, _, _, rfl, once_start (by decide), once_start (by decide), once_start (by decide), once_start (by decide), once_start (by decide), once_start (by decide), once_start (by decide), once_start (by decide), once_start (by decide), once_start (by decide), once_start (by decide), once_start (by decide), once_start (by decide), once_start (by decide), once_start (by decide), fun _ => kept_drew (Kept.refl _ _ _), once_start (by decide)⟩
  case fin =>
    intro l A W h hl
    obtain ⟨s3, s4, s5, s6, s7, s8, s9, s10, s11, s12, s13, s14, s15, s16, s17, rfl, o0, o1, o2, o3, o4, o5, o6, o7, o8, o9, o10, o11, o12, o13, o14, hK, hF⟩ := h
    have hl2 := hF (hl 15 (by decide))
    obtain ⟨_, ci, co, hB, hC1, hC2, h1, h2, hk⟩ := hl2
    clear hl hK o0 o1 o2 o3 o4 o5 o6 o7 o8 o9 o10 o11 o12 o13 o14 hF
    have x0 := hB.cell (i := 0) rfl
    have x1 := hB.cell (i := 1) rfl
    have x2 := hB.cell (i := 2) rfl
    have x3 := hB.cell (i := 3) rfl
    have x4 := hB.cell (i := 4) rfl
    have x5 := hB.cell (i := 5) rfl
    clear hB
    go_wp2
    refine bodyPost_ret (v := .agg #[.int .i64 d.e, .int .i64 d.l, .bool d.r, .chan (some ci), .chan (some co), .int .i64 d.t]) ?_ rfl ⟨ci, co, rfl, hC1, hC2, h1, h2, hk⟩
    rw [results_one rfl]; go_simp
  case step =>
    intro l A W i hI hi
    obtain ⟨s3, s4, s5, s6, s7, s8, s9, s10, s11, s12, s13, s14, s15, s16, s17, rfl, o0, o1, o2, o3, o4, o5, o6, o7, o8, o9, o10, o11, o12, o13, o14, hK, hF⟩ := hI
    obtain ⟨hi1, hi2⟩ := ready_new hi
    have h15 : l.getD 15 true = false := by
      cases e : l.getD 15 true
      · rfl
      · have := (hF e).1 i hi1
        rw [hi2] at this
        cases this
    have HK := hide (hK h15)
    have hF2 : ∀ j, j ≠ 15 → ∀ {p : Prop}, Once (l.setIfInBounds j true) 15 p := fun j hj p e => by rw [getD_set_ne (Ne.symm hj), h15] at e; cases e
    clear hK hF
    rcases i with _ | _ | _ | _ | _ | _ | _ | _ | _ | _ | _ | _ | _ | _ | _ | _ | i
    · refine wpOp_step rfl (fun K hK2 => ?_)
      go_simp
      exact hK2 _ _ ⟨_, _, _, _, _, _, _, _, _, _, _, _, _, _, _, rfl, .now rfl, o1.past (by decide) id, o2.past (by decide) id, o3.past (by decide) id, o4.past (by decide) id, o5.past (by decide) id, o6.past (by decide) id, o7.past (by decide) id, o8.past (by decide) id, o9.past (by decide) id, o10.past (by decide) id, o11.past (by decide) id, o12.past (by decide) id, o13.past (by decide) id, o14.past (by decide) (fun h => ⟨getD_mono h.1, getD_mono h.2.1, h.2.2⟩), fun _ => HK.out, hF2 _ (by decide)⟩
    · have e0 := o0 (ready_dep hi 0 (by kernel_rfl))
      subst e0
      have x := (B0.out.kept0 HK.out).cell (i := 0) rfl
      refine wpOp_step rfl (fun K hK2 => ?_)
      go_simp
      exact hK2 _ _ ⟨_, _, _, _, _, _, _, _, _, _, _, _, _, _, _, rfl, o0.past (by decide) id, .now rfl, o2.past (by decide) id, o3.past (by decide) id, o4.past (by decide) id, o5.past (by decide) id, o6.past (by decide) id, o7.past (by decide) id, o8.past (by decide) id, o9.past (by decide) id, o10.past (by decide) id, o11.past (by decide) id, o12.past (by decide) id, o13.past (by decide) id, o14.past (by decide) (fun h => ⟨getD_mono h.1, getD_mono h.2.1, h.2.2⟩), fun _ => HK.out, hF2 _ (by decide)⟩
    · refine wpOp_step rfl (fun K hK2 => ?_)
      go_simp
      exact hK2 _ _ ⟨_, _, _, _, _, _, _, _, _, _, _, _, _, _, _, rfl, o0.past (by decide) id, o1.past (by decide) id, .now rfl, o3.past (by decide) id, o4.past (by decide) id, o5.past (by decide) id, o6.past (by decide) id, o7.past (by decide) id, o8.past (by decide) id, o9.past (by decide) id, o10.past (by decide) id, o11.past (by decide) id, o12.past (by decide) id, o13.past (by decide) id, o14.past (by decide) (fun h => ⟨getD_mono h.1, getD_mono h.2.1, h.2.2⟩), fun _ => HK.out, hF2 _ (by decide)⟩
    · have e2 := o2 (ready_dep hi 2 (by kernel_rfl))
      subst e2
      have x := (B0.out.kept0 HK.out).cell (i := 1) rfl
      refine wpOp_step rfl (fun K hK2 => ?_)
      go_simp
      exact hK2 _ _ ⟨_, _, _, _, _, _, _, _, _, _, _, _, _, _, _, rfl, o0.past (by decide) id, o1.past (by decide) id, o2.past (by decide) id, .now rfl, o4.past (by decide) id, o5.past (by decide) id, o6.past (by decide) id, o7.past (by decide) id, o8.past (by decide) id, o9.past (by decide) id, o10.past (by decide) id, o11.past (by decide) id, o12.past (by decide) id, o13.past (by decide) id, o14.past (by decide) (fun h => ⟨getD_mono h.1, getD_mono h.2.1, h.2.2⟩), fun _ => HK.out, hF2 _ (by decide)⟩
    · refine wpOp_step rfl (fun K hK2 => ?_)
      go_simp
      exact hK2 _ _ ⟨_, _, _, _, _, _, _, _, _, _, _, _, _, _, _, rfl, o0.past (by decide) id, o1.past (by decide) id, o2.past (by decide) id, o3.past (by decide) id, .now rfl, o5.past (by decide) id, o6.past (by decide) id, o7.past (by decide) id, o8.past (by decide) id, o9.past (by decide) id, o10.past (by decide) id, o11.past (by decide) id, o12.past (by decide) id, o13.past (by decide) id, o14.past (by decide) (fun h => ⟨getD_mono h.1, getD_mono h.2.1, h.2.2⟩), fun _ => HK.out, hF2 _ (by decide)⟩
    · have e4 := o4 (ready_dep hi 4 (by kernel_rfl))
      subst e4
      have x := (B0.out.kept0 HK.out).cell (i := 2) rfl
      refine wpOp_step rfl (fun K hK2 => ?_)
      go_simp
      exact hK2 _ _ ⟨_, _, _, _, _, _, _, _, _, _, _, _, _, _, _, rfl, o0.past (by decide) id, o1.past (by decide) id, o2.past (by decide) id, o3.past (by decide) id, o4.past (by decide) id, .now rfl, o6.past (by decide) id, o7.past (by decide) id, o8.past (by decide) id, o9.past (by decide) id, o10.past (by decide) id, o11.past (by decide) id, o12.past (by decide) id, o13.past (by decide) id, o14.past (by decide) (fun h => ⟨getD_mono h.1, getD_mono h.2.1, h.2.2⟩), fun _ => HK.out, hF2 _ (by decide)⟩
    · refine wpOp_step rfl (fun K hK2 => ?_)
      go_simp
      exact hK2 _ _ ⟨_, _, _, _, _, _, _, _, _, _, _, _, _, _, _, rfl, o0.past (by decide) id, o1.past (by decide) id, o2.past (by decide) id, o3.past (by decide) id, o4.past (by decide) id, o5.past (by decide) id, .now rfl, o7.past (by decide) id, o8.past (by decide) id, o9.past (by decide) id, o10.past (by decide) id, o11.past (by decide) id, o12.past (by decide) id, o13.past (by decide) id, o14.past (by decide) (fun h => ⟨getD_mono h.1, getD_mono h.2.1, h.2.2⟩), fun _ => HK.out, hF2 _ (by decide)⟩
    · have e6 := o6 (ready_dep hi 6 (by kernel_rfl))
      subst e6
      have x := (B0.out.kept0 HK.out).cell (i := 3) rfl
      refine wpOp_step rfl (fun K hK2 => ?_)
      go_simp
      exact hK2 _ _ ⟨_, _, _, _, _, _, _, _, _, _, _, _, _, _, _, rfl, o0.past (by decide) id, o1.past (by decide) id, o2.past (by decide) id, o3.past (by decide) id, o4.past (by decide) id, o5.past (by decide) id, o6.past (by decide) id, .now rfl, o8.past (by decide) id, o9.past (by decide) id, o10.past (by decide) id, o11.past (by decide) id, o12.past (by decide) id, o13.past (by decide) id, o14.past (by decide) (fun h => ⟨getD_mono h.1, getD_mono h.2.1, h.2.2⟩), fun _ => HK.out, hF2 _ (by decide)⟩
    · have e7 := o7 (ready_dep hi 7 (by kernel_rfl))
      subst e7
      refine wpOp_step rfl (fun K hK2 => ?_)
      go_simp
      refine (fifoOf W a ca 4 d.xs (HA.out.keptS (K0.out.trans HK.out)) lx (by decide)).mono ?_
      rintro e y ⟨rfl, hC, hKy⟩
      have hV : ChV y (.chan (some W.heap.size)) 4 d.xs w.heap.size := ⟨_, rfl, hC, (K0.out.trans HK.out).size⟩
      go_simp
      exact hK2 _ _ ⟨_, _, _, _, _, _, _, _, _, _, _, _, _, _, _, rfl, o0.past (by decide) id, o1.past (by decide) id, o2.past (by decide) id, o3.past (by decide) id, o4.past (by decide) id, o5.past (by decide) id, o6.past (by decide) id, o7.past (by decide) id, .now hV, o9.past (by decide) id, o10.past (by decide) id, o11.past (by decide) (fun h => h.kept hKy), o12.past (by decide) id, o13.past (by decide) id, o14.past (by decide) (fun h => by have h2 := h.1; rw [hi2] at h2; cases h2), fun _ => HK.out.trans hKy, hF2 _ (by decide)⟩
    · refine wpOp_step rfl (fun K hK2 => ?_)
      go_simp
      exact hK2 _ _ ⟨_, _, _, _, _, _, _, _, _, _, _, _, _, _, _, rfl, o0.past (by decide) id, o1.past (by decide) id, o2.past (by decide) id, o3.past (by decide) id, o4.past (by decide) id, o5.past (by decide) id, o6.past (by decide) id, o7.past (by decide) id, o8.past (by decide) id, .now rfl, o10.past (by decide) id, o11.past (by decide) id, o12.past (by decide) id, o13.past (by decide) id, o14.past (by decide) (fun h => ⟨getD_mono h.1, getD_mono h.2.1, h.2.2⟩), fun _ => HK.out, hF2 _ (by decide)⟩
    · have e9 := o9 (ready_dep hi 9 (by kernel_rfl))
      subst e9
      have x := (B0.out.kept0 HK.out).cell (i := 4) rfl
      refine wpOp_step rfl (fun K hK2 => ?_)
      go_simp
      exact hK2 _ _ ⟨_, _, _, _, _, _, _, _, _, _, _, _, _, _, _, rfl, o0.past (by decide) id, o1.past (by decide) id, o2.past (by decide) id, o3.past (by decide) id, o4.past (by decide) id, o5.past (by decide) id, o6.past (by decide) id, o7.past (by decide) id, o8.past (by decide) id, o9.past (by decide) id, .now rfl, o11.past (by decide) id, o12.past (by decide) id, o13.past (by decide) id, o14.past (by decide) (fun h => ⟨getD_mono h.1, getD_mono h.2.1, h.2.2⟩), fun _ => HK.out, hF2 _ (by decide)⟩
    · have e10 := o10 (ready_dep hi 10 (by kernel_rfl))
      subst e10
      refine wpOp_step rfl (fun K hK2 => ?_)
      go_simp
      refine (fifoOf W b cb 200 d.ys (HB.out.keptS (K0.out.trans HK.out)) ly (by decide)).mono ?_
      rintro e y ⟨rfl, hC, hKy⟩
      have hV : ChV y (.chan (some W.heap.size)) 200 d.ys w.heap.size := ⟨_, rfl, hC, (K0.out.trans HK.out).size⟩
      go_simp
      exact hK2 _ _ ⟨_, _, _, _, _, _, _, _, _, _, _, _, _, _, _, rfl, o0.past (by decide) id, o1.past (by decide) id, o2.past (by decide) id, o3.past (by decide) id, o4.past (by decide) id, o5.past (by decide) id, o6.past (by decide) id, o7.past (by decide) id, o8.past (by decide) (fun h => h.kept hKy), o9.past (by decide) id, o10.past (by decide) id, .now hV, o12.past (by decide) id, o13.past (by decide) id, o14.past (by decide) (fun h => by have h2 := h.2.1; rw [hi2] at h2; cases h2), fun _ => HK.out.trans hKy, hF2 _ (by decide)⟩
    · refine wpOp_step rfl (fun K hK2 => ?_)
      go_simp
      exact hK2 _ _ ⟨_, _, _, _, _, _, _, _, _, _, _, _, _, _, _, rfl, o0.past (by decide) id, o1.past (by decide) id, o2.past (by decide) id, o3.past (by decide) id, o4.past (by decide) id, o5.past (by decide) id, o6.past (by decide) id, o7.past (by decide) id, o8.past (by decide) id, o9.past (by decide) id, o10.past (by decide) id, o11.past (by decide) id, .now rfl, o13.past (by decide) id, o14.past (by decide) (fun h => ⟨getD_mono h.1, getD_mono h.2.1, h.2.2⟩), fun _ => HK.out, hF2 _ (by decide)⟩
    · have e12 := o12 (ready_dep hi 12 (by kernel_rfl))
      subst e12
      have x := (B0.out.kept0 HK.out).cell (i := 5) rfl
      refine wpOp_step rfl (fun K hK2 => ?_)
      go_simp
      exact hK2 _ _ ⟨_, _, _, _, _, _, _, _, _, _, _, _, _, _, _, rfl, o0.past (by decide) id, o1.past (by decide) id, o2.past (by decide) id, o3.past (by decide) id, o4.past (by decide) id, o5.past (by decide) id, o6.past (by decide) id, o7.past (by decide) id, o8.past (by decide) id, o9.past (by decide) id, o10.past (by decide) id, o11.past (by decide) id, o12.past (by decide) id, .now rfl, o14.past (by decide) (fun h => ⟨getD_mono h.1, getD_mono h.2.1, h.2.2⟩), fun _ => HK.out, hF2 _ (by decide)⟩
    · have e1 := o1 (ready_dep hi 1 (by kernel_rfl))
      have e3 := o3 (ready_dep hi 3 (by kernel_rfl))
      have e5 := o5 (ready_dep hi 5 (by kernel_rfl))
      have e8 := o8 (ready_dep hi 8 (by kernel_rfl))
      have e11 := o11 (ready_dep hi 11 (by kernel_rfl))
      have e13 := o13 (ready_dep hi 13 (by kernel_rfl))
      obtain ⟨c8, rfl, q8, b8⟩ := e8
      obtain ⟨c11, rfl, q11, b11⟩ := e11
      subst e1
      subst e3
      subst e5
      subst e13
      refine wpOp_step rfl (fun K hK2 => ?_)
      go_simp
      exact hK2 _ _ ⟨_, _, _, _, _, _, _, _, _, _, _, _, _, _, _, rfl, o0.past (by decide) id, o1.past (by decide) id, o2.past (by decide) id, o3.past (by decide) id, o4.past (by decide) id, o5.past (by decide) id, o6.past (by decide) id, o7.past (by decide) id, o8.past (by decide) id, o9.past (by decide) id, o10.past (by decide) id, o11.past (by decide) id, o12.past (by decide) id, o13.past (by decide) id, .now ⟨getD_mono (ready_dep hi 8 (by kernel_rfl)), getD_mono (ready_dep hi 11 (by kernel_rfl)), rfl⟩, fun _ => HK.out, hF2 _ (by decide)⟩
    · have e8 := o8 (ready_dep hi 8 (by kernel_rfl))
      have e11 := o11 (ready_dep hi 11 (by kernel_rfl))
      have e14 := o14 (ready_dep hi 14 (by kernel_rfl))
      obtain ⟨c8, rfl, q8, b8⟩ := e8
      obtain ⟨c11, rfl, q11, b11⟩ := e11
      replace e14 := e14.2.2
      subst e14
      have hR := R0.out.kept0 HK.out
      have x0 := hR.cell (i := 0) rfl
      have f0 := hR.frozen 0
      have x1 := hR.cell (i := 1) rfl
      have f1 := hR.frozen 1
      have x2 := hR.cell (i := 2) rfl
      have f2 := hR.frozen 2
      have x3 := hR.cell (i := 3) rfl
      have f3 := hR.frozen 3
      have x4 := hR.cell (i := 4) rfl
      have f4 := hR.frozen 4
      have x5 := hR.cell (i := 5) rfl
      have f5 := hR.frozen 5
      have hall : ∀ j, j < 16 → (l.setIfInBounds 15 true).getD j true = true := by
        intro j hj
        rcases j with _ | _ | _ | _ | _ | _ | _ | _ | _ | _ | _ | _ | _ | _ | _ | _ | j
        · rw [getD_set_ne (by decide)]; exact ready_dep hi 0 (by kernel_rfl)
        · rw [getD_set_ne (by decide)]; exact ready_dep hi 1 (by kernel_rfl)
        · rw [getD_set_ne (by decide)]; exact ready_dep hi 2 (by kernel_rfl)
        · rw [getD_set_ne (by decide)]; exact ready_dep hi 3 (by kernel_rfl)
        · rw [getD_set_ne (by decide)]; exact ready_dep hi 4 (by kernel_rfl)
        · rw [getD_set_ne (by decide)]; exact ready_dep hi 5 (by kernel_rfl)
        · rw [getD_set_ne (by decide)]; exact ready_dep hi 6 (by kernel_rfl)
        · rw [getD_set_ne (by decide)]; exact ready_dep hi 7 (by kernel_rfl)
        · rw [getD_set_ne (by decide)]; exact ready_dep hi 8 (by kernel_rfl)
        · rw [getD_set_ne (by decide)]; exact ready_dep hi 9 (by kernel_rfl)
        · rw [getD_set_ne (by decide)]; exact ready_dep hi 10 (by kernel_rfl)
        · rw [getD_set_ne (by decide)]; exact ready_dep hi 11 (by kernel_rfl)
        · rw [getD_set_ne (by decide)]; exact ready_dep hi 12 (by kernel_rfl)
        · rw [getD_set_ne (by decide)]; exact ready_dep hi 13 (by kernel_rfl)
        · rw [getD_set_ne (by decide)]; exact ready_dep hi 14 (by kernel_rfl)
        · exact getD_set_eq
        · omega
      refine wpOp_step rfl (fun K hK2 => ?_)
      go_simp
      refine hK2 _ _ ⟨_, _, _, _, _, _, _, _, _, _, _, _, _, _, _, rfl, o0.past (by decide) id, o1.past (by decide) id, o2.past (by decide) id, o3.past (by decide) id, o4.past (by decide) id, o5.past (by decide) id, o6.past (by decide) id, o7.past (by decide) id, o8.past (by decide) (fun _ => ⟨_, rfl, ?_, b8⟩), o9.past (by decide) id, o10.past (by decide) id, o11.past (by decide) (fun _ => ⟨_, rfl, ?_, b11⟩), o12.past (by decide) id, o13.past (by decide) id, o14.past (by decide) (fun h => ⟨getD_mono h.1, getD_mono h.2.1, h.2.2⟩), fun e => ?_, fun _ => ⟨hall, c8, c11, ((((((hR.set 0 _).set 1 _).set 2 _).set 3 _).set 4 _).set 5 _), ((((((q8.setOther _ _ _ (hR.ne_ch q8)).setOther _ _ _ (hR.ne_ch q8)).setOther _ _ _ (hR.ne_ch q8)).setOther _ _ _ (hR.ne_ch q8)).setOther _ _ _ (hR.ne_ch q8)).setOther _ _ _ (hR.ne_ch q8)), ((((((q11.setOther _ _ _ (hR.ne_ch q11)).setOther _ _ _ (hR.ne_ch q11)).setOther _ _ _ (hR.ne_ch q11)).setOther _ _ _ (hR.ne_ch q11)).setOther _ _ _ (hR.ne_ch q11)).setOther _ _ _ (hR.ne_ch q11)), b8, b11, (kept_set (kept_set (kept_set (kept_set (kept_set (kept_set (K0.out.trans HK.out) _ _ _ (.inr (by omega))) _ _ _ (.inr (by omega))) _ _ _ (.inr (by omega))) _ _ _ (.inr (by omega))) _ _ _ (.inr (by omega))) _ _ _ (.inr (by omega)))⟩⟩
      · exact ((((((q8.setOther _ _ _ (hR.ne_ch q8)).setOther _ _ _ (hR.ne_ch q8)).setOther _ _ _ (hR.ne_ch q8)).setOther _ _ _ (hR.ne_ch q8)).setOther _ _ _ (hR.ne_ch q8)).setOther _ _ _ (hR.ne_ch q8))
      · exact ((((((q11.setOther _ _ _ (hR.ne_ch q11)).setOther _ _ _ (hR.ne_ch q11)).setOther _ _ _ (hR.ne_ch q11)).setOther _ _ _ (hR.ne_ch q11)).setOther _ _ _ (hR.ne_ch q11)).setOther _ _ _ (hR.ne_ch q11))
      · rw [getD_set_eq] at e; cases e
    · simp at hi1
      omega
end Go.Proofs.Ytlocilcnmbmikaa
