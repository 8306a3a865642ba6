/- What the program's device in work answers: made a device again. -/
import Derived.Test.YtlocilcnmbmikaaImplWired
namespace Go.Proofs.Ytlocilcnmbmikaa
open Go.RowKit Go.Conc
set_option linter.unusedVariables false

/-- a device in work: its block and its two channels, all within a span -/
structure Wd (w : World) (lo hi B ci co : Nat) (d : Pl.Dev) : Prop where
  blk : Blk w B #[.int .i64 d.e, .int .i64 d.l, .bool d.r, .chan (some ci), .chan (some co), .int .i64 d.t] 71
  ic : Ch w ci 4 d.xs
  oc : Ch w co 200 d.ys
  b1 : lo ≤ B
  b2 : B < hi
  i1 : lo ≤ ci
  i2 : ci < hi
  o1 : lo ≤ co
  o2 : co < hi
theorem Ch.ne {w : World} {c c' cap cap' : Nat} {vs vs' : List Int} (h : Ch w c cap vs) (k : Ch w c' cap' vs') (hn : cap ≠ cap') : c ≠ c' := by
  rintro rfl
  obtain ⟨s, r, h⟩ := h
  obtain ⟨s', r', k⟩ := k
  rw [h] at k
  injection k with k
  injection k with k1
  exact hn k1
/-- a value is a new row of these bytes -/
def RowV (w : World) (v : Value) (xs : List Int) (base : Nat) : Prop := ∃ g : Nat, v = .slice (some ⟨g, 0, none⟩) xs.length xs.length ∧ w.ownsRow base 3 1 (.slice (some ⟨g, 0, none⟩) xs.length xs.length) xs.length (xs.map (Value.int .i64))
structure DMid (X W : World) (lo hi B ci co : Nat) (d : Pl.Dev) (l1 l2 : Bool) : Prop where
  blk : Blk W B #[.int .i64 d.e, .int .i64 d.l, .bool d.r, .chan (some ci), .chan (some co), .int .i64 d.t] 71
  ic : l1 = false → Ch W ci 4 d.xs
  oc : l2 = false → Ch W co 200 d.ys
  kept : Kept lo hi X W
def DFin (w W : World) (lo hi : Nat) (d : Pl.Dev) : Prop := ∃ g1 g2 : Nat, Blk W w.heap.size #[.int .i64 d.e, .int .i64 d.l, .bool d.r, .slice (some ⟨g1, 0, none⟩) d.xs.length d.xs.length, .slice (some ⟨g2, 0, none⟩) d.ys.length d.ys.length, .int .i64 d.t] 24 ∧ RowV W (.slice (some ⟨g1, 0, none⟩) d.xs.length d.xs.length) d.xs (w.heap.size + 1) ∧ RowV W (.slice (some ⟨g2, 0, none⟩) d.ys.length d.ys.length) d.ys (w.heap.size + 1) ∧ g1 ≠ g2 ∧ Kept lo hi w W
theorem RowV.set {w : World} {v : Value} {xs : List Int} {base : Nat} (h : RowV w v xs base) (b i : Nat) (u : Value) (hb : b < base) : RowV (w.setCell ⟨b, i, none⟩ u) v xs base := by
  obtain ⟨g, rfl, h⟩ := h
  have := (h.lt g rfl).1
  exact ⟨g, rfl, h.kept (grownBy_set w b i u) (.inr (fun e => by have h3 : g = b := Option.some.inj e; omega))⟩
theorem RowV.by {w w' : World} {v : Value} {xs : List Int} {base c : Nat} (h : RowV w v xs base) (k : Kept c (c + 1) w w') (hc : c < base) : RowV w' v xs base := by
  obtain ⟨g, rfl, h⟩ := h
  have := (h.lt g rfl).1
  exact ⟨g, rfl, h.kept (kept_by k) (.inr (fun e => by have h3 : g = c := Option.some.inj e; omega))⟩
theorem RowV.lt {w : World} {g : Nat} {xs : List Int} {base n m : Nat} (h : RowV w (.slice (some ⟨g, 0, none⟩) n m) xs base) : base ≤ g ∧ g < w.heap.size := by
  obtain ⟨g', e, h⟩ := h
  cases e
  exact h.lt g rfl

set_option maxRecDepth 20000 in
set_option maxHeartbeats 8000000 in
theorem wiredDevice (w : World) (lo hi B ci co : Nat) (d : Pl.Dev) (hd : Wd w lo hi B ci co d) (hs : hi ≤ w.heap.size) (lx : d.xs.length ≤ 4) (ly : d.ys.length ≤ 200) :
    Calls Try.prog 49 #[.pointer (some ⟨B, 0, none⟩)] w fun e w' => ∃ (a b : Option Addr) (ca cb : Nat), e = .returned (.agg #[.int .i64 d.e, .int .i64 d.l, .bool d.r, .slice a d.xs.length ca, .slice b d.ys.length cb, .int .i64 d.t]) ∧ DevIn w' w.heap.size d a b ca ∧ Kept lo hi w w' := by
  have K0 := hide (kept_alloc w (.cells #[.int .i64 0, .int .i64 0, .bool false, .slice none 0 0, .slice none 0 0, .int .i64 0] 24))
  have R0 := hide (Blk.new w #[.int .i64 0, .int .i64 0, .bool false, .slice none 0 0, .slice none 0 0, .int .i64 0] 24)
  have M0 : Hid (DMid (w.alloc (.cells #[.int .i64 0, .int .i64 0, .bool false, .slice none 0 0, .slice none 0 0, .int .i64 0] 24)) (w.alloc (.cells #[.int .i64 0, .int .i64 0, .bool false, .slice none 0 0, .slice none 0 0, .int .i64 0] 24)).drew lo hi B ci co d false false) := hide ⟨hd.blk.kept0 (kept_drew (kept_alloc _ _)), fun _ => hd.ic.kept (kept_drew (kept_alloc _ _)) (by omega), fun _ => hd.oc.kept (kept_drew (kept_alloc _ _)) (by omega), kept_drew (Kept.refl _ _ _)⟩
  have hci := hd.blk.ne_ch hd.ic
  have hco := hd.blk.ne_ch hd.oc
  have hcc := hd.ic.ne hd.oc (by decide)
  obtain ⟨_, _, _, b1, b2, i1, i2, o1, o2⟩ := hd
  go_enter Try.func49, Try.ntmps49
  go_upto_region 1 with fail
  obtain ⟨X, hX⟩ : ∃ X : World, X = w.alloc (.cells #[.int .i64 0, .int .i64 0, .bool false, .slice none 0 0, .slice none 0 0, .int .i64 0] 24) := ⟨_, rfl⟩
  have nX : X.heap.size = w.heap.size + 1 := by rw [hX]; simp
  rw [← hX] at K0 M0 R0 ⊢
  clear hX
  refine wp_region_inv (fun l A W => ∃ s3 s4 s5 s6 s7 s8 s9 s10 s11 s12 s13 s14 s15 s16 s17 s18 s19 s20 s21 s22 s23 s24 s25 s26 s27 s28 s29 : Value, A = ⟨#[.pointer (some ⟨B, 0, none⟩), undef, .pointer (some ⟨w.heap.size, 0, none⟩), s3, s4, s5, s6, s7, s8, s9, s10, s11, s12, s13, s14, s15, s16, s17, s18, s19, s20, s21, s22, s23, s24, s25, s26, s27, s28, s29], []⟩ ∧ Once l 0 (s3 = .pointer (some ⟨B, 0, none⟩)) ∧ Once l 1 (s4 = .pointer (some ⟨B, 0, none⟩)) ∧ Once l 2 (s5 = .pointer (some ⟨B, 0, none⟩)) ∧ Once l 3 (s6 = .int .i64 d.e) ∧ Once l 4 (s7 = .pointer (some ⟨B, 0, none⟩)) ∧ Once l 5 (s8 = .pointer (some ⟨B, 0, none⟩)) ∧ Once l 6 (s9 = .pointer (some ⟨B, 1, none⟩)) ∧ Once l 7 (s10 = .int .i64 d.l) ∧ Once l 8 (s11 = .pointer (some ⟨B, 0, none⟩)) ∧ Once l 9 (s12 = .pointer (some ⟨B, 0, none⟩)) ∧ Once l 10 (s13 = .pointer (some ⟨B, 2, none⟩)) ∧ Once l 11 (s14 = .bool d.r) ∧ Once l 12 (s15 = .pointer (some ⟨B, 0, none⟩)) ∧ Once l 13 (s16 = .pointer (some ⟨B, 0, none⟩)) ∧ Once l 14 (s17 = .pointer (some ⟨B, 3, none⟩)) ∧ Once l 15 (s18 = .chan (some ci)) ∧ Once l 16 (RowV W s19 d.xs (w.heap.size + 1)) ∧ Once l 17 (s20 = .pointer (some ⟨B, 0, none⟩)) ∧ Once l 18 (s21 = .pointer (some ⟨B, 0, none⟩)) ∧ Once l 19 (s22 = .pointer (some ⟨B, 4, none⟩)) ∧ Once l 20 (s23 = .chan (some co)) ∧ Once l 21 (l.getD 16 true = true ∧ RowV W s24 d.ys (w.heap.size + 1) ∧ s19.ownBlock ≠ s24.ownBlock) ∧ Once l 22 (s25 = .pointer (some ⟨B, 0, none⟩)) ∧ Once l 23 (s26 = .pointer (some ⟨B, 0, none⟩)) ∧ Once l 24 (s27 = .pointer (some ⟨B, 5, none⟩)) ∧ Once l 25 (s28 = .int .i64 d.t) ∧ Once l 26 (l.getD 16 true = true ∧ l.getD 21 true = true ∧ s29 = .agg #[.int .i64 d.e, .int .i64 d.l, .bool d.r, s19, s24, .int .i64 d.t]) ∧ (l.getD 27 true = false → DMid X W lo hi B ci co d (l.getD 16 true) (l.getD 21 true)) ∧ Once l 27 ((∀ j, j < 28 → l.getD j true = true) ∧ DFin w W lo hi d)) (by kernel_rfl) (by kernel_rfl) ?start ?fin ?step
  case start => exact ⟨_, _, _, _, _, _, _, _, _, _, _, _, _, _, _, _, _, _, _, _, _, _, _, _, _, _, _, rfl, once_start (by decide), once_start (by decide), once_start (by decide), once_start (by decide), once_start (by decide), once_start (by decide), once_start (by decide), once_start (by decide), once_start (by decide), once_start (by decide), once_start (by decide), once_start (by decide), once_start (by decide), once_start (by decide), once_start (by decide), once_start (by decide), once_start (by decide), once_start (by decide), once_start (by decide), once_start (by decide), once_start (by decide), once_start (by decide), once_start (by decide), once_start (by decide), once_start (by decide), once_start (by decide), once_start (by decide), fun _ => by rw [start_at (by decide), start_at (by decide)]; exact M0.out, once_start (by decide)⟩
  case fin =>
    intro l A W h hl
    obtain ⟨s3, s4, s5, s6, s7, s8, s9, s10, s11, s12, s13, s14, s15, s16, s17, s18, s19, s20, s21, s22, s23, s24, s25, s26, s27, s28, s29, rfl, o0, o1, o2, o3, o4, o5, o6, o7, o8, o9, o10, o11, o12, o13, o14, o15, o16, o17, o18, o19, o20, o21, o22, o23, o24, o25, o26, hK, hF⟩ := h
    have hl2 := hF (hl 27 (by decide))
    obtain ⟨_, g1, g2, hB, hr1, hr2, hne, hk⟩ := hl2
    clear hl hK o0 o1 o2 o3 o4 o5 o6 o7 o8 o9 o10 o11 o12 o13 o14 o15 o16 o17 o18 o19 o20 o21 o22 o23 o24 o25 o26 hF
    have x0 := hB.cell (i := 0) rfl
    have x1 := hB.cell (i := 1) rfl
    have x2 := hB.cell (i := 2) rfl
    have x3 := hB.cell (i := 3) rfl
    have x4 := hB.cell (i := 4) rfl
    have x5 := hB.cell (i := 5) rfl
    clear hB
    obtain ⟨q1, e1, hr1⟩ := hr1
    obtain ⟨q2, e2, hr2⟩ := hr2
    cases e1
    cases e2
    go_wp2
    refine bodyPost_ret (v := .agg #[.int .i64 d.e, .int .i64 d.l, .bool d.r, .slice (some ⟨g1, 0, none⟩) d.xs.length d.xs.length, .slice (some ⟨g2, 0, none⟩) d.ys.length d.ys.length, .int .i64 d.t]) ?_ rfl ⟨_, _, _, _, rfl, ⟨(slot_of_row hr1).wide (by omega) (Nat.le_refl _), (slot_of_row hr2).wide (by omega) (Nat.le_refl _), ?_, Nat.le_refl _⟩, hk⟩
    · rw [results_one rfl]; go_simp
    · intro g h1 h2
      simp [blk] at h1 h2
      omega
  case step =>
    intro l A W i hI hm
    obtain ⟨s3, s4, s5, s6, s7, s8, s9, s10, s11, s12, s13, s14, s15, s16, s17, s18, s19, s20, s21, s22, s23, s24, s25, s26, s27, s28, s29, rfl, o0, o1, o2, o3, o4, o5, o6, o7, o8, o9, o10, o11, o12, o13, o14, o15, o16, o17, o18, o19, o20, o21, o22, o23, o24, o25, o26, hK, hF⟩ := hI
    obtain ⟨hi1, hi2⟩ := ready_new hm
    have h15 : l.getD 27 true = false := by
      cases e : l.getD 27 true
      · rfl
      · have := (hF e).1 i hi1
        rw [hi2] at this
        cases this
    have HM := hide (hK h15)
    have hF2 : ∀ j, j ≠ 27 → ∀ {p : Prop}, Once (l.setIfInBounds j true) 27 p := fun j hj p e => by rw [getD_set_ne (Ne.symm hj), h15] at e; cases e
    clear hK hF
    rcases i with _ | _ | _ | _ | _ | _ | _ | _ | _ | _ | _ | _ | _ | _ | _ | _ | _ | _ | _ | _ | _ | _ | _ | _ | _ | _ | _ | _ | i
    · refine wpOp_step rfl (fun K hK2 => ?_)
      go_simp
      exact hK2 _ _ ⟨_, _, _, _, _, _, _, _, _, _, _, _, _, _, _, _, _, _, _, _, _, _, _, _, _, _, _, rfl, .now rfl, o1.past (by decide) id, o2.past (by decide) id, o3.past (by decide) id, o4.past (by decide) id, o5.past (by decide) id, o6.past (by decide) id, o7.past (by decide) id, o8.past (by decide) id, o9.past (by decide) id, o10.past (by decide) id, o11.past (by decide) id, o12.past (by decide) id, o13.past (by decide) id, o14.past (by decide) id, o15.past (by decide) id, o16.past (by decide) id, o17.past (by decide) id, o18.past (by decide) id, o19.past (by decide) id, o20.past (by decide) id, o21.past (by decide) (fun h => ⟨getD_mono h.1, h.2⟩), o22.past (by decide) id, o23.past (by decide) id, o24.past (by decide) id, o25.past (by decide) id, o26.past (by decide) (fun h => ⟨getD_mono h.1, getD_mono h.2.1, h.2.2⟩), fun _ => by rw [getD_set_ne (by decide), getD_set_ne (by decide)]; exact HM.out, hF2 _ (by decide)⟩
    · have e0 := o0 (ready_dep hm 0 (by kernel_rfl))
      subst e0
      refine wpOp_step rfl (fun K hK2 => ?_)
      go_simp
      exact hK2 _ _ ⟨_, _, _, _, _, _, _, _, _, _, _, _, _, _, _, _, _, _, _, _, _, _, _, _, _, _, _, rfl, o0.past (by decide) id, .now rfl, o2.past (by decide) id, o3.past (by decide) id, o4.past (by decide) id, o5.past (by decide) id, o6.past (by decide) id, o7.past (by decide) id, o8.past (by decide) id, o9.past (by decide) id, o10.past (by decide) id, o11.past (by decide) id, o12.past (by decide) id, o13.past (by decide) id, o14.past (by decide) id, o15.past (by decide) id, o16.past (by decide) id, o17.past (by decide) id, o18.past (by decide) id, o19.past (by decide) id, o20.past (by decide) id, o21.past (by decide) (fun h => ⟨getD_mono h.1, h.2⟩), o22.past (by decide) id, o23.past (by decide) id, o24.past (by decide) id, o25.past (by decide) id, o26.past (by decide) (fun h => ⟨getD_mono h.1, getD_mono h.2.1, h.2.2⟩), fun _ => by rw [getD_set_ne (by decide), getD_set_ne (by decide)]; exact HM.out, hF2 _ (by decide)⟩
    · have e1 := o1 (ready_dep hm 1 (by kernel_rfl))
      subst e1
      refine wpOp_step rfl (fun K hK2 => ?_)
      go_simp
      exact hK2 _ _ ⟨_, _, _, _, _, _, _, _, _, _, _, _, _, _, _, _, _, _, _, _, _, _, _, _, _, _, _, rfl, o0.past (by decide) id, o1.past (by decide) id, .now rfl, o3.past (by decide) id, o4.past (by decide) id, o5.past (by decide) id, o6.past (by decide) id, o7.past (by decide) id, o8.past (by decide) id, o9.past (by decide) id, o10.past (by decide) id, o11.past (by decide) id, o12.past (by decide) id, o13.past (by decide) id, o14.past (by decide) id, o15.past (by decide) id, o16.past (by decide) id, o17.past (by decide) id, o18.past (by decide) id, o19.past (by decide) id, o20.past (by decide) id, o21.past (by decide) (fun h => ⟨getD_mono h.1, h.2⟩), o22.past (by decide) id, o23.past (by decide) id, o24.past (by decide) id, o25.past (by decide) id, o26.past (by decide) (fun h => ⟨getD_mono h.1, getD_mono h.2.1, h.2.2⟩), fun _ => by rw [getD_set_ne (by decide), getD_set_ne (by decide)]; exact HM.out, hF2 _ (by decide)⟩
    · have e2 := o2 (ready_dep hm 2 (by kernel_rfl))
      subst e2
      have x := HM.out.blk.cell (i := 0) rfl
      refine wpOp_step rfl (fun K hK2 => ?_)
      go_simp
      exact hK2 _ _ ⟨_, _, _, _, _, _, _, _, _, _, _, _, _, _, _, _, _, _, _, _, _, _, _, _, _, _, _, rfl, o0.past (by decide) id, o1.past (by decide) id, o2.past (by decide) id, .now rfl, o4.past (by decide) id, o5.past (by decide) id, o6.past (by decide) id, o7.past (by decide) id, o8.past (by decide) id, o9.past (by decide) id, o10.past (by decide) id, o11.past (by decide) id, o12.past (by decide) id, o13.past (by decide) id, o14.past (by decide) id, o15.past (by decide) id, o16.past (by decide) id, o17.past (by decide) id, o18.past (by decide) id, o19.past (by decide) id, o20.past (by decide) id, o21.past (by decide) (fun h => ⟨getD_mono h.1, h.2⟩), o22.past (by decide) id, o23.past (by decide) id, o24.past (by decide) id, o25.past (by decide) id, o26.past (by decide) (fun h => ⟨getD_mono h.1, getD_mono h.2.1, h.2.2⟩), fun _ => by rw [getD_set_ne (by decide), getD_set_ne (by decide)]; exact HM.out, hF2 _ (by decide)⟩
    · refine wpOp_step rfl (fun K hK2 => ?_)
      go_simp
      exact hK2 _ _ ⟨_, _, _, _, _, _, _, _, _, _, _, _, _, _, _, _, _, _, _, _, _, _, _, _, _, _, _, rfl, o0.past (by decide) id, o1.past (by decide) id, o2.past (by decide) id, o3.past (by decide) id, .now rfl, o5.past (by decide) id, o6.past (by decide) id, o7.past (by decide) id, o8.past (by decide) id, o9.past (by decide) id, o10.past (by decide) id, o11.past (by decide) id, o12.past (by decide) id, o13.past (by decide) id, o14.past (by decide) id, o15.past (by decide) id, o16.past (by decide) id, o17.past (by decide) id, o18.past (by decide) id, o19.past (by decide) id, o20.past (by decide) id, o21.past (by decide) (fun h => ⟨getD_mono h.1, h.2⟩), o22.past (by decide) id, o23.past (by decide) id, o24.past (by decide) id, o25.past (by decide) id, o26.past (by decide) (fun h => ⟨getD_mono h.1, getD_mono h.2.1, h.2.2⟩), fun _ => by rw [getD_set_ne (by decide), getD_set_ne (by decide)]; exact HM.out, hF2 _ (by decide)⟩
    · have e4 := o4 (ready_dep hm 4 (by kernel_rfl))
      subst e4
      refine wpOp_step rfl (fun K hK2 => ?_)
      go_simp
      exact hK2 _ _ ⟨_, _, _, _, _, _, _, _, _, _, _, _, _, _, _, _, _, _, _, _, _, _, _, _, _, _, _, rfl, o0.past (by decide) id, o1.past (by decide) id, o2.past (by decide) id, o3.past (by decide) id, o4.past (by decide) id, .now rfl, o6.past (by decide) id, o7.past (by decide) id, o8.past (by decide) id, o9.past (by decide) id, o10.past (by decide) id, o11.past (by decide) id, o12.past (by decide) id, o13.past (by decide) id, o14.past (by decide) id, o15.past (by decide) id, o16.past (by decide) id, o17.past (by decide) id, o18.past (by decide) id, o19.past (by decide) id, o20.past (by decide) id, o21.past (by decide) (fun h => ⟨getD_mono h.1, h.2⟩), o22.past (by decide) id, o23.past (by decide) id, o24.past (by decide) id, o25.past (by decide) id, o26.past (by decide) (fun h => ⟨getD_mono h.1, getD_mono h.2.1, h.2.2⟩), fun _ => by rw [getD_set_ne (by decide), getD_set_ne (by decide)]; exact HM.out, hF2 _ (by decide)⟩
    · have e5 := o5 (ready_dep hm 5 (by kernel_rfl))
      subst e5
      refine wpOp_step rfl (fun K hK2 => ?_)
      go_simp
      exact hK2 _ _ ⟨_, _, _, _, _, _, _, _, _, _, _, _, _, _, _, _, _, _, _, _, _, _, _, _, _, _, _, rfl, o0.past (by decide) id, o1.past (by decide) id, o2.past (by decide) id, o3.past (by decide) id, o4.past (by decide) id, o5.past (by decide) id, .now rfl, o7.past (by decide) id, o8.past (by decide) id, o9.past (by decide) id, o10.past (by decide) id, o11.past (by decide) id, o12.past (by decide) id, o13.past (by decide) id, o14.past (by decide) id, o15.past (by decide) id, o16.past (by decide) id, o17.past (by decide) id, o18.past (by decide) id, o19.past (by decide) id, o20.past (by decide) id, o21.past (by decide) (fun h => ⟨getD_mono h.1, h.2⟩), o22.past (by decide) id, o23.past (by decide) id, o24.past (by decide) id, o25.past (by decide) id, o26.past (by decide) (fun h => ⟨getD_mono h.1, getD_mono h.2.1, h.2.2⟩), fun _ => by rw [getD_set_ne (by decide), getD_set_ne (by decide)]; exact HM.out, hF2 _ (by decide)⟩
    · have e6 := o6 (ready_dep hm 6 (by kernel_rfl))
      subst e6
      have x := HM.out.blk.cell (i := 1) rfl
      refine wpOp_step rfl (fun K hK2 => ?_)
      go_simp
      exact hK2 _ _ ⟨_, _, _, _, _, _, _, _, _, _, _, _, _, _, _, _, _, _, _, _, _, _, _, _, _, _, _, rfl, o0.past (by decide) id, o1.past (by decide) id, o2.past (by decide) id, o3.past (by decide) id, o4.past (by decide) id, o5.past (by decide) id, o6.past (by decide) id, .now rfl, o8.past (by decide) id, o9.past (by decide) id, o10.past (by decide) id, o11.past (by decide) id, o12.past (by decide) id, o13.past (by decide) id, o14.past (by decide) id, o15.past (by decide) id, o16.past (by decide) id, o17.past (by decide) id, o18.past (by decide) id, o19.past (by decide) id, o20.past (by decide) id, o21.past (by decide) (fun h => ⟨getD_mono h.1, h.2⟩), o22.past (by decide) id, o23.past (by decide) id, o24.past (by decide) id, o25.past (by decide) id, o26.past (by decide) (fun h => ⟨getD_mono h.1, getD_mono h.2.1, h.2.2⟩), fun _ => by rw [getD_set_ne (by decide), getD_set_ne (by decide)]; exact HM.out, hF2 _ (by decide)⟩
    · refine wpOp_step rfl (fun K hK2 => ?_)
      go_simp
      exact hK2 _ _ ⟨_, _, _, _, _, _, _, _, _, _, _, _, _, _, _, _, _, _, _, _, _, _, _, _, _, _, _, rfl, o0.past (by decide) id, o1.past (by decide) id, o2.past (by decide) id, o3.past (by decide) id, o4.past (by decide) id, o5.past (by decide) id, o6.past (by decide) id, o7.past (by decide) id, .now rfl, o9.past (by decide) id, o10.past (by decide) id, o11.past (by decide) id, o12.past (by decide) id, o13.past (by decide) id, o14.past (by decide) id, o15.past (by decide) id, o16.past (by decide) id, o17.past (by decide) id, o18.past (by decide) id, o19.past (by decide) id, o20.past (by decide) id, o21.past (by decide) (fun h => ⟨getD_mono h.1, h.2⟩), o22.past (by decide) id, o23.past (by decide) id, o24.past (by decide) id, o25.past (by decide) id, o26.past (by decide) (fun h => ⟨getD_mono h.1, getD_mono h.2.1, h.2.2⟩), fun _ => by rw [getD_set_ne (by decide), getD_set_ne (by decide)]; exact HM.out, hF2 _ (by decide)⟩
    · have e8 := o8 (ready_dep hm 8 (by kernel_rfl))
      subst e8
      refine wpOp_step rfl (fun K hK2 => ?_)
      go_simp
      exact hK2 _ _ ⟨_, _, _, _, _, _, _, _, _, _, _, _, _, _, _, _, _, _, _, _, _, _, _, _, _, _, _, rfl, o0.past (by decide) id, o1.past (by decide) id, o2.past (by decide) id, o3.past (by decide) id, o4.past (by decide) id, o5.past (by decide) id, o6.past (by decide) id, o7.past (by decide) id, o8.past (by decide) id, .now rfl, o10.past (by decide) id, o11.past (by decide) id, o12.past (by decide) id, o13.past (by decide) id, o14.past (by decide) id, o15.past (by decide) id, o16.past (by decide) id, o17.past (by decide) id, o18.past (by decide) id, o19.past (by decide) id, o20.past (by decide) id, o21.past (by decide) (fun h => ⟨getD_mono h.1, h.2⟩), o22.past (by decide) id, o23.past (by decide) id, o24.past (by decide) id, o25.past (by decide) id, o26.past (by decide) (fun h => ⟨getD_mono h.1, getD_mono h.2.1, h.2.2⟩), fun _ => by rw [getD_set_ne (by decide), getD_set_ne (by decide)]; exact HM.out, hF2 _ (by decide)⟩
    · have e9 := o9 (ready_dep hm 9 (by kernel_rfl))
      subst e9
      refine wpOp_step rfl (fun K hK2 => ?_)
      go_simp
      exact hK2 _ _ ⟨_, _, _, _, _, _, _, _, _, _, _, _, _, _, _, _, _, _, _, _, _, _, _, _, _, _, _, rfl, o0.past (by decide) id, o1.past (by decide) id, o2.past (by decide) id, o3.past (by decide) id, o4.past (by decide) id, o5.past (by decide) id, o6.past (by decide) id, o7.past (by decide) id, o8.past (by decide) id, o9.past (by decide) id, .now rfl, o11.past (by decide) id, o12.past (by decide) id, o13.past (by decide) id, o14.past (by decide) id, o15.past (by decide) id, o16.past (by decide) id, o17.past (by decide) id, o18.past (by decide) id, o19.past (by decide) id, o20.past (by decide) id, o21.past (by decide) (fun h => ⟨getD_mono h.1, h.2⟩), o22.past (by decide) id, o23.past (by decide) id, o24.past (by decide) id, o25.past (by decide) id, o26.past (by decide) (fun h => ⟨getD_mono h.1, getD_mono h.2.1, h.2.2⟩), fun _ => by rw [getD_set_ne (by decide), getD_set_ne (by decide)]; exact HM.out, hF2 _ (by decide)⟩
    · have e10 := o10 (ready_dep hm 10 (by kernel_rfl))
      subst e10
      have x := HM.out.blk.cell (i := 2) rfl
      refine wpOp_step rfl (fun K hK2 => ?_)
      go_simp
      exact hK2 _ _ ⟨_, _, _, _, _, _, _, _, _, _, _, _, _, _, _, _, _, _, _, _, _, _, _, _, _, _, _, rfl, o0.past (by decide) id, o1.past (by decide) id, o2.past (by decide) id, o3.past (by decide) id, o4.past (by decide) id, o5.past (by decide) id, o6.past (by decide) id, o7.past (by decide) id, o8.past (by decide) id, o9.past (by decide) id, o10.past (by decide) id, .now rfl, o12.past (by decide) id, o13.past (by decide) id, o14.past (by decide) id, o15.past (by decide) id, o16.past (by decide) id, o17.past (by decide) id, o18.past (by decide) id, o19.past (by decide) id, o20.past (by decide) id, o21.past (by decide) (fun h => ⟨getD_mono h.1, h.2⟩), o22.past (by decide) id, o23.past (by decide) id, o24.past (by decide) id, o25.past (by decide) id, o26.past (by decide) (fun h => ⟨getD_mono h.1, getD_mono h.2.1, h.2.2⟩), fun _ => by rw [getD_set_ne (by decide), getD_set_ne (by decide)]; exact HM.out, hF2 _ (by decide)⟩
    · refine wpOp_step rfl (fun K hK2 => ?_)
      go_simp
      exact hK2 _ _ ⟨_, _, _, _, _, _, _, _, _, _, _, _, _, _, _, _, _, _, _, _, _, _, _, _, _, _, _, rfl, o0.past (by decide) id, o1.past (by decide) id, o2.past (by decide) id, o3.past (by decide) id, o4.past (by decide) id, o5.past (by decide) id, o6.past (by decide) id, o7.past (by decide) id, o8.past (by decide) id, o9.past (by decide) id, o10.past (by decide) id, o11.past (by decide) id, .now rfl, o13.past (by decide) id, o14.past (by decide) id, o15.past (by decide) id, o16.past (by decide) id, o17.past (by decide) id, o18.past (by decide) id, o19.past (by decide) id, o20.past (by decide) id, o21.past (by decide) (fun h => ⟨getD_mono h.1, h.2⟩), o22.past (by decide) id, o23.past (by decide) id, o24.past (by decide) id, o25.past (by decide) id, o26.past (by decide) (fun h => ⟨getD_mono h.1, getD_mono h.2.1, h.2.2⟩), fun _ => by rw [getD_set_ne (by decide), getD_set_ne (by decide)]; exact HM.out, hF2 _ (by decide)⟩
    · have e12 := o12 (ready_dep hm 12 (by kernel_rfl))
      subst e12
      refine wpOp_step rfl (fun K hK2 => ?_)
      go_simp
      exact hK2 _ _ ⟨_, _, _, _, _, _, _, _, _, _, _, _, _, _, _, _, _, _, _, _, _, _, _, _, _, _, _, rfl, o0.past (by decide) id, o1.past (by decide) id, o2.past (by decide) id, o3.past (by decide) id, o4.past (by decide) id, o5.past (by decide) id, o6.past (by decide) id, o7.past (by decide) id, o8.past (by decide) id, o9.past (by decide) id, o10.past (by decide) id, o11.past (by decide) id, o12.past (by decide) id, .now rfl, o14.past (by decide) id, o15.past (by decide) id, o16.past (by decide) id, o17.past (by decide) id, o18.past (by decide) id, o19.past (by decide) id, o20.past (by decide) id, o21.past (by decide) (fun h => ⟨getD_mono h.1, h.2⟩), o22.past (by decide) id, o23.past (by decide) id, o24.past (by decide) id, o25.past (by decide) id, o26.past (by decide) (fun h => ⟨getD_mono h.1, getD_mono h.2.1, h.2.2⟩), fun _ => by rw [getD_set_ne (by decide), getD_set_ne (by decide)]; exact HM.out, hF2 _ (by decide)⟩
    · have e13 := o13 (ready_dep hm 13 (by kernel_rfl))
      subst e13
      refine wpOp_step rfl (fun K hK2 => ?_)
      go_simp
      exact hK2 _ _ ⟨_, _, _, _, _, _, _, _, _, _, _, _, _, _, _, _, _, _, _, _, _, _, _, _, _, _, _, rfl, o0.past (by decide) id, o1.past (by decide) id, o2.past (by decide) id, o3.past (by decide) id, o4.past (by decide) id, o5.past (by decide) id, o6.past (by decide) id, o7.past (by decide) id, o8.past (by decide) id, o9.past (by decide) id, o10.past (by decide) id, o11.past (by decide) id, o12.past (by decide) id, o13.past (by decide) id, .now rfl, o15.past (by decide) id, o16.past (by decide) id, o17.past (by decide) id, o18.past (by decide) id, o19.past (by decide) id, o20.past (by decide) id, o21.past (by decide) (fun h => ⟨getD_mono h.1, h.2⟩), o22.past (by decide) id, o23.past (by decide) id, o24.past (by decide) id, o25.past (by decide) id, o26.past (by decide) (fun h => ⟨getD_mono h.1, getD_mono h.2.1, h.2.2⟩), fun _ => by rw [getD_set_ne (by decide), getD_set_ne (by decide)]; exact HM.out, hF2 _ (by decide)⟩
    · have e14 := o14 (ready_dep hm 14 (by kernel_rfl))
      subst e14
      have x := HM.out.blk.cell (i := 3) rfl
      refine wpOp_step rfl (fun K hK2 => ?_)
      go_simp
      exact hK2 _ _ ⟨_, _, _, _, _, _, _, _, _, _, _, _, _, _, _, _, _, _, _, _, _, _, _, _, _, _, _, rfl, o0.past (by decide) id, o1.past (by decide) id, o2.past (by decide) id, o3.past (by decide) id, o4.past (by decide) id, o5.past (by decide) id, o6.past (by decide) id, o7.past (by decide) id, o8.past (by decide) id, o9.past (by decide) id, o10.past (by decide) id, o11.past (by decide) id, o12.past (by decide) id, o13.past (by decide) id, o14.past (by decide) id, .now rfl, o16.past (by decide) id, o17.past (by decide) id, o18.past (by decide) id, o19.past (by decide) id, o20.past (by decide) id, o21.past (by decide) (fun h => ⟨getD_mono h.1, h.2⟩), o22.past (by decide) id, o23.past (by decide) id, o24.past (by decide) id, o25.past (by decide) id, o26.past (by decide) (fun h => ⟨getD_mono h.1, getD_mono h.2.1, h.2.2⟩), fun _ => by rw [getD_set_ne (by decide), getD_set_ne (by decide)]; exact HM.out, hF2 _ (by decide)⟩
    · have e15 := o15 (ready_dep hm 15 (by kernel_rfl))
      subst e15
      refine wpOp_step rfl (fun K hK2 => ?_)
      go_simp
      refine (fifoDrain W ci 4 d.xs (HM.out.ic hi2) (by omega)).mono ?_
      rintro e y ⟨rfl, hO, hC, hKy⟩
      have nW := HM.out.kept.size
      have hV : RowV y (.slice (some ⟨W.heap.size, 0, none⟩) d.xs.length d.xs.length) d.xs (w.heap.size + 1) := ⟨_, rfl, own_base hO (by omega)⟩
      have hM : DMid X y lo hi B ci co d true (l.getD 21 true) := ⟨HM.out.blk.kept hKy (by omega), fun e => (by cases e), fun e => (HM.out.oc e).kept hKy (by omega), HM.out.kept.trans (hKy.wide (by omega))⟩
      go_simp
      exact hK2 _ _ ⟨_, _, _, _, _, _, _, _, _, _, _, _, _, _, _, _, _, _, _, _, _, _, _, _, _, _, _, rfl, o0.past (by decide) id, o1.past (by decide) id, o2.past (by decide) id, o3.past (by decide) id, o4.past (by decide) id, o5.past (by decide) id, o6.past (by decide) id, o7.past (by decide) id, o8.past (by decide) id, o9.past (by decide) id, o10.past (by decide) id, o11.past (by decide) id, o12.past (by decide) id, o13.past (by decide) id, o14.past (by decide) id, o15.past (by decide) id, .now hV, o17.past (by decide) id, o18.past (by decide) id, o19.past (by decide) id, o20.past (by decide) id, o21.past (by decide) (fun h => by have h2 := h.1; rw [hi2] at h2; cases h2), o22.past (by decide) id, o23.past (by decide) id, o24.past (by decide) id, o25.past (by decide) id, o26.past (by decide) (fun h => by have h2 := h.1; rw [hi2] at h2; cases h2), fun _ => by rw [getD_set_eq, getD_set_ne (by decide)]; exact hM, hF2 _ (by decide)⟩
    · refine wpOp_step rfl (fun K hK2 => ?_)
      go_simp
      exact hK2 _ _ ⟨_, _, _, _, _, _, _, _, _, _, _, _, _, _, _, _, _, _, _, _, _, _, _, _, _, _, _, rfl, o0.past (by decide) id, o1.past (by decide) id, o2.past (by decide) id, o3.past (by decide) id, o4.past (by decide) id, o5.past (by decide) id, o6.past (by decide) id, o7.past (by decide) id, o8.past (by decide) id, o9.past (by decide) id, o10.past (by decide) id, o11.past (by decide) id, o12.past (by decide) id, o13.past (by decide) id, o14.past (by decide) id, o15.past (by decide) id, o16.past (by decide) id, .now rfl, o18.past (by decide) id, o19.past (by decide) id, o20.past (by decide) id, o21.past (by decide) (fun h => ⟨getD_mono h.1, h.2⟩), o22.past (by decide) id, o23.past (by decide) id, o24.past (by decide) id, o25.past (by decide) id, o26.past (by decide) (fun h => ⟨getD_mono h.1, getD_mono h.2.1, h.2.2⟩), fun _ => by rw [getD_set_ne (by decide), getD_set_ne (by decide)]; exact HM.out, hF2 _ (by decide)⟩
    · have e17 := o17 (ready_dep hm 17 (by kernel_rfl))
      subst e17
      refine wpOp_step rfl (fun K hK2 => ?_)
      go_simp
      exact hK2 _ _ ⟨_, _, _, _, _, _, _, _, _, _, _, _, _, _, _, _, _, _, _, _, _, _, _, _, _, _, _, rfl, o0.past (by decide) id, o1.past (by decide) id, o2.past (by decide) id, o3.past (by decide) id, o4.past (by decide) id, o5.past (by decide) id, o6.past (by decide) id, o7.past (by decide) id, o8.past (by decide) id, o9.past (by decide) id, o10.past (by decide) id, o11.past (by decide) id, o12.past (by decide) id, o13.past (by decide) id, o14.past (by decide) id, o15.past (by decide) id, o16.past (by decide) id, o17.past (by decide) id, .now rfl, o19.past (by decide) id, o20.past (by decide) id, o21.past (by decide) (fun h => ⟨getD_mono h.1, h.2⟩), o22.past (by decide) id, o23.past (by decide) id, o24.past (by decide) id, o25.past (by decide) id, o26.past (by decide) (fun h => ⟨getD_mono h.1, getD_mono h.2.1, h.2.2⟩), fun _ => by rw [getD_set_ne (by decide), getD_set_ne (by decide)]; exact HM.out, hF2 _ (by decide)⟩
    · have e18 := o18 (ready_dep hm 18 (by kernel_rfl))
      subst e18
      refine wpOp_step rfl (fun K hK2 => ?_)
      go_simp
      exact hK2 _ _ ⟨_, _, _, _, _, _, _, _, _, _, _, _, _, _, _, _, _, _, _, _, _, _, _, _, _, _, _, rfl, o0.past (by decide) id, o1.past (by decide) id, o2.past (by decide) id, o3.past (by decide) id, o4.past (by decide) id, o5.past (by decide) id, o6.past (by decide) id, o7.past (by decide) id, o8.past (by decide) id, o9.past (by decide) id, o10.past (by decide) id, o11.past (by decide) id, o12.past (by decide) id, o13.past (by decide) id, o14.past (by decide) id, o15.past (by decide) id, o16.past (by decide) id, o17.past (by decide) id, o18.past (by decide) id, .now rfl, o20.past (by decide) id, o21.past (by decide) (fun h => ⟨getD_mono h.1, h.2⟩), o22.past (by decide) id, o23.past (by decide) id, o24.past (by decide) id, o25.past (by decide) id, o26.past (by decide) (fun h => ⟨getD_mono h.1, getD_mono h.2.1, h.2.2⟩), fun _ => by rw [getD_set_ne (by decide), getD_set_ne (by decide)]; exact HM.out, hF2 _ (by decide)⟩
    · have e19 := o19 (ready_dep hm 19 (by kernel_rfl))
      subst e19
      have x := HM.out.blk.cell (i := 4) rfl
      refine wpOp_step rfl (fun K hK2 => ?_)
      go_simp
      exact hK2 _ _ ⟨_, _, _, _, _, _, _, _, _, _, _, _, _, _, _, _, _, _, _, _, _, _, _, _, _, _, _, rfl, o0.past (by decide) id, o1.past (by decide) id, o2.past (by decide) id, o3.past (by decide) id, o4.past (by decide) id, o5.past (by decide) id, o6.past (by decide) id, o7.past (by decide) id, o8.past (by decide) id, o9.past (by decide) id, o10.past (by decide) id, o11.past (by decide) id, o12.past (by decide) id, o13.past (by decide) id, o14.past (by decide) id, o15.past (by decide) id, o16.past (by decide) id, o17.past (by decide) id, o18.past (by decide) id, o19.past (by decide) id, .now rfl, o21.past (by decide) (fun h => ⟨getD_mono h.1, h.2⟩), o22.past (by decide) id, o23.past (by decide) id, o24.past (by decide) id, o25.past (by decide) id, o26.past (by decide) (fun h => ⟨getD_mono h.1, getD_mono h.2.1, h.2.2⟩), fun _ => by rw [getD_set_ne (by decide), getD_set_ne (by decide)]; exact HM.out, hF2 _ (by decide)⟩
    · have e20 := o20 (ready_dep hm 20 (by kernel_rfl))
      subst e20
      have v3 := o16 (ready_dep hm 16 (by kernel_rfl))
      have l3 := ready_dep hm 16 (by kernel_rfl)
      obtain ⟨g3, rfl, q3⟩ := v3
      refine wpOp_step rfl (fun K hK2 => ?_)
      go_simp
      refine (fifoDrain W co 200 d.ys (HM.out.oc hi2) (by omega)).mono ?_
      rintro e y ⟨rfl, hO, hC, hKy⟩
      have nW := HM.out.kept.size
      have n3 := (q3.lt g3 rfl).2
      have hV3 : RowV y (.slice (some ⟨g3, 0, none⟩) d.xs.length d.xs.length) d.xs (w.heap.size + 1) := RowV.by ⟨g3, rfl, q3⟩ hKy (by omega)
      have hV : (l.setIfInBounds 21 true).getD 16 true = true ∧ RowV y (.slice (some ⟨W.heap.size, 0, none⟩) d.ys.length d.ys.length) d.ys (w.heap.size + 1) ∧ (Value.slice (some ⟨g3, 0, none⟩) d.xs.length d.xs.length).ownBlock ≠ (Value.slice (some ⟨W.heap.size, 0, none⟩) d.ys.length d.ys.length).ownBlock := ⟨getD_mono l3, ⟨_, rfl, own_base hO (by omega)⟩, fun e => by have h3 : g3 = W.heap.size := Option.some.inj e; omega⟩
      have hM : DMid X y lo hi B ci co d (l.getD 16 true) true := ⟨HM.out.blk.kept hKy (by omega), fun e => (HM.out.ic e).kept hKy (by omega), fun e => (by cases e), HM.out.kept.trans (hKy.wide (by omega))⟩
      go_simp
      exact hK2 _ _ ⟨_, _, _, _, _, _, _, _, _, _, _, _, _, _, _, _, _, _, _, _, _, _, _, _, _, _, _, rfl, o0.past (by decide) id, o1.past (by decide) id, o2.past (by decide) id, o3.past (by decide) id, o4.past (by decide) id, o5.past (by decide) id, o6.past (by decide) id, o7.past (by decide) id, o8.past (by decide) id, o9.past (by decide) id, o10.past (by decide) id, o11.past (by decide) id, o12.past (by decide) id, o13.past (by decide) id, o14.past (by decide) id, o15.past (by decide) id, .now hV3, o17.past (by decide) id, o18.past (by decide) id, o19.past (by decide) id, o20.past (by decide) id, .now hV, o22.past (by decide) id, o23.past (by decide) id, o24.past (by decide) id, o25.past (by decide) id, o26.past (by decide) (fun h => by have h2 := h.2.1; rw [hi2] at h2; cases h2), fun _ => by rw [getD_set_ne (by decide), getD_set_eq]; exact hM, hF2 _ (by decide)⟩
    · refine wpOp_step rfl (fun K hK2 => ?_)
      go_simp
      exact hK2 _ _ ⟨_, _, _, _, _, _, _, _, _, _, _, _, _, _, _, _, _, _, _, _, _, _, _, _, _, _, _, rfl, o0.past (by decide) id, o1.past (by decide) id, o2.past (by decide) id, o3.past (by decide) id, o4.past (by decide) id, o5.past (by decide) id, o6.past (by decide) id, o7.past (by decide) id, o8.past (by decide) id, o9.past (by decide) id, o10.past (by decide) id, o11.past (by decide) id, o12.past (by decide) id, o13.past (by decide) id, o14.past (by decide) id, o15.past (by decide) id, o16.past (by decide) id, o17.past (by decide) id, o18.past (by decide) id, o19.past (by decide) id, o20.past (by decide) id, o21.past (by decide) (fun h => ⟨getD_mono h.1, h.2⟩), .now rfl, o23.past (by decide) id, o24.past (by decide) id, o25.past (by decide) id, o26.past (by decide) (fun h => ⟨getD_mono h.1, getD_mono h.2.1, h.2.2⟩), fun _ => by rw [getD_set_ne (by decide), getD_set_ne (by decide)]; exact HM.out, hF2 _ (by decide)⟩
    · have e22 := o22 (ready_dep hm 22 (by kernel_rfl))
      subst e22
      refine wpOp_step rfl (fun K hK2 => ?_)
      go_simp
      exact hK2 _ _ ⟨_, _, _, _, _, _, _, _, _, _, _, _, _, _, _, _, _, _, _, _, _, _, _, _, _, _, _, rfl, o0.past (by decide) id, o1.past (by decide) id, o2.past (by decide) id, o3.past (by decide) id, o4.past (by decide) id, o5.past (by decide) id, o6.past (by decide) id, o7.past (by decide) id, o8.past (by decide) id, o9.past (by decide) id, o10.past (by decide) id, o11.past (by decide) id, o12.past (by decide) id, o13.past (by decide) id, o14.past (by decide) id, o15.past (by decide) id, o16.past (by decide) id, o17.past (by decide) id, o18.past (by decide) id, o19.past (by decide) id, o20.past (by decide) id, o21.past (by decide) (fun h => ⟨getD_mono h.1, h.2⟩), o22.past (by decide) id, .now rfl, o24.past (by decide) id, o25.past (by decide) id, o26.past (by decide) (fun h => ⟨getD_mono h.1, getD_mono h.2.1, h.2.2⟩), fun _ => by rw [getD_set_ne (by decide), getD_set_ne (by decide)]; exact HM.out, hF2 _ (by decide)⟩
    · have e23 := o23 (ready_dep hm 23 (by kernel_rfl))
      subst e23
      refine wpOp_step rfl (fun K hK2 => ?_)
      go_simp
      exact hK2 _ _ ⟨_, _, _, _, _, _, _, _, _, _, _, _, _, _, _, _, _, _, _, _, _, _, _, _, _, _, _, rfl, o0.past (by decide) id, o1.past (by decide) id, o2.past (by decide) id, o3.past (by decide) id, o4.past (by decide) id, o5.past (by decide) id, o6.past (by decide) id, o7.past (by decide) id, o8.past (by decide) id, o9.past (by decide) id, o10.past (by decide) id, o11.past (by decide) id, o12.past (by decide) id, o13.past (by decide) id, o14.past (by decide) id, o15.past (by decide) id, o16.past (by decide) id, o17.past (by decide) id, o18.past (by decide) id, o19.past (by decide) id, o20.past (by decide) id, o21.past (by decide) (fun h => ⟨getD_mono h.1, h.2⟩), o22.past (by decide) id, o23.past (by decide) id, .now rfl, o25.past (by decide) id, o26.past (by decide) (fun h => ⟨getD_mono h.1, getD_mono h.2.1, h.2.2⟩), fun _ => by rw [getD_set_ne (by decide), getD_set_ne (by decide)]; exact HM.out, hF2 _ (by decide)⟩
    · have e24 := o24 (ready_dep hm 24 (by kernel_rfl))
      subst e24
      have x := HM.out.blk.cell (i := 5) rfl
      refine wpOp_step rfl (fun K hK2 => ?_)
      go_simp
      exact hK2 _ _ ⟨_, _, _, _, _, _, _, _, _, _, _, _, _, _, _, _, _, _, _, _, _, _, _, _, _, _, _, rfl, o0.past (by decide) id, o1.past (by decide) id, o2.past (by decide) id, o3.past (by decide) id, o4.past (by decide) id, o5.past (by decide) id, o6.past (by decide) id, o7.past (by decide) id, o8.past (by decide) id, o9.past (by decide) id, o10.past (by decide) id, o11.past (by decide) id, o12.past (by decide) id, o13.past (by decide) id, o14.past (by decide) id, o15.past (by decide) id, o16.past (by decide) id, o17.past (by decide) id, o18.past (by decide) id, o19.past (by decide) id, o20.past (by decide) id, o21.past (by decide) (fun h => ⟨getD_mono h.1, h.2⟩), o22.past (by decide) id, o23.past (by decide) id, o24.past (by decide) id, .now rfl, o26.past (by decide) (fun h => ⟨getD_mono h.1, getD_mono h.2.1, h.2.2⟩), fun _ => by rw [getD_set_ne (by decide), getD_set_ne (by decide)]; exact HM.out, hF2 _ (by decide)⟩
    · have e3 := o3 (ready_dep hm 3 (by kernel_rfl))
      have e7 := o7 (ready_dep hm 7 (by kernel_rfl))
      have e11 := o11 (ready_dep hm 11 (by kernel_rfl))
      have e16 := o16 (ready_dep hm 16 (by kernel_rfl))
      have e21 := o21 (ready_dep hm 21 (by kernel_rfl))
      have e25 := o25 (ready_dep hm 25 (by kernel_rfl))
      have v16 := e16
      obtain ⟨g16, rfl, q16⟩ := e16
      have v21 := e21.2.1
      obtain ⟨_, ⟨g21, rfl, q21⟩, hne⟩ := e21
      subst e3
      subst e7
      subst e11
      subst e25
      refine wpOp_step rfl (fun K hK2 => ?_)
      go_simp
      exact hK2 _ _ ⟨_, _, _, _, _, _, _, _, _, _, _, _, _, _, _, _, _, _, _, _, _, _, _, _, _, _, _, rfl, o0.past (by decide) id, o1.past (by decide) id, o2.past (by decide) id, o3.past (by decide) id, o4.past (by decide) id, o5.past (by decide) id, o6.past (by decide) id, o7.past (by decide) id, o8.past (by decide) id, o9.past (by decide) id, o10.past (by decide) id, o11.past (by decide) id, o12.past (by decide) id, o13.past (by decide) id, o14.past (by decide) id, o15.past (by decide) id, o16.past (by decide) id, o17.past (by decide) id, o18.past (by decide) id, o19.past (by decide) id, o20.past (by decide) id, o21.past (by decide) (fun h => ⟨getD_mono h.1, h.2⟩), o22.past (by decide) id, o23.past (by decide) id, o24.past (by decide) id, o25.past (by decide) id, .now ⟨getD_mono (ready_dep hm 16 (by kernel_rfl)), getD_mono (ready_dep hm 21 (by kernel_rfl)), rfl⟩, fun _ => by rw [getD_set_ne (by decide), getD_set_ne (by decide)]; exact HM.out, hF2 _ (by decide)⟩
    · have e16 := o16 (ready_dep hm 16 (by kernel_rfl))
      have e21 := o21 (ready_dep hm 21 (by kernel_rfl))
      have e26 := o26 (ready_dep hm 26 (by kernel_rfl))
      have v16 := e16
      obtain ⟨g16, rfl, q16⟩ := e16
      have v21 := e21.2.1
      obtain ⟨_, ⟨g21, rfl, q21⟩, hne⟩ := e21
      replace e26 := e26.2.2
      subst e26
      have hR := R0.out.kept HM.out.kept (by omega)
      have x0 := hR.cell (i := 0) rfl
      have f0 := hR.frozen 0
      have x1 := hR.cell (i := 1) rfl
      have f1 := hR.frozen 1
      have x2 := hR.cell (i := 2) rfl
      have f2 := hR.frozen 2
      have x3 := hR.cell (i := 3) rfl
      have f3 := hR.frozen 3
      have x4 := hR.cell (i := 4) rfl
      have f4 := hR.frozen 4
      have x5 := hR.cell (i := 5) rfl
      have f5 := hR.frozen 5
      have hall : ∀ j, j < 28 → (l.setIfInBounds 27 true).getD j true = true := by
        intro j hj
        rcases j with _ | _ | _ | _ | _ | _ | _ | _ | _ | _ | _ | _ | _ | _ | _ | _ | _ | _ | _ | _ | _ | _ | _ | _ | _ | _ | _ | _ | j
        · rw [getD_set_ne (by decide)]; exact ready_dep hm 0 (by kernel_rfl)
        · rw [getD_set_ne (by decide)]; exact ready_dep hm 1 (by kernel_rfl)
        · rw [getD_set_ne (by decide)]; exact ready_dep hm 2 (by kernel_rfl)
        · rw [getD_set_ne (by decide)]; exact ready_dep hm 3 (by kernel_rfl)
        · rw [getD_set_ne (by decide)]; exact ready_dep hm 4 (by kernel_rfl)
        · rw [getD_set_ne (by decide)]; exact ready_dep hm 5 (by kernel_rfl)
        · rw [getD_set_ne (by decide)]; exact ready_dep hm 6 (by kernel_rfl)
        · rw [getD_set_ne (by decide)]; exact ready_dep hm 7 (by kernel_rfl)
        · rw [getD_set_ne (by decide)]; exact ready_dep hm 8 (by kernel_rfl)
        · rw [getD_set_ne (by decide)]; exact ready_dep hm 9 (by kernel_rfl)
        · rw [getD_set_ne (by decide)]; exact ready_dep hm 10 (by kernel_rfl)
        · rw [getD_set_ne (by decide)]; exact ready_dep hm 11 (by kernel_rfl)
        · rw [getD_set_ne (by decide)]; exact ready_dep hm 12 (by kernel_rfl)
        · rw [getD_set_ne (by decide)]; exact ready_dep hm 13 (by kernel_rfl)
        · rw [getD_set_ne (by decide)]; exact ready_dep hm 14 (by kernel_rfl)
        · rw [getD_set_ne (by decide)]; exact ready_dep hm 15 (by kernel_rfl)
        · rw [getD_set_ne (by decide)]; exact ready_dep hm 16 (by kernel_rfl)
        · rw [getD_set_ne (by decide)]; exact ready_dep hm 17 (by kernel_rfl)
        · rw [getD_set_ne (by decide)]; exact ready_dep hm 18 (by kernel_rfl)
        · rw [getD_set_ne (by decide)]; exact ready_dep hm 19 (by kernel_rfl)
        · rw [getD_set_ne (by decide)]; exact ready_dep hm 20 (by kernel_rfl)
        · rw [getD_set_ne (by decide)]; exact ready_dep hm 21 (by kernel_rfl)
        · rw [getD_set_ne (by decide)]; exact ready_dep hm 22 (by kernel_rfl)
        · rw [getD_set_ne (by decide)]; exact ready_dep hm 23 (by kernel_rfl)
        · rw [getD_set_ne (by decide)]; exact ready_dep hm 24 (by kernel_rfl)
        · rw [getD_set_ne (by decide)]; exact ready_dep hm 25 (by kernel_rfl)
        · rw [getD_set_ne (by decide)]; exact ready_dep hm 26 (by kernel_rfl)
        · exact getD_set_eq
        · omega
      have hg : g16 ≠ g21 := fun e => hne (by rw [e]; rfl)
      refine wpOp_step rfl (fun K hK2 => ?_)
      go_simp
      refine hK2 _ _ ⟨_, _, _, _, _, _, _, _, _, _, _, _, _, _, _, _, _, _, _, _, _, _, _, _, _, _, _, rfl, o0.past (by decide) id, o1.past (by decide) id, o2.past (by decide) id, o3.past (by decide) id, o4.past (by decide) id, o5.past (by decide) id, o6.past (by decide) id, o7.past (by decide) id, o8.past (by decide) id, o9.past (by decide) id, o10.past (by decide) id, o11.past (by decide) id, o12.past (by decide) id, o13.past (by decide) id, o14.past (by decide) id, o15.past (by decide) id, .now ?_, o17.past (by decide) id, o18.past (by decide) id, o19.past (by decide) id, o20.past (by decide) id, .now ⟨hall 16 (by decide), ?_, hne⟩, o22.past (by decide) id, o23.past (by decide) id, o24.past (by decide) id, o25.past (by decide) id, o26.past (by decide) (fun h => ⟨getD_mono h.1, getD_mono h.2.1, h.2.2⟩), fun e => ?_, fun _ => ⟨hall, g16, g21, ((((((hR.set 0 _).set 1 _).set 2 _).set 3 _).set 4 _).set 5 _), ((((((v16.set _ _ _ (by omega)).set _ _ _ (by omega)).set _ _ _ (by omega)).set _ _ _ (by omega)).set _ _ _ (by omega)).set _ _ _ (by omega)), ((((((v21.set _ _ _ (by omega)).set _ _ _ (by omega)).set _ _ _ (by omega)).set _ _ _ (by omega)).set _ _ _ (by omega)).set _ _ _ (by omega)), hg, (kept_set (kept_set (kept_set (kept_set (kept_set (kept_set (K0.out.any.trans HM.out.kept) _ _ _ (.inr (Nat.le_refl _))) _ _ _ (.inr (Nat.le_refl _))) _ _ _ (.inr (Nat.le_refl _))) _ _ _ (.inr (Nat.le_refl _))) _ _ _ (.inr (Nat.le_refl _))) _ _ _ (.inr (Nat.le_refl _)))⟩⟩
      · exact ((((((v16.set _ _ _ (by omega)).set _ _ _ (by omega)).set _ _ _ (by omega)).set _ _ _ (by omega)).set _ _ _ (by omega)).set _ _ _ (by omega))
      · exact ((((((v21.set _ _ _ (by omega)).set _ _ _ (by omega)).set _ _ _ (by omega)).set _ _ _ (by omega)).set _ _ _ (by omega)).set _ _ _ (by omega))
      · rw [getD_set_eq] at e; cases e
    · simp at hi1
      omega
end Go.Proofs.Ytlocilcnmbmikaa
