/- What the model of a byte that comes, of a port read and of a port written does to a device. -/
import Derived.Test.YtlocilcnmbmikaaSpecDev2
namespace Go.Proofs.Ytlocilcnmbmikaa
open Go.RowKit
set_option linter.unusedVariables false

theorem slots_other {w : World} {base : Nat} {a : Option Addr} {xs : List Int} (s : SlotIn w base w.heap.size a xs) {w' : World} (k : Kept 0 0 w w') : SlotIn w' base w'.heap.size a xs := (s.kept k (by omega)).wide (Nat.le_refl _) k.size

set_option maxRecDepth 20000 in
set_option maxHeartbeats 8000000 in
theorem l5Come (w : World) (base : Nat) (d : Pl.Dev) (a b : Option Addr) (ca cb : Nat) (v : Int) (hD : DevIn w base d a b ca) (hb : base ≤ w.heap.size) (hS : Pl.Small d) :
    Calls Try.prog 59 #[.agg #[.int .i64 d.e, .int .i64 d.l, .bool d.r, .slice a d.xs.length ca, .slice b d.ys.length cb, .int .i64 d.t], .int .i64 v] w fun e w' => DevRet e w w' base (Pl.come d v) a b := by
  have HD := hide hD
  obtain ⟨s1, s2, s3, s4, s5, s6, s7, s8⟩ := hS
  have hra := hD.1.row
  have hrb := hD.2.1.row
  have HRA := hide hra
  have HRB := hide hrb
  clear hD hra hrb
  have K0 := hide (kept_new (kept_new (kept_alloc w (.cells #[.int .i64 d.e, .int .i64 d.l, .bool d.r, .slice a d.xs.length ca, .slice b d.ys.length cb, .int .i64 d.t] 24)) (.cells #[.int .i64 0, .int .i64 0, .bool false, .slice none 0 0, .slice none 0 0, .int .i64 0] 24)) (.cells #[] 3))
  have B0 := hide (((Blk.new w #[.int .i64 d.e, .int .i64 d.l, .bool d.r, .slice a d.xs.length ca, .slice b d.ys.length cb, .int .i64 d.t] 24).alloc (.cells #[.int .i64 0, .int .i64 0, .bool false, .slice none 0 0, .slice none 0 0, .int .i64 0] 24)).alloc (.cells #[] 3))
  have B1 := (Blk.new (w.alloc (.cells #[.int .i64 d.e, .int .i64 d.l, .bool d.r, .slice a d.xs.length ca, .slice b d.ys.length cb, .int .i64 d.t] 24)) #[.int .i64 0, .int .i64 0, .bool false, .slice none 0 0, .slice none 0 0, .int .i64 0] 24).alloc (.cells #[] 3)
  have B2 := Blk.new ((w.alloc (.cells #[.int .i64 d.e, .int .i64 d.l, .bool d.r, .slice a d.xs.length ca, .slice b d.ys.length cb, .int .i64 d.t] 24)).alloc (.cells #[.int .i64 0, .int .i64 0, .bool false, .slice none 0 0, .slice none 0 0, .int .i64 0] 24)) #[] 3
  simp only [World.size_alloc] at B1 B2
  replace B1 := hide B1
  replace B2 := hide B2
  by_cases h1 : d.xs.length < 4
  · have ED : Hid (Pl.come d v = { d with xs := d.xs ++ [v] }) := hide (by simp [Pl.come, h1])
    have q1 : decide ((d.xs.length : Int) < 4) = true := by simp; omega
    go_enter Try.func59, Try.ntmps59
    go_wp2_with (at_builtin; refine copy_ints rfl (.tmp 9) (.tmp 11) rfl base (w.heap.size + 1 + 1) rfl B2.out (by omega) a d.xs.length ca d.xs rfl (HRA.out.keptS K0.out) rfl (by omega) (w.heap.size + 1 + 1 + 1) (by simp) ?_)
    intro g1 c1 w1 o1 k1 hg1 l1
    have C0 := hide (B0.out.kept k1 (by omega))
    have C1 := hide (B1.out.kept k1 (by omega))
    have n0 := B2.out.lt
    have n1 := k1.size
    obtain ⟨p1, p2⟩ := o1.lt g1 rfl
    have O1 := hide o1
    have K1 := hide (kept_over K0.out k1 (by omega))
    have H63 : Hid (d.xs.length + 1 ≤ maxLen) := hide (by unfold maxLen; omega)
    have HBT : Hid ((d.xs.length + 1) * 8 ≤ 140737488355328) := hide (by omega)
    obtain ⟨i, hi0, hz0, hz1, hz2⟩ := info_parts Try.info3
    clear o1 k1 B0 B1 B2
    go_wp2_with (at_builtin; refine wpList_append_lies _ rfl (.tmp 12) (.tmp 14) 22 rfl base 3 i (.int .i64 0) 1 8 Try.underlying22 hi0 hz0 hz1 hz2 rfl (by decide) (.slice (some ⟨g1, 0, none⟩) d.xs.length c1) d.xs.length (d.xs.map (Value.int .i64)) rfl (O1.out.alloc _) ⟨w1.heap.size, 0, none⟩ 1 1 [.int .i64 v] rfl rfl (World.news_of_block (cs := #[.int .i64 v]) (t := 3) (fr := (0, 0)) (heap_alloc_new w1 _)) (by simp [Value.oneCell']) (by decide) H63.out HBT.out (by simp; omega) (w1.heap.size + 1) (by simp) ?_)
    intro g2 c2 w2 o2 k2 hg2 l2
    have hg3 : g2 = g1 ∨ g2 = w1.heap.size + 1 := by
      rcases hg2 with h | h
      · exact .inl (Option.some.inj h).symm
      · exact .inr h
    have kk : Kept g1 (g1 + 1) (w1.alloc (.cells #[.int .i64 v] 3)) w2 := kept_row k2 (by intro j hj; have h5 : g1 = j := Option.some.inj hj; omega)
    have F0 := (C0.out.alloc (.cells #[.int .i64 v] 3)).kept kk (by omega)
    have F1 := (C1.out.alloc (.cells #[.int .i64 v] 3)).kept kk (by omega)
    have n2 := kk.size
    simp only [World.size_alloc] at n2
    obtain ⟨p3, p4⟩ := o2.lt g2 rfl
    have K2 := hide (kept_over (kept_new K1.out (.cells #[.int .i64 v] 3)) kk (by omega))
    have PN : Hid (Own w2 g2 (d.xs ++ [v])) := hide (own_of_row (by rw [List.map_append]; exact o2))
    have CAP := hide (cap_of_row o2)
    have x0 := F0.cell (i := 0) rfl
    have x1 := F0.cell (i := 1) rfl
    have x2 := F0.cell (i := 2) rfl
    have x3 := F0.cell (i := 3) rfl
    have x4 := F0.cell (i := 4) rfl
    have x5 := F0.cell (i := 5) rfl
    have y0 := F1.cell (i := 0) rfl
    have y1 := F1.cell (i := 1) rfl
    have y2 := F1.cell (i := 2) rfl
    have y3 := F1.cell (i := 3) rfl
    have y4 := F1.cell (i := 4) rfl
    have y5 := F1.cell (i := 5) rfl
    have u0 := F1.frozen 0
    have u1 := F1.frozen 1
    have u2 := F1.frozen 2
    have u3 := F1.frozen 3
    have u4 := F1.frozen 4
    have u5 := F1.frozen 5
    have v3 := F0.frozen 3
    have v4 := F0.frozen 4
    have G1 := hide F1
    clear F0 F1 o2 k2 kk hg2
    go_wp2_with fail
    have N0 : ∀ v0 v1 v2 v3 v4 v5 v6, Kept 0 0 w (((((((w2.setCell ⟨w.heap.size, 3, none⟩ v0).setCell ⟨w.heap.size + 1, 0, none⟩ v1).setCell ⟨w.heap.size + 1, 1, none⟩ v2).setCell ⟨w.heap.size + 1, 2, none⟩ v3).setCell ⟨w.heap.size + 1, 3, none⟩ v4).setCell ⟨w.heap.size + 1, 4, none⟩ v5).setCell ⟨w.heap.size + 1, 5, none⟩ v6) := fun v0 v1 v2 v3 v4 v5 v6 => (kept_set (kept_set (kept_set (kept_set (kept_set (kept_set (kept_set K2.out _ _ _ (.inr (by omega))) _ _ _ (.inr (by omega))) _ _ _ (.inr (by omega))) _ _ _ (.inr (by omega))) _ _ _ (.inr (by omega))) _ _ _ (.inr (by omega))) _ _ _ (.inr (by omega)))
    refine bodyPost_ret (v := .agg #[.int .i64 d.e, .int .i64 d.l, .bool d.r, .slice (some ⟨g2, 0, none⟩) (d.xs.length + 1) c2, .slice b d.ys.length cb, .int .i64 d.t]) ?_ rfl (devRet (some ⟨g2, 0, none⟩) b c2 cb ?_ ?_ ?_ ?_)
    · exact results_cell_row rfl _ _ _ _ _ (0, 0) _ rfl ((((((G1.out.other _ _ _ (by omega)).set _ _).set _ _).set _ _).set _ _).set _ _ |>.set _ _) Try.underlying24 rfl (by kernel_rfl)
    · rw [ED.out]; simp
    · rw [ED.out]
      refine ⟨.inr ⟨g2, rfl, by omega, by simp; omega, ?_⟩, slots_other HD.out.2.1 (N0 _ _ _ _ _ _ _), ?_⟩
      · exact (((((((PN.out.setOther _ _ _ (by omega)).setOther _ _ _ (by omega)).setOther _ _ _ (by omega)).setOther _ _ _ (by omega)).setOther _ _ _ (by omega)).setOther _ _ _ (by omega)).setOther _ _ _ (by omega))
      · refine ⟨?_, by simpa using CAP.out⟩
        intro g hg hh
        simp [blk] at hg
        have := HD.out.2.1.blk_in g hh
        omega
    · exact N0 _ _ _ _ _ _ _
    · intro g hg
      rcases hg with hg | hg <;> first | exact .inl (.inl hg) | exact .inl (.inr hg) | (simp [blk] at hg; exact .inr (by omega))
  · have q1 : decide ((d.xs.length : Int) < 4) = false := by simp; omega
    by_cases h2 : d.t < 1000
    · have ED : Hid (Pl.come d v = { d with t := d.t + 1 }) := hide (by simp [Pl.come, h1, h2])
      have q2 : decide (d.t < 1000) = true := by simpa using h2
      clear K0 B0 B1 B2
      go_enter Try.func59, Try.ntmps59
      go_wp2_with fail
      refine bodyPost_ret (v := .agg #[.int .i64 d.e, .int .i64 d.l, .bool d.r, .slice a d.xs.length ca, .slice b d.ys.length cb, .int .i64 (d.t + 1)]) ?_ rfl (devRet a b ca cb ?_ ?_ ?_ (fun g hg => .inl hg))
      · rw [results_one rfl]; go_simp
      · rw [ED.out]
      · rw [ED.out]; exact HD.out.kept (kept_new (kept_alloc _ _) _)
      · exact kept_new (kept_alloc _ _) _
    · have ED : Hid (Pl.come d v = d) := hide (by simp [Pl.come, h1, h2])
      have q2 : decide (d.t < 1000) = false := by simpa using h2
      clear K0 B0 B1 B2
      go_enter Try.func59, Try.ntmps59
      go_wp2_with fail
      refine bodyPost_ret (v := .agg #[.int .i64 d.e, .int .i64 d.l, .bool d.r, .slice a d.xs.length ca, .slice b d.ys.length cb, .int .i64 d.t]) ?_ rfl (devRet a b ca cb ?_ ?_ ?_ (fun g hg => .inl hg))
      · rw [results_one rfl]; go_simp
      · rw [ED.out]
      · rw [ED.out]; exact HD.out.kept (kept_new (kept_alloc _ _) _)
      · exact kept_new (kept_alloc _ _) _
theorem l1Flag (b : Bool) (f : Int) (w : World) : Calls Try.prog 67 #[.bool b, .int .i64 f] w fun e w' => e = .returned (.int .i64 (Pl.fl b f)) ∧ w' = w := by
  cases b
  all_goals
    go_enter Try.func67, Try.ntmps67
    go_wp2
    go_ret
    exact ⟨rfl, rfl⟩
theorem irow_drop {w : World} {g ca : Nat} {xs : List Int} (h : IRow w (some ⟨g, 0, none⟩) xs) (hc : xs.length ≤ ca) (h0 : 0 < xs.length) : IRow w (if ca = 1 then some ⟨g, 0, none⟩ else some ⟨g, 1, none⟩) (xs.drop 1) := by
  intro i hi
  rw [List.length_drop] at hi
  by_cases h1 : ca = 1
  · omega
  · rw [if_neg h1]
    obtain ⟨g', o', e, c⟩ := h (1 + i) (by omega)
    cases e
    refine ⟨g, 1, rfl, ?_⟩
    rw [List.getElem?_drop]
    simpa using c

set_option maxRecDepth 20000 in
set_option maxHeartbeats 8000000 in
theorem l5Read (w : World) (base : Nat) (d : Pl.Dev) (a b : Option Addr) (ca cb : Nat) (p : Int) (hD : DevIn w base d a b ca) (hb : base ≤ w.heap.size) (hS : Pl.Small d) (p0 : 0 ≤ p) (p3 : p ≤ 3) :
    Calls Try.prog 55 #[.agg #[.int .i64 d.e, .int .i64 d.l, .bool d.r, .slice a d.xs.length ca, .slice b d.ys.length cb, .int .i64 d.t], .int .i64 p] w fun e w' => DevRetV e w w' base (Pl.rdD d p) (Pl.rdV d p) a b := by
  have HD := hide hD
  obtain ⟨s1, s2, s3, s4, s5, s6, s7, s8⟩ := hS
  have hra := hD.1.row
  have hrb := hD.2.1.row
  have HRA := hide hra
  have HRB := hide hrb
  clear hD hra hrb
  have K0 := hide (kept_new (kept_new (kept_alloc w (.cells #[.int .i64 d.e, .int .i64 d.l, .bool d.r, .slice a d.xs.length ca, .slice b d.ys.length cb, .int .i64 d.t] 24)) (.cells #[.int .i64 0, .int .i64 0, .bool false, .slice none 0 0, .slice none 0 0, .int .i64 0] 24)) (.cells #[] 3))
  have B0 := hide (((Blk.new w #[.int .i64 d.e, .int .i64 d.l, .bool d.r, .slice a d.xs.length ca, .slice b d.ys.length cb, .int .i64 d.t] 24).alloc (.cells #[.int .i64 0, .int .i64 0, .bool false, .slice none 0 0, .slice none 0 0, .int .i64 0] 24)).alloc (.cells #[] 3))
  have B1 := (Blk.new (w.alloc (.cells #[.int .i64 d.e, .int .i64 d.l, .bool d.r, .slice a d.xs.length ca, .slice b d.ys.length cb, .int .i64 d.t] 24)) #[.int .i64 0, .int .i64 0, .bool false, .slice none 0 0, .slice none 0 0, .int .i64 0] 24).alloc (.cells #[] 3)
  have B2 := Blk.new ((w.alloc (.cells #[.int .i64 d.e, .int .i64 d.l, .bool d.r, .slice a d.xs.length ca, .slice b d.ys.length cb, .int .i64 d.t] 24)).alloc (.cells #[.int .i64 0, .int .i64 0, .bool false, .slice none 0 0, .slice none 0 0, .int .i64 0] 24)) #[] 3
  simp only [World.size_alloc] at B1 B2
  replace B1 := hide B1
  replace B2 := hide B2
  obtain rfl | rfl | rfl | rfl : p = 0 ∨ p = 1 ∨ p = 2 ∨ p = 3 := by omega
  · have ED : Hid (Pl.rdD d 0 = d) := hide (by simp [Pl.rdD])
    have EV : Hid (Pl.rdV d 0 = d.e) := hide (by simp [Pl.rdV])
    clear K0 B0 B1 B2
    go_enter Try.func55, Try.ntmps55
    go_wp2_with fail
    go_region
    all_goals go_wp2_with fail
    all_goals refine bodyPost_ret (v := .tuple #[.agg #[.int .i64 d.e, .int .i64 d.l, .bool d.r, .slice a d.xs.length ca, .slice b d.ys.length cb, .int .i64 d.t], .int .i64 d.e]) ?_ rfl (devRetV a b ca cb ?_ ?_ ?_ (fun g hg => .inl hg))
    · rw [results_cell_tmp rfl]; go_simp
    · rw [ED.out, EV.out]
    · rw [ED.out]; exact HD.out.kept (kept_drew (kept_new (kept_alloc _ _) _))
    · exact kept_drew (kept_new (kept_alloc _ _) _)
  · have ED : Hid (Pl.rdD d 1 = { d with r := false }) := hide (by simp [Pl.rdD])
    have EV : Hid (Pl.rdV d 1 = Pl.fl d.r 1) := hide (by simp [Pl.rdV, Pl.fl])
    clear K0 B0 B1 B2
    go_enter Try.func55, Try.ntmps55
    go_wp2_with (go_at_call 67; refine (l1Flag _ _ _).mono ?_; rintro e w9 ⟨rfl, hw⟩; have hw2 := hw.symm; clear hw; subst hw2)
    refine bodyPost_ret (v := .tuple #[.agg #[.int .i64 d.e, .int .i64 d.l, .bool false, .slice a d.xs.length ca, .slice b d.ys.length cb, .int .i64 d.t], .int .i64 (Pl.fl d.r 1)]) ?_ rfl (devRetV a b ca cb ?_ ?_ ?_ (fun g hg => .inl hg))
    · rw [results_cell_tmp rfl]; go_simp
    · rw [ED.out, EV.out]
    · rw [ED.out]; exact HD.out.kept (kept_new (kept_alloc _ _) _)
    · exact kept_new (kept_alloc _ _) _
  · by_cases h0 : d.xs.length = 0
    · have hx : d.xs = [] := List.eq_nil_of_length_eq_zero h0
      have ED : Hid (Pl.rdD d 2 = d) := hide (by cases d; simp at hx; subst hx; simp [Pl.rdD])
      have EV : Hid (Pl.rdV d 2 = 0) := hide (by simp [Pl.rdV, hx, el])
      have q1 : ((d.xs.length : Int) == 0) = true := by simp [h0]
      clear K0 B0 B1 B2 hx
      go_enter Try.func55, Try.ntmps55
      go_wp2_with fail
      refine bodyPost_ret (v := .tuple #[.agg #[.int .i64 d.e, .int .i64 d.l, .bool d.r, .slice a d.xs.length ca, .slice b d.ys.length cb, .int .i64 d.t], .int .i64 0]) ?_ rfl (devRetV a b ca cb ?_ ?_ ?_ (fun g hg => .inl hg))
      · rw [results_cell_tmp rfl]; go_simp
      · rw [ED.out, EV.out]
      · rw [ED.out]; exact HD.out.kept (kept_new (kept_alloc _ _) _)
      · exact kept_new (kept_alloc _ _) _
    · have q1 : ((d.xs.length : Int) == 0) = false := by rw [beq_eq_false_iff_ne]; omega
      obtain ⟨L, hL⟩ : ∃ L, L = d.xs.drop 1 := ⟨_, rfl⟩
      have ED : Hid (Pl.rdD d 2 = { d with xs := L }) := hide (by rw [hL]; simp [Pl.rdD])
      have EV : Hid (Pl.rdV d 2 = el d.xs 0) := hide (by simp [Pl.rdV])
      obtain ⟨g, ha, hg0, hg1, hown⟩ : ∃ g, a = some ⟨g, 0, none⟩ ∧ base ≤ g ∧ g < w.heap.size ∧ Own w g d.xs := by
        rcases HD.out.1 with ⟨_, h⟩ | h
        · exact absurd (by rw [h]; rfl) h0
        · exact h
      subst ha
      have hca := HD.out.2.2.2
      have hdr := hide (irow_drop HRA.out hca (by omega))
      have hl : L.length = d.xs.length - 1 := by rw [hL]; exact List.length_drop ..
      have HL := hide hl
      rw [← hL] at hdr
      clear hL
      have c0 := ((hown.keptS (kept_new (kept_alloc w (.cells #[.int .i64 d.e, .int .i64 d.l, .bool d.r, .slice (some ⟨g, 0, none⟩) d.xs.length ca, .slice b d.ys.length cb, .int .i64 d.t] 24)) (.cells #[.int .i64 0, .int .i64 0, .bool false, .slice none 0 0, .slice none 0 0, .int .i64 0] 24)) (by omega)) 0 (by omega)).1
      rw [show d.xs[0]?.getD 0 = el d.xs 0 from rfl] at c0
      have i0 : (0 : Int) < (d.xs.length : Int) := by omega
      have i1 : (1 : Int) ≤ (d.xs.length : Int) := by omega
      clear hown hl
      by_cases hc1 : ca = 1
      · have hdr2 : Hid (IRow w (some ⟨g, 0, none⟩) L) := hide (by have h := hdr.out; rwa [if_pos hc1] at h)
        clear hdr
        subst hc1
        have HLE : Hid (L = []) := hide (List.eq_nil_of_length_eq_zero (by rw [HL.out]; omega))
        clear hdr2
        go_enter Try.func55, Try.ntmps55
        go_wp2_with fail
        refine bodyPost_ret (v := .tuple #[.agg #[.int .i64 d.e, .int .i64 d.l, .bool d.r, .slice (some ⟨w.heap.size + 1 + 1, 0, none⟩) 0 0, .slice b d.ys.length cb, .int .i64 d.t], .int .i64 (el d.xs 0)]) ?_ rfl (devRetV (some ⟨w.heap.size + 1 + 1, 0, none⟩) b 0 cb ?_ ?_ ?_ ?_)
        · rw [results_cell_tmp rfl]; go_simp
        · rw [ED.out, EV.out]; simp [HLE.out]
        · rw [ED.out]
          refine ⟨.inr ⟨w.heap.size + 1 + 1, rfl, by omega, by simp, ?_⟩, slots_other HD.out.2.1 (kept_new (kept_new (kept_alloc _ _) _) _), ?_, by simp [HLE.out]⟩
          · show Own _ _ L
            rw [HLE.out]
            intro i hi
            exact absurd hi (Nat.not_lt_zero i)
          · intro g hg hh
            simp [blk] at hg
            have := HD.out.2.1.blk_in g hh
            omega
        · exact kept_new (kept_new (kept_alloc _ _) _) _
        · intro g hg
          rcases hg with hg | hg
          · simp [blk] at hg; exact .inr (by omega)
          · exact .inl (.inr hg)
      · have hdr2 : Hid (IRow w (some ⟨g, 1, none⟩) L) := hide (by have h := hdr.out; rwa [if_neg hc1] at h)
        clear hdr
        go_enter Try.func55, Try.ntmps55
        go_wp2_with (at_builtin; refine copy_ints rfl (.tmp 33) (.tmp 36) rfl base (w.heap.size + 1 + 1) rfl B2.out (by omega) (some ⟨g, 1, none⟩) (d.xs.length - 1) (ca - 1) L rfl (hdr2.out.keptS K0.out) HL.out (by omega) (w.heap.size + 1 + 1 + 1) (by simp) ?_)
        intro g2 c2 w2 o2 k2 hg2 l2
        have F0 := B0.out.kept k2 (by omega)
        have F1 := B1.out.kept k2 (by omega)
        have n0 := B2.out.lt
        have n2 := k2.size
        obtain ⟨p3, p4⟩ := o2.lt g2 rfl
        have K2 := hide (kept_over K0.out k2 (by omega))
        have PN := hide (own_of_row o2)
        have CAP := hide (cap_of_row o2)
        have x0 := F0.cell (i := 0) rfl
        have x1 := F0.cell (i := 1) rfl
        have x2 := F0.cell (i := 2) rfl
        have x3 := F0.cell (i := 3) rfl
        have x4 := F0.cell (i := 4) rfl
        have x5 := F0.cell (i := 5) rfl
        have y0 := F1.cell (i := 0) rfl
        have y1 := F1.cell (i := 1) rfl
        have y2 := F1.cell (i := 2) rfl
        have y3 := F1.cell (i := 3) rfl
        have y4 := F1.cell (i := 4) rfl
        have y5 := F1.cell (i := 5) rfl
        have u0 := F1.frozen 0
        have u1 := F1.frozen 1
        have u2 := F1.frozen 2
        have u3 := F1.frozen 3
        have u4 := F1.frozen 4
        have u5 := F1.frozen 5
        have v3 := F0.frozen 3
        have v4 := F0.frozen 4
        have G1 := hide F1
        clear F0 F1 o2 k2 B0 B1 B2 c0
        go_wp2_with fail
        have N0 : ∀ v0 v1 v2 v3 v4 v5 v6, Kept 0 0 w (((((((w2.setCell ⟨w.heap.size, 3, none⟩ v0).setCell ⟨w.heap.size + 1, 0, none⟩ v1).setCell ⟨w.heap.size + 1, 1, none⟩ v2).setCell ⟨w.heap.size + 1, 2, none⟩ v3).setCell ⟨w.heap.size + 1, 3, none⟩ v4).setCell ⟨w.heap.size + 1, 4, none⟩ v5).setCell ⟨w.heap.size + 1, 5, none⟩ v6) := fun v0 v1 v2 v3 v4 v5 v6 => (kept_set (kept_set (kept_set (kept_set (kept_set (kept_set (kept_set K2.out _ _ _ (.inr (by omega))) _ _ _ (.inr (by omega))) _ _ _ (.inr (by omega))) _ _ _ (.inr (by omega))) _ _ _ (.inr (by omega))) _ _ _ (.inr (by omega))) _ _ _ (.inr (by omega)))
        refine bodyPost_ret (v := .tuple #[.agg #[.int .i64 d.e, .int .i64 d.l, .bool d.r, .slice (some ⟨g2, 0, none⟩) (d.xs.length - 1) c2, .slice b d.ys.length cb, .int .i64 d.t], .int .i64 (el d.xs 0)]) ?_ rfl (devRetV (some ⟨g2, 0, none⟩) b c2 cb ?_ ?_ ?_ ?_)
        · rw [results_cell_tmp rfl]; go_simp
        · rw [ED.out, EV.out]; simp [HL.out]
        · rw [ED.out]
          refine ⟨.inr ⟨g2, rfl, by omega, by simp; omega, ?_⟩, slots_other HD.out.2.1 (N0 _ _ _ _ _ _ _), ?_, by simpa [HL.out] using CAP.out⟩
          · exact (((((((PN.out.setOther _ _ _ (by omega)).setOther _ _ _ (by omega)).setOther _ _ _ (by omega)).setOther _ _ _ (by omega)).setOther _ _ _ (by omega)).setOther _ _ _ (by omega)).setOther _ _ _ (by omega))
          · intro g hg hh
            simp [blk] at hg
            have := HD.out.2.1.blk_in g hh
            omega
        · exact N0 _ _ _ _ _ _ _
        · intro g hg
          rcases hg with hg | hg
          · simp [blk] at hg; exact .inr (by omega)
          · exact .inl (.inr hg)
  · have ED : Hid (Pl.rdD d 3 = d) := hide (by simp [Pl.rdD])
    have EV : Hid (Pl.rdV d 3 = (d.xs.length : Int)) := hide (by simp [Pl.rdV])
    clear K0 B0 B1 B2
    go_enter Try.func55, Try.ntmps55
    go_wp2_with fail
    go_region
    all_goals go_wp2_with fail
    all_goals refine bodyPost_ret (v := .tuple #[.agg #[.int .i64 d.e, .int .i64 d.l, .bool d.r, .slice a d.xs.length ca, .slice b d.ys.length cb, .int .i64 d.t], .int .i64 (d.xs.length : Int)]) ?_ rfl (devRetV a b ca cb ?_ ?_ ?_ (fun g hg => .inl hg))
    · rw [results_cell_tmp rfl]; go_simp
    · rw [ED.out, EV.out]
    · rw [ED.out]; exact HD.out.kept (kept_drew (kept_new (kept_alloc _ _) _))
    · exact kept_drew (kept_new (kept_alloc _ _) _)
end Go.Proofs.Ytlocilcnmbmikaa
