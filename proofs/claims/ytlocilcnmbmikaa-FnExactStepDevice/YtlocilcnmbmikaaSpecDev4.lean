/- What the model of a port written, and of a step, does to a device. -/
import Derived.Test.YtlocilcnmbmikaaSpecDev3
namespace Go.Proofs.Ytlocilcnmbmikaa
open Go.RowKit
set_option linter.unusedVariables false

set_option maxRecDepth 20000 in
set_option maxHeartbeats 8000000 in
theorem l5Write (w : World) (base : Nat) (d : Pl.Dev) (a b : Option Addr) (ca cb : Nat) (p v : Int) (hD : DevIn w base d a b ca) (hb : base ≤ w.heap.size) (hS : Pl.Small d) (p0 : 0 ≤ p) (p3 : p ≤ 3) :
    Calls Try.prog 54 #[.agg #[.int .i64 d.e, .int .i64 d.l, .bool d.r, .slice a d.xs.length ca, .slice b d.ys.length cb, .int .i64 d.t], .int .i64 p, .int .i64 v] w fun e w' => DevRet e w w' base (Pl.wrD d p v) a b := by
  have HD := hide hD
  obtain ⟨s1, s2, s3, s4, s5, s6, s7, s8⟩ := hS
  have hra := hD.1.row
  have hrb := hD.2.1.row
  have HRA := hide hra
  have HRB := hide hrb
  clear hD hra hrb
  have K0 := hide (kept_new (kept_new (kept_alloc w (.cells #[.int .i64 d.e, .int .i64 d.l, .bool d.r, .slice a d.xs.length ca, .slice b d.ys.length cb, .int .i64 d.t] 24)) (.cells #[.int .i64 0, .int .i64 0, .bool false, .slice none 0 0, .slice none 0 0, .int .i64 0] 24)) (.cells #[] 3))
  have B0 := hide (((Blk.new w #[.int .i64 d.e, .int .i64 d.l, .bool d.r, .slice a d.xs.length ca, .slice b d.ys.length cb, .int .i64 d.t] 24).alloc (.cells #[.int .i64 0, .int .i64 0, .bool false, .slice none 0 0, .slice none 0 0, .int .i64 0] 24)).alloc (.cells #[] 3))
  have B1 := (Blk.new (w.alloc (.cells #[.int .i64 d.e, .int .i64 d.l, .bool d.r, .slice a d.xs.length ca, .slice b d.ys.length cb, .int .i64 d.t] 24)) #[.int .i64 0, .int .i64 0, .bool false, .slice none 0 0, .slice none 0 0, .int .i64 0] 24).alloc (.cells #[] 3)
  have B2 := Blk.new ((w.alloc (.cells #[.int .i64 d.e, .int .i64 d.l, .bool d.r, .slice a d.xs.length ca, .slice b d.ys.length cb, .int .i64 d.t] 24)).alloc (.cells #[.int .i64 0, .int .i64 0, .bool false, .slice none 0 0, .slice none 0 0, .int .i64 0] 24)) #[] 3
  simp only [World.size_alloc] at B1 B2
  replace B1 := hide B1
  replace B2 := hide B2
  obtain rfl | rfl | rfl | rfl : p = 0 ∨ p = 1 ∨ p = 2 ∨ p = 3 := by omega
  · have ED : Hid (Pl.wrD d 0 v = { d with e := v, l := v }) := hide (by simp [Pl.wrD])
    clear K0 B0 B1 B2
    go_enter Try.func54, Try.ntmps54
    go_wp2_with fail
    refine bodyPost_ret (v := .agg #[.int .i64 v, .int .i64 v, .bool d.r, .slice a d.xs.length ca, .slice b d.ys.length cb, .int .i64 d.t]) ?_ rfl (devRet a b ca cb ?_ ?_ ?_ (fun g hg => .inl hg))
    · rw [results_one rfl]; go_simp
    · rw [ED.out]
    · rw [ED.out]; exact HD.out.kept (kept_new (kept_alloc _ _) _)
    · exact kept_new (kept_alloc _ _) _
  · have ED : Hid (Pl.wrD d 1 v = { d with r := false }) := hide (by simp [Pl.wrD])
    clear K0 B0 B1 B2
    go_enter Try.func54, Try.ntmps54
    go_wp2_with fail
    refine bodyPost_ret (v := .agg #[.int .i64 d.e, .int .i64 d.l, .bool false, .slice a d.xs.length ca, .slice b d.ys.length cb, .int .i64 d.t]) ?_ rfl (devRet a b ca cb ?_ ?_ ?_ (fun g hg => .inl hg))
    · rw [results_one rfl]; go_simp
    · rw [ED.out]
    · rw [ED.out]; exact HD.out.kept (kept_new (kept_alloc _ _) _)
    · exact kept_new (kept_alloc _ _) _
  · by_cases h1 : d.ys.length < 200
    · have ED : Hid (Pl.wrD d 2 v = { d with ys := d.ys ++ [v] }) := hide (by simp [Pl.wrD, h1])
      have q1 : decide ((d.ys.length : Int) < 200) = true := by simp; omega
      go_enter Try.func54, Try.ntmps54
      go_wp2_with (at_builtin; refine copy_ints rfl (.tmp 24) (.tmp 26) rfl base (w.heap.size + 1 + 1) rfl B2.out (by omega) b d.ys.length cb d.ys rfl (HRB.out.keptS K0.out) rfl (by omega) (w.heap.size + 1 + 1 + 1) (by simp) ?_)
      intro g1 c1 w1 o1 k1 hg1 l1
      have C0 := hide (B0.out.kept k1 (by omega))
      have C1 := hide (B1.out.kept k1 (by omega))
      have n0 := B2.out.lt
      have n1 := k1.size
      obtain ⟨p1, p2⟩ := o1.lt g1 rfl
      have O1 := hide o1
      have K1 := hide (kept_over K0.out k1 (by omega))
      have H63 : Hid (d.ys.length + 1 ≤ maxLen) := hide (by unfold maxLen; omega)
      have HBT : Hid ((d.ys.length + 1) * 8 ≤ 140737488355328) := hide (by omega)
      obtain ⟨i, hi0, hz0, hz1, hz2⟩ := info_parts Try.info3
      clear o1 k1 B0 B1 B2
      go_wp2_with (at_builtin; refine wpList_append_lies _ rfl (.tmp 27) (.tmp 29) 22 rfl base 3 i (.int .i64 0) 1 8 Try.underlying22 hi0 hz0 hz1 hz2 rfl (by decide) (.slice (some ⟨g1, 0, none⟩) d.ys.length c1) d.ys.length (d.ys.map (Value.int .i64)) rfl (O1.out.alloc _) ⟨w1.heap.size, 0, none⟩ 1 1 [.int .i64 v] rfl rfl (World.news_of_block (cs := #[.int .i64 v]) (t := 3) (fr := (0, 0)) (heap_alloc_new w1 _)) (by simp [Value.oneCell']) (by decide) H63.out HBT.out (by simp; omega) (w1.heap.size + 1) (by simp) ?_)
      intro g2 c2 w2 o2 k2 hg2 l2
      have hg3 : g2 = g1 ∨ g2 = w1.heap.size + 1 := by
        rcases hg2 with h | h
        · exact .inl (Option.some.inj h).symm
        · exact .inr h
      have kk : Kept g1 (g1 + 1) (w1.alloc (.cells #[.int .i64 v] 3)) w2 := kept_row k2 (by intro j hj; have h5 : g1 = j := Option.some.inj hj; omega)
      have F0 := (C0.out.alloc (.cells #[.int .i64 v] 3)).kept kk (by omega)
      have F1 := (C1.out.alloc (.cells #[.int .i64 v] 3)).kept kk (by omega)
      have n2 := kk.size
      simp only [World.size_alloc] at n2
      obtain ⟨p3, p4⟩ := o2.lt g2 rfl
      have K2 := hide (kept_over (kept_new K1.out (.cells #[.int .i64 v] 3)) kk (by omega))
      have PN : Hid (Own w2 g2 (d.ys ++ [v])) := hide (own_of_row (by rw [List.map_append]; exact o2))
      have CAP := hide (cap_of_row o2)
      have x0 := F0.cell (i := 0) rfl
      have x1 := F0.cell (i := 1) rfl
      have x2 := F0.cell (i := 2) rfl
      have x3 := F0.cell (i := 3) rfl
      have x4 := F0.cell (i := 4) rfl
      have x5 := F0.cell (i := 5) rfl
      have y0 := F1.cell (i := 0) rfl
      have y1 := F1.cell (i := 1) rfl
      have y2 := F1.cell (i := 2) rfl
      have y3 := F1.cell (i := 3) rfl
      have y4 := F1.cell (i := 4) rfl
      have y5 := F1.cell (i := 5) rfl
      have u0 := F1.frozen 0
      have u1 := F1.frozen 1
      have u2 := F1.frozen 2
      have u3 := F1.frozen 3
      have u4 := F1.frozen 4
      have u5 := F1.frozen 5
      have v3 := F0.frozen 3
      have v4 := F0.frozen 4
      have G1 := hide F1
      clear F0 F1 o2 k2 kk hg2
      go_wp2_with fail
      have N0 : ∀ v0 v1 v2 v3 v4 v5 v6, Kept 0 0 w (((((((w2.setCell ⟨w.heap.size, 4, none⟩ v0).setCell ⟨w.heap.size + 1, 0, none⟩ v1).setCell ⟨w.heap.size + 1, 1, none⟩ v2).setCell ⟨w.heap.size + 1, 2, none⟩ v3).setCell ⟨w.heap.size + 1, 3, none⟩ v4).setCell ⟨w.heap.size + 1, 4, none⟩ v5).setCell ⟨w.heap.size + 1, 5, none⟩ v6) := fun v0 v1 v2 v3 v4 v5 v6 => (kept_set (kept_set (kept_set (kept_set (kept_set (kept_set (kept_set K2.out _ _ _ (.inr (by omega))) _ _ _ (.inr (by omega))) _ _ _ (.inr (by omega))) _ _ _ (.inr (by omega))) _ _ _ (.inr (by omega))) _ _ _ (.inr (by omega))) _ _ _ (.inr (by omega)))
      refine bodyPost_ret (v := .agg #[.int .i64 d.e, .int .i64 d.l, .bool d.r, .slice a d.xs.length ca, .slice (some ⟨g2, 0, none⟩) (d.ys.length + 1) c2, .int .i64 d.t]) ?_ rfl (devRet a (some ⟨g2, 0, none⟩) ca c2 ?_ ?_ ?_ ?_)
      · exact results_cell_row rfl _ _ _ _ _ (0, 0) _ rfl ((((((G1.out.other _ _ _ (by omega)).set _ _).set _ _).set _ _).set _ _).set _ _ |>.set _ _) Try.underlying24 rfl (by kernel_rfl)
      · rw [ED.out]; simp
      · rw [ED.out]
        refine ⟨slots_other HD.out.1 (N0 _ _ _ _ _ _ _), .inr ⟨g2, rfl, by omega, by simp; omega, ?_⟩, ?_, HD.out.2.2.2⟩
        · exact (((((((PN.out.setOther _ _ _ (by omega)).setOther _ _ _ (by omega)).setOther _ _ _ (by omega)).setOther _ _ _ (by omega)).setOther _ _ _ (by omega)).setOther _ _ _ (by omega)).setOther _ _ _ (by omega))
        · intro g hg hh
          simp [blk] at hh
          have := HD.out.1.blk_in g hg
          omega
      · exact N0 _ _ _ _ _ _ _
      · intro g hg
        rcases hg with hg | hg <;> first | exact .inl (.inl hg) | exact .inl (.inr hg) | (simp [blk] at hg; exact .inr (by omega))
    · have ED : Hid (Pl.wrD d 2 v = d) := hide (by simp [Pl.wrD, h1])
      have q1 : decide ((d.ys.length : Int) < 200) = false := by simp; omega
      clear K0 B0 B1 B2
      go_enter Try.func54, Try.ntmps54
      go_wp2_with fail
      refine bodyPost_ret (v := .agg #[.int .i64 d.e, .int .i64 d.l, .bool d.r, .slice a d.xs.length ca, .slice b d.ys.length cb, .int .i64 d.t]) ?_ rfl (devRet a b ca cb ?_ ?_ ?_ (fun g hg => .inl hg))
      · rw [results_one rfl]; go_simp
      · rw [ED.out]
      · rw [ED.out]; exact HD.out.kept (kept_new (kept_alloc _ _) _)
      · exact kept_new (kept_alloc _ _) _
  · have ED : Hid (Pl.wrD d 3 v = { d with xs := [] }) := hide (by simp [Pl.wrD])
    clear K0 B0 B1 B2
    go_enter Try.func54, Try.ntmps54
    go_wp2_with fail
    refine bodyPost_ret (v := .agg #[.int .i64 d.e, .int .i64 d.l, .bool d.r, .slice none 0 0, .slice b d.ys.length cb, .int .i64 d.t]) ?_ rfl (devRet none b 0 cb ?_ ?_ ?_ ?_)
    · rw [results_one rfl]; go_simp
    · rw [ED.out]; rfl
    · rw [ED.out]
      exact ⟨.inl ⟨rfl, rfl⟩, slots_other HD.out.2.1 (kept_new (kept_alloc _ _) _), by intro g hg; simp [blk] at hg, Nat.le_refl _⟩
    · exact kept_new (kept_alloc _ _) _
    · intro g hg
      rcases hg with hg | hg
      · simp [blk] at hg
      · exact .inl (.inr hg)

theorem l5Port (p : Int) (w : World) : Calls Try.prog 53 #[.int .i64 p] w fun e w' => e = .returned (.bool (Pl.port p)) ∧ w' = w := by
  go_enter Try.func53, Try.ntmps53
  go_wp2_with fail
  refine (l1In _ _ _ _).mono ?_
  rintro e w' ⟨rfl, rfl⟩
  go_wp2_with fail
  go_ret
  exact ⟨rfl, rfl⟩

theorem l5Good (k p v : Int) (w : World) : Calls Try.prog 43 #[.agg #[.int .i64 k, .int .i64 p, .int .i64 v]] w fun e w' => e = .returned (.bool (Pl.stepOk k p v)) ∧ ∃ o, w' = w.alloc o := by
  have hin : Pl.inR v 0 255 = (decide (0 ≤ v) && decide (v ≤ 255)) := rfl
  by_cases k1 : k = 1
  · subst k1
    cases hp0 : (p == 0)
    · have E : Hid (Pl.stepOk 1 p v = false) := hide (by simp only [Pl.stepOk, if_true, hp0]; rfl)
      go_enter Try.func43, Try.ntmps43
      go_wp2_with (first
        | (go_at_call 53; refine (l5Port _ _).mono ?_; rintro e w9 ⟨rfl, hw⟩; have hw2 := hw.symm; clear hw; subst hw2; try rw [hp])
        | (go_at_call 38; refine (l1In _ _ _ _).mono ?_; rintro e w9 ⟨rfl, hw⟩; have hw2 := hw.symm; clear hw; subst hw2; try rw [hv]))
      go_ret
      exact ⟨rB (by rw [E.out]), _, rfl⟩
    · cases hv0 : (v == 0)
      all_goals
        have E : Hid (Pl.stepOk 1 p v = (v == 0)) := hide (by simp only [Pl.stepOk, if_true, hp0]; rfl)
        rw [hv0] at E
        go_enter Try.func43, Try.ntmps43
        go_wp2_with (first
          | (go_at_call 53; refine (l5Port _ _).mono ?_; rintro e w9 ⟨rfl, hw⟩; have hw2 := hw.symm; clear hw; subst hw2; try rw [hp])
          | (go_at_call 38; refine (l1In _ _ _ _).mono ?_; rintro e w9 ⟨rfl, hw⟩; have hw2 := hw.symm; clear hw; subst hw2; try rw [hv]))
        go_ret
        exact ⟨rB (by rw [E.out]), _, rfl⟩
  · have q1 : (k == 1) = false := by simpa using k1
    by_cases k2 : k = 2
    · subst k2
      cases hp0 : (p == 0)
      · have E : Hid (Pl.stepOk 2 p v = false) := hide (by simp only [Pl.stepOk, hp0]; rfl)
        go_enter Try.func43, Try.ntmps43
        go_wp2_with (first
          | (go_at_call 53; refine (l5Port _ _).mono ?_; rintro e w9 ⟨rfl, hw⟩; have hw2 := hw.symm; clear hw; subst hw2; try rw [hp])
          | (go_at_call 38; refine (l1In _ _ _ _).mono ?_; rintro e w9 ⟨rfl, hw⟩; have hw2 := hw.symm; clear hw; subst hw2; try rw [hv]))
        go_ret
        exact ⟨rB (by rw [E.out]), _, rfl⟩
      · cases hv : (decide (0 ≤ v) && decide (v ≤ 255))
        all_goals
          have E : Hid (Pl.stepOk 2 p v = (decide (0 ≤ v) && decide (v ≤ 255))) := hide (by simp only [Pl.stepOk, hp0, hin]; rfl)
          rw [hv] at E
          go_enter Try.func43, Try.ntmps43
          go_wp2_with (first
            | (go_at_call 53; refine (l5Port _ _).mono ?_; rintro e w9 ⟨rfl, hw⟩; have hw2 := hw.symm; clear hw; subst hw2; try rw [hp])
            | (go_at_call 38; refine (l1In _ _ _ _).mono ?_; rintro e w9 ⟨rfl, hw⟩; have hw2 := hw.symm; clear hw; subst hw2; try rw [hv]))
          go_ret
          exact ⟨rB (by rw [E.out]), _, rfl⟩
    · have q2 : (k == 2) = false := by simpa using k2
      by_cases k3 : k = 3
      · subst k3
        cases hp : Pl.port p
        · have E : Hid (Pl.stepOk 3 p v = false) := hide (by simp only [Pl.stepOk, hp]; rfl)
          go_enter Try.func43, Try.ntmps43
          go_wp2_with (first
            | (go_at_call 53; refine (l5Port _ _).mono ?_; rintro e w9 ⟨rfl, hw⟩; have hw2 := hw.symm; clear hw; subst hw2; try rw [hp])
            | (go_at_call 38; refine (l1In _ _ _ _).mono ?_; rintro e w9 ⟨rfl, hw⟩; have hw2 := hw.symm; clear hw; subst hw2; try rw [hv]))
          go_ret
          exact ⟨rB (by rw [E.out]), _, rfl⟩
        · cases hv0 : (v == 0)
          all_goals
            have E : Hid (Pl.stepOk 3 p v = (v == 0)) := hide (by simp only [Pl.stepOk, hp]; rfl)
            rw [hv0] at E
            go_enter Try.func43, Try.ntmps43
            go_wp2_with (first
              | (go_at_call 53; refine (l5Port _ _).mono ?_; rintro e w9 ⟨rfl, hw⟩; have hw2 := hw.symm; clear hw; subst hw2; try rw [hp])
              | (go_at_call 38; refine (l1In _ _ _ _).mono ?_; rintro e w9 ⟨rfl, hw⟩; have hw2 := hw.symm; clear hw; subst hw2; try rw [hv]))
            go_ret
            exact ⟨rB (by rw [E.out]), _, rfl⟩
      · have q3 : (k == 3) = false := by simpa using k3
        have G : Pl.stepOk k p v = ((k == 4) && (Pl.port p && (decide (0 ≤ v) && decide (v ≤ 255)))) := by unfold Pl.stepOk; rw [if_neg k1, if_neg k2, if_neg k3]; rfl
        have HG := hide G
        clear G
        cases q4 : (k == 4)
        · have E : Hid (Pl.stepOk k p v = false) := hide (by rw [HG.out, q4]; rfl)
          go_enter Try.func43, Try.ntmps43
          go_wp2_with (first
            | (go_at_call 53; refine (l5Port _ _).mono ?_; rintro e w9 ⟨rfl, hw⟩; have hw2 := hw.symm; clear hw; subst hw2; try rw [hp])
            | (go_at_call 38; refine (l1In _ _ _ _).mono ?_; rintro e w9 ⟨rfl, hw⟩; have hw2 := hw.symm; clear hw; subst hw2; try rw [hv]))
          go_ret
          exact ⟨rB (by rw [E.out]), _, rfl⟩
        · cases hp : Pl.port p
          · have E : Hid (Pl.stepOk k p v = false) := hide (by rw [HG.out, q4, hp]; rfl)
            go_enter Try.func43, Try.ntmps43
            go_wp2_with (first
              | (go_at_call 53; refine (l5Port _ _).mono ?_; rintro e w9 ⟨rfl, hw⟩; have hw2 := hw.symm; clear hw; subst hw2; try rw [hp])
              | (go_at_call 38; refine (l1In _ _ _ _).mono ?_; rintro e w9 ⟨rfl, hw⟩; have hw2 := hw.symm; clear hw; subst hw2; try rw [hv]))
            go_ret
            exact ⟨rB (by rw [E.out]), _, rfl⟩
          · cases hv : (decide (0 ≤ v) && decide (v ≤ 255))
            all_goals
              have E : Hid (Pl.stepOk k p v = (decide (0 ≤ v) && decide (v ≤ 255))) := hide (by rw [HG.out, q4, hp]; rfl)
              rw [hv] at E
              go_enter Try.func43, Try.ntmps43
              go_wp2_with (first
                | (go_at_call 53; refine (l5Port _ _).mono ?_; rintro e w9 ⟨rfl, hw⟩; have hw2 := hw.symm; clear hw; subst hw2; try rw [hp])
                | (go_at_call 38; refine (l1In _ _ _ _).mono ?_; rintro e w9 ⟨rfl, hw⟩; have hw2 := hw.symm; clear hw; subst hw2; try rw [hv]))
              go_ret
              exact ⟨rB (by rw [E.out]), _, rfl⟩
end Go.Proofs.Ytlocilcnmbmikaa
