/- What the model of a step does to a device; its ports and steps, for every argument. -/
import Derived.Test.YtlocilcnmbmikaaSpecDev4
namespace Go.Proofs.Ytlocilcnmbmikaa
open Go.RowKit
set_option linter.unusedVariables false

theorem SlotIn.setOther {w : World} {l h : Nat} {a : Option Addr} {xs : List Int} (s : SlotIn w l h a xs) (x i : Nat) (v : Value) (hx : ∀ g, blk a = some g → g ≠ x) : SlotIn (w.setCell ⟨x, i, none⟩ v) l h a xs := by
  rcases s with s | ⟨g, ea, g0, g1, ho⟩
  · exact .inl s
  · exact .inr ⟨g, ea, g0, g1, ho.setOther _ _ _ (hx g (by rw [ea]; rfl))⟩
theorem DevIn.setOther {w : World} {base : Nat} {d : Pl.Dev} {a b : Option Addr} {ca : Nat} (h : DevIn w base d a b ca) (x i : Nat) (v : Value) (hx : ∀ g, blk a = some g ∨ blk b = some g → g ≠ x) : DevIn (w.setCell ⟨x, i, none⟩ v) base d a b ca := by
  refine ⟨?_, ?_, h.2.2.1, h.2.2.2⟩
  · have := h.1.setOther x i v (fun g hg => hx g (.inl hg))
    rwa [show (w.setCell ⟨x, i, none⟩ v).heap.size = w.heap.size from by simp]
  · have := h.2.1.setOther x i v (fun g hg => hx g (.inr hg))
    rwa [show (w.setCell ⟨x, i, none⟩ v).heap.size = w.heap.size from by simp]

set_option maxRecDepth 20000 in
set_option maxHeartbeats 8000000 in
theorem l5Step (w : World) (base : Nat) (d : Pl.Dev) (a b : Option Addr) (ca cb : Nat) (k p v : Int) (hD : DevIn w base d a b ca) (hb : base ≤ w.heap.size) (hS : Pl.Small d) (hs : Pl.stepOk k p v = true) :
    Calls Try.prog 44 #[.agg #[.int .i64 d.e, .int .i64 d.l, .bool d.r, .slice a d.xs.length ca, .slice b d.ys.length cb, .int .i64 d.t], .agg #[.int .i64 k, .int .i64 p, .int .i64 v]] w fun e w' => DevRetV e w w' base (Pl.stepD d k p v) (Pl.stepV d k p v) a b := by
  have HD := hide hD
  clear hD
  rcases Pl.step_ok hs with ⟨rfl, rfl, rfl⟩ | ⟨rfl, rfl, v0, v1⟩ | ⟨rfl, ⟨p0, p3⟩, rfl⟩ | ⟨rfl, ⟨p0, p3⟩, v0, v1⟩
  · have EV : Hid (Pl.stepV d 1 0 0 = 0) := hide (by simp [Pl.stepV])
    obtain ⟨D, hDD⟩ : ∃ D, D = Pl.tick d := ⟨_, rfl⟩
    have ED : Hid (Pl.stepD d 1 0 0 = D) := hide (by rw [hDD]; simp [Pl.stepD])
    have K0 := hide (kept_new (kept_new (kept_alloc w (.cells #[.int .i64 d.e, .int .i64 d.l, .bool d.r, .slice a d.xs.length ca, .slice b d.ys.length cb, .int .i64 d.t] 24)) (.cells #[.int .i64 1, .int .i64 0, .int .i64 0] 38)) (.cells #[.int .i64 0, .int .i64 0, .bool false, .slice none 0 0, .slice none 0 0, .int .i64 0] 24))
    have R0 := Blk.new ((w.alloc (.cells #[.int .i64 d.e, .int .i64 d.l, .bool d.r, .slice a d.xs.length ca, .slice b d.ys.length cb, .int .i64 d.t] 24)).alloc (.cells #[.int .i64 1, .int .i64 0, .int .i64 0] 38)) #[.int .i64 0, .int .i64 0, .bool false, .slice none 0 0, .slice none 0 0, .int .i64 0] 24
    simp only [World.size_alloc] at R0
    replace R0 := hide R0
    go_enter Try.func44, Try.ntmps44
    go_wp2_with fail
    have CN := l5Tick _ base d a b ca cb (HD.out.kept K0.out) (by simp; omega) hS
    rw [← hDD] at CN
    refine CN.mono ?_
    clear CN hDD
    rintro e w1 ⟨a', b', ca', cb', rfl, hD1, k1, hn1⟩
    have R1 := hide (R0.out.kept0 k1)
    have HD1 := hide hD1
    have K1 := hide (K0.out.trans k1)
    have HX : Hid (∀ g, blk a' = some g ∨ blk b' = some g → g ≠ w.heap.size + 1 + 1) := hide (by
      intro g hg
      rcases hn1 g hg with h | h
      · rcases h with h | h
        · have := HD.out.1.blk_in g h; omega
        · have := HD.out.2.1.blk_in g h; omega
      · simp at h; omega)
    have HN : Hid (∀ g, blk a' = some g ∨ blk b' = some g → (blk a = some g ∨ blk b = some g) ∨ w.heap.size ≤ g) := hide (by
      intro g hg
      rcases hn1 g hg with h | h
      · exact .inl h
      · exact .inr (by simp at h; omega))
    have y0 := R1.out.cell (i := 0) rfl
    have y1 := R1.out.cell (i := 1) rfl
    have y2 := R1.out.cell (i := 2) rfl
    have y3 := R1.out.cell (i := 3) rfl
    have y4 := R1.out.cell (i := 4) rfl
    have y5 := R1.out.cell (i := 5) rfl
    have u0 := R1.out.frozen 0
    have u1 := R1.out.frozen 1
    have u2 := R1.out.frozen 2
    have u3 := R1.out.frozen 3
    have u4 := R1.out.frozen 4
    have u5 := R1.out.frozen 5
    clear hD1 k1 hn1
    go_wp2_with fail
    have N0 : ∀ v0 v1 v2 v3 v4 v5, Kept 0 0 w ((((((w1.setCell ⟨w.heap.size + 1 + 1, 0, none⟩ v0).setCell ⟨w.heap.size + 1 + 1, 1, none⟩ v1).setCell ⟨w.heap.size + 1 + 1, 2, none⟩ v2).setCell ⟨w.heap.size + 1 + 1, 3, none⟩ v3).setCell ⟨w.heap.size + 1 + 1, 4, none⟩ v4).setCell ⟨w.heap.size + 1 + 1, 5, none⟩ v5) := fun v0 v1 v2 v3 v4 v5 => (kept_set (kept_set (kept_set (kept_set (kept_set (kept_set K1.out _ _ _ (.inr (by omega))) _ _ _ (.inr (by omega))) _ _ _ (.inr (by omega))) _ _ _ (.inr (by omega))) _ _ _ (.inr (by omega))) _ _ _ (.inr (by omega)))
    refine bodyPost_ret (v := .tuple #[.agg #[.int .i64 D.e, .int .i64 D.l, .bool D.r, .slice a' D.xs.length ca', .slice b' D.ys.length cb', .int .i64 D.t], .int .i64 0]) ?_ rfl (devRetV a' b' ca' cb' ?_ ?_ ?_ HN.out)
    · rw [results_cell_tmp rfl]; go_simp
    · rw [ED.out, EV.out]
    · rw [ED.out]; exact ((((((HD1.out.setOther _ _ _ HX.out).setOther _ _ _ HX.out).setOther _ _ _ HX.out).setOther _ _ _ HX.out).setOther _ _ _ HX.out).setOther _ _ _ HX.out)
    · exact N0 _ _ _ _ _ _
  · have EV : Hid (Pl.stepV d 2 0 v = 0) := hide (by simp [Pl.stepV])
    obtain ⟨D, hDD⟩ : ∃ D, D = Pl.come d v := ⟨_, rfl⟩
    have ED : Hid (Pl.stepD d 2 0 v = D) := hide (by rw [hDD]; simp [Pl.stepD])
    have K0 := hide (kept_new (kept_new (kept_alloc w (.cells #[.int .i64 d.e, .int .i64 d.l, .bool d.r, .slice a d.xs.length ca, .slice b d.ys.length cb, .int .i64 d.t] 24)) (.cells #[.int .i64 2, .int .i64 0, .int .i64 v] 38)) (.cells #[.int .i64 0, .int .i64 0, .bool false, .slice none 0 0, .slice none 0 0, .int .i64 0] 24))
    have R0 := Blk.new ((w.alloc (.cells #[.int .i64 d.e, .int .i64 d.l, .bool d.r, .slice a d.xs.length ca, .slice b d.ys.length cb, .int .i64 d.t] 24)).alloc (.cells #[.int .i64 2, .int .i64 0, .int .i64 v] 38)) #[.int .i64 0, .int .i64 0, .bool false, .slice none 0 0, .slice none 0 0, .int .i64 0] 24
    simp only [World.size_alloc] at R0
    replace R0 := hide R0
    go_enter Try.func44, Try.ntmps44
    go_wp2_with fail
    have CN := l5Come _ base d a b ca cb v (HD.out.kept K0.out) (by simp; omega) hS
    rw [← hDD] at CN
    refine CN.mono ?_
    clear CN hDD
    rintro e w1 ⟨a', b', ca', cb', rfl, hD1, k1, hn1⟩
    have R1 := hide (R0.out.kept0 k1)
    have HD1 := hide hD1
    have K1 := hide (K0.out.trans k1)
    have HX : Hid (∀ g, blk a' = some g ∨ blk b' = some g → g ≠ w.heap.size + 1 + 1) := hide (by
      intro g hg
      rcases hn1 g hg with h | h
      · rcases h with h | h
        · have := HD.out.1.blk_in g h; omega
        · have := HD.out.2.1.blk_in g h; omega
      · simp at h; omega)
    have HN : Hid (∀ g, blk a' = some g ∨ blk b' = some g → (blk a = some g ∨ blk b = some g) ∨ w.heap.size ≤ g) := hide (by
      intro g hg
      rcases hn1 g hg with h | h
      · exact .inl h
      · exact .inr (by simp at h; omega))
    have y0 := R1.out.cell (i := 0) rfl
    have y1 := R1.out.cell (i := 1) rfl
    have y2 := R1.out.cell (i := 2) rfl
    have y3 := R1.out.cell (i := 3) rfl
    have y4 := R1.out.cell (i := 4) rfl
    have y5 := R1.out.cell (i := 5) rfl
    have u0 := R1.out.frozen 0
    have u1 := R1.out.frozen 1
    have u2 := R1.out.frozen 2
    have u3 := R1.out.frozen 3
    have u4 := R1.out.frozen 4
    have u5 := R1.out.frozen 5
    clear hD1 k1 hn1
    go_wp2_with fail
    have N0 : ∀ v0 v1 v2 v3 v4 v5, Kept 0 0 w ((((((w1.setCell ⟨w.heap.size + 1 + 1, 0, none⟩ v0).setCell ⟨w.heap.size + 1 + 1, 1, none⟩ v1).setCell ⟨w.heap.size + 1 + 1, 2, none⟩ v2).setCell ⟨w.heap.size + 1 + 1, 3, none⟩ v3).setCell ⟨w.heap.size + 1 + 1, 4, none⟩ v4).setCell ⟨w.heap.size + 1 + 1, 5, none⟩ v5) := fun v0 v1 v2 v3 v4 v5 => (kept_set (kept_set (kept_set (kept_set (kept_set (kept_set K1.out _ _ _ (.inr (by omega))) _ _ _ (.inr (by omega))) _ _ _ (.inr (by omega))) _ _ _ (.inr (by omega))) _ _ _ (.inr (by omega))) _ _ _ (.inr (by omega)))
    refine bodyPost_ret (v := .tuple #[.agg #[.int .i64 D.e, .int .i64 D.l, .bool D.r, .slice a' D.xs.length ca', .slice b' D.ys.length cb', .int .i64 D.t], .int .i64 0]) ?_ rfl (devRetV a' b' ca' cb' ?_ ?_ ?_ HN.out)
    · rw [results_cell_tmp rfl]; go_simp
    · rw [ED.out, EV.out]
    · rw [ED.out]; exact ((((((HD1.out.setOther _ _ _ HX.out).setOther _ _ _ HX.out).setOther _ _ _ HX.out).setOther _ _ _ HX.out).setOther _ _ _ HX.out).setOther _ _ _ HX.out)
    · exact N0 _ _ _ _ _ _
  · have EV : Hid (Pl.stepV d 3 p 0 = Pl.rdV d p) := hide (by simp [Pl.stepV])
    obtain ⟨D, hDD⟩ : ∃ D, D = Pl.rdD d p := ⟨_, rfl⟩
    have ED : Hid (Pl.stepD d 3 p 0 = D) := hide (by rw [hDD]; simp [Pl.stepD])
    have K0 := hide (kept_new (kept_new (kept_alloc w (.cells #[.int .i64 d.e, .int .i64 d.l, .bool d.r, .slice a d.xs.length ca, .slice b d.ys.length cb, .int .i64 d.t] 24)) (.cells #[.int .i64 3, .int .i64 p, .int .i64 0] 38)) (.cells #[.int .i64 0, .int .i64 0, .bool false, .slice none 0 0, .slice none 0 0, .int .i64 0] 24))
    have R0 := Blk.new ((w.alloc (.cells #[.int .i64 d.e, .int .i64 d.l, .bool d.r, .slice a d.xs.length ca, .slice b d.ys.length cb, .int .i64 d.t] 24)).alloc (.cells #[.int .i64 3, .int .i64 p, .int .i64 0] 38)) #[.int .i64 0, .int .i64 0, .bool false, .slice none 0 0, .slice none 0 0, .int .i64 0] 24
    simp only [World.size_alloc] at R0
    replace R0 := hide R0
    go_enter Try.func44, Try.ntmps44
    go_wp2_with fail
    have CN := l5Read _ base d a b ca cb p (HD.out.kept K0.out) (by simp; omega) hS p0 p3
    rw [← hDD] at CN
    refine CN.mono ?_
    clear CN hDD
    rintro e w1 ⟨a', b', ca', cb', rfl, hD1, k1, hn1⟩
    have R1 := hide (R0.out.kept0 k1)
    have HD1 := hide hD1
    have K1 := hide (K0.out.trans k1)
    have HX : Hid (∀ g, blk a' = some g ∨ blk b' = some g → g ≠ w.heap.size + 1 + 1) := hide (by
      intro g hg
      rcases hn1 g hg with h | h
      · rcases h with h | h
        · have := HD.out.1.blk_in g h; omega
        · have := HD.out.2.1.blk_in g h; omega
      · simp at h; omega)
    have HN : Hid (∀ g, blk a' = some g ∨ blk b' = some g → (blk a = some g ∨ blk b = some g) ∨ w.heap.size ≤ g) := hide (by
      intro g hg
      rcases hn1 g hg with h | h
      · exact .inl h
      · exact .inr (by simp at h; omega))
    have y0 := R1.out.cell (i := 0) rfl
    have y1 := R1.out.cell (i := 1) rfl
    have y2 := R1.out.cell (i := 2) rfl
    have y3 := R1.out.cell (i := 3) rfl
    have y4 := R1.out.cell (i := 4) rfl
    have y5 := R1.out.cell (i := 5) rfl
    have u0 := R1.out.frozen 0
    have u1 := R1.out.frozen 1
    have u2 := R1.out.frozen 2
    have u3 := R1.out.frozen 3
    have u4 := R1.out.frozen 4
    have u5 := R1.out.frozen 5
    clear hD1 k1 hn1
    go_wp2_with fail
    have N0 : ∀ v0 v1 v2 v3 v4 v5, Kept 0 0 w ((((((w1.setCell ⟨w.heap.size + 1 + 1, 0, none⟩ v0).setCell ⟨w.heap.size + 1 + 1, 1, none⟩ v1).setCell ⟨w.heap.size + 1 + 1, 2, none⟩ v2).setCell ⟨w.heap.size + 1 + 1, 3, none⟩ v3).setCell ⟨w.heap.size + 1 + 1, 4, none⟩ v4).setCell ⟨w.heap.size + 1 + 1, 5, none⟩ v5) := fun v0 v1 v2 v3 v4 v5 => (kept_set (kept_set (kept_set (kept_set (kept_set (kept_set K1.out _ _ _ (.inr (by omega))) _ _ _ (.inr (by omega))) _ _ _ (.inr (by omega))) _ _ _ (.inr (by omega))) _ _ _ (.inr (by omega))) _ _ _ (.inr (by omega)))
    refine bodyPost_ret (v := .tuple #[.agg #[.int .i64 D.e, .int .i64 D.l, .bool D.r, .slice a' D.xs.length ca', .slice b' D.ys.length cb', .int .i64 D.t], .int .i64 (Pl.rdV d p)]) ?_ rfl (devRetV a' b' ca' cb' ?_ ?_ ?_ HN.out)
    · rw [results_cell_tmp rfl]; go_simp
    · rw [ED.out, EV.out]
    · rw [ED.out]; exact ((((((HD1.out.setOther _ _ _ HX.out).setOther _ _ _ HX.out).setOther _ _ _ HX.out).setOther _ _ _ HX.out).setOther _ _ _ HX.out).setOther _ _ _ HX.out)
    · exact N0 _ _ _ _ _ _
  · have EV : Hid (Pl.stepV d 4 p v = 0) := hide (by simp [Pl.stepV])
    obtain ⟨D, hDD⟩ : ∃ D, D = Pl.wrD d p v := ⟨_, rfl⟩
    have ED : Hid (Pl.stepD d 4 p v = D) := hide (by rw [hDD]; simp [Pl.stepD])
    have K0 := hide (kept_new (kept_new (kept_alloc w (.cells #[.int .i64 d.e, .int .i64 d.l, .bool d.r, .slice a d.xs.length ca, .slice b d.ys.length cb, .int .i64 d.t] 24)) (.cells #[.int .i64 4, .int .i64 p, .int .i64 v] 38)) (.cells #[.int .i64 0, .int .i64 0, .bool false, .slice none 0 0, .slice none 0 0, .int .i64 0] 24))
    have R0 := Blk.new ((w.alloc (.cells #[.int .i64 d.e, .int .i64 d.l, .bool d.r, .slice a d.xs.length ca, .slice b d.ys.length cb, .int .i64 d.t] 24)).alloc (.cells #[.int .i64 4, .int .i64 p, .int .i64 v] 38)) #[.int .i64 0, .int .i64 0, .bool false, .slice none 0 0, .slice none 0 0, .int .i64 0] 24
    simp only [World.size_alloc] at R0
    replace R0 := hide R0
    go_enter Try.func44, Try.ntmps44
    go_wp2_with fail
    have CN := l5Write _ base d a b ca cb p v (HD.out.kept K0.out) (by simp; omega) hS p0 p3
    rw [← hDD] at CN
    refine CN.mono ?_
    clear CN hDD
    rintro e w1 ⟨a', b', ca', cb', rfl, hD1, k1, hn1⟩
    have R1 := hide (R0.out.kept0 k1)
    have HD1 := hide hD1
    have K1 := hide (K0.out.trans k1)
    have HX : Hid (∀ g, blk a' = some g ∨ blk b' = some g → g ≠ w.heap.size + 1 + 1) := hide (by
      intro g hg
      rcases hn1 g hg with h | h
      · rcases h with h | h
        · have := HD.out.1.blk_in g h; omega
        · have := HD.out.2.1.blk_in g h; omega
      · simp at h; omega)
    have HN : Hid (∀ g, blk a' = some g ∨ blk b' = some g → (blk a = some g ∨ blk b = some g) ∨ w.heap.size ≤ g) := hide (by
      intro g hg
      rcases hn1 g hg with h | h
      · exact .inl h
      · exact .inr (by simp at h; omega))
    have y0 := R1.out.cell (i := 0) rfl
    have y1 := R1.out.cell (i := 1) rfl
    have y2 := R1.out.cell (i := 2) rfl
    have y3 := R1.out.cell (i := 3) rfl
    have y4 := R1.out.cell (i := 4) rfl
    have y5 := R1.out.cell (i := 5) rfl
    have u0 := R1.out.frozen 0
    have u1 := R1.out.frozen 1
    have u2 := R1.out.frozen 2
    have u3 := R1.out.frozen 3
    have u4 := R1.out.frozen 4
    have u5 := R1.out.frozen 5
    clear hD1 k1 hn1
    go_wp2_with fail
    have N0 : ∀ v0 v1 v2 v3 v4 v5, Kept 0 0 w ((((((w1.setCell ⟨w.heap.size + 1 + 1, 0, none⟩ v0).setCell ⟨w.heap.size + 1 + 1, 1, none⟩ v1).setCell ⟨w.heap.size + 1 + 1, 2, none⟩ v2).setCell ⟨w.heap.size + 1 + 1, 3, none⟩ v3).setCell ⟨w.heap.size + 1 + 1, 4, none⟩ v4).setCell ⟨w.heap.size + 1 + 1, 5, none⟩ v5) := fun v0 v1 v2 v3 v4 v5 => (kept_set (kept_set (kept_set (kept_set (kept_set (kept_set K1.out _ _ _ (.inr (by omega))) _ _ _ (.inr (by omega))) _ _ _ (.inr (by omega))) _ _ _ (.inr (by omega))) _ _ _ (.inr (by omega))) _ _ _ (.inr (by omega)))
    refine bodyPost_ret (v := .tuple #[.agg #[.int .i64 D.e, .int .i64 D.l, .bool D.r, .slice a' D.xs.length ca', .slice b' D.ys.length cb', .int .i64 D.t], .int .i64 0]) ?_ rfl (devRetV a' b' ca' cb' ?_ ?_ ?_ HN.out)
    · rw [results_cell_tmp rfl]; go_simp
    · rw [ED.out, EV.out]
    · rw [ED.out]; exact ((((((HD1.out.setOther _ _ _ HX.out).setOther _ _ _ HX.out).setOther _ _ _ HX.out).setOther _ _ _ HX.out).setOther _ _ _ HX.out).setOther _ _ _ HX.out)
    · exact N0 _ _ _ _ _ _
end Go.Proofs.Ytlocilcnmbmikaa
