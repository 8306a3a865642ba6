/- What the model of PlaceOf answers, for every argument. -/
import Derived.Test.YtblddehlkaolbaaGreatDoorJA4
import Derived.Deep.RegionWith
namespace Go.Proofs.YtblddehlkaolbaaGreatDoor
open Go.RowKit
set_option linter.unusedVariables false

theorem specBy (z k : Int) (w : World) : Calls Tryz.prog 152 #[.int .i64 z, .int .i64 k] w fun e w' => e = .returned (.int .i64 (Pl.byN z k)) ∧ w' = w := by
  by_cases h1 : z = 1
  · subst h1
    cases h2 : (k != 3)
    all_goals
      have q : Hid (k = 3 ∨ k ≠ 3) := hide (by omega)
      go_enter Tryz.func152, Tryz.ntmps152
      go_wp2
      go_ret
      simp at h2
      exact ⟨rI (by simp [Pl.byN, h2]), rfl⟩
  · have q1 : (z == 1) = false := by simpa using h1
    go_enter Tryz.func152, Tryz.ntmps152
    go_wp2
    go_ret
    exact ⟨rI (by simp [Pl.byN, h1]), rfl⟩
theorem byN_in (z k : Int) : 1 ≤ Pl.byN z k ∧ Pl.byN z k ≤ 2 := by unfold Pl.byN; split <;> omega

set_option maxHeartbeats 8000000 in
theorem specPlace (w : World) (lo hi : Nat) (r : Pl.Rg) (a b : Option Addr) (ca cb : Nat) (z m k e : Int) (hr : RegAt w lo hi r a b) (hh : hi ≤ w.heap.size) (hg : Pl.Good r) (k0 : 0 ≤ k) (k1 : k ≤ 3) (e0 : 0 ≤ e) (e1 : e ≤ 65535) (hm : m = 2 ∨ m = 3 ∨ m = 4 ∨ m = 5 ∨ m = 6) :
    Calls Tryz.prog 115 #[.agg #[.slice a r.xs.length ca, .slice b r.ys.length cb, .int .i64 r.o, .int .i64 r.p, .int .i64 r.f, .int .i64 r.m, .bool r.s, .bool r.t], .int .i64 z, .agg #[.int .i64 m, .int .i64 k, .int .i64 e]] w fun e' w' => e' = .returned (.tuple #[.agg #[.slice a (Pl.placeR r z m k e).xs.length ca, .slice b (Pl.placeR r z m k e).ys.length cb, .int .i64 (Pl.placeR r z m k e).o, .int .i64 (Pl.placeR r z m k e).p, .int .i64 (Pl.placeR r z m k e).f, .int .i64 (Pl.placeR r z m k e).m, .bool (Pl.placeR r z m k e).s, .bool (Pl.placeR r z m k e).t], .int .i64 (Pl.placeV r z m k e)]) ∧ RegAt w' lo hi (Pl.placeR r z m k e) a b ∧ Kept lo hi w w' := by
  obtain ⟨kn, rfl⟩ : ∃ kn : Nat, k = (kn : Int) := ⟨k.toNat, by omega⟩
  have HR := hide hr
  have h4 := hg.a4
  have hl : (kn : Int) < (r.ys.length : Int) := by omega
  have HL := hide h4
  obtain ⟨x0, x1⟩ := hg.aw kn (by omega)
  obtain ⟨y0, y1⟩ := byN_in z (kn : Int)
  clear h4
  obtain ⟨s1, s2, s3⟩ := hr
  rcases s2 with ⟨_, ee⟩ | ⟨g, rfl, b0, b1, hown⟩
  · rw [ee] at hl; simp at hl; omega
  · have c3 : w.cell? ⟨g, kn, none⟩ = some (.int .i64 (el r.ys kn)) := (hown kn (by omega)).1
    have f3 := (hown kn (by omega)).2
    have b9 : g < w.heap.size := by omega
    have b2 : g < w.heap.size + 1 := by omega
    have b3 : g < w.heap.size + 1 + 1 := by omega
    clear hown s1 s3
    have KX := hide (kept_new (kept_new (kept_alloc w (.cells #[.slice a r.xs.length ca, .slice (some ⟨g, 0, none⟩) r.ys.length cb, .int .i64 r.o, .int .i64 r.p, .int .i64 r.f, .int .i64 r.m, .bool r.s, .bool r.t] 31)) (.cells #[.int .i64 m, .int .i64 (kn : Int), .int .i64 e] 77)) (.cells #[.slice none 0 0, .slice none 0 0, .int .i64 0, .int .i64 0, .int .i64 0, .int .i64 0, .bool false, .bool false] 31))
    rcases hm with rfl | rfl | rfl | rfl | rfl
    · have E : Hid (Pl.placeR r z 2 (kn : Int) e = r) := hide (by simp [Pl.placeR])
      have EV : Hid (Pl.placeV r z 2 (kn : Int) e = el r.ys kn) := hide (by simp [Pl.placeV])
      go_enter Tryz.func115, Tryz.ntmps115
      go_wp2_with fail
      refine bodyPost_ret (v := .tuple #[.agg #[.slice a r.xs.length ca, .slice (some ⟨g, 0, none⟩) r.ys.length cb, .int .i64 r.o, .int .i64 r.p, .int .i64 r.f, .int .i64 r.m, .bool r.s, .bool r.t], .int .i64 (el r.ys kn)]) ?_ rfl ?_
      · rw [results_cell_tmp rfl]; go_simp
      · rw [E.out, EV.out]
        exact ⟨rfl, HR.out.kept (kept_new (kept_new (kept_alloc _ _) _) _) (by omega), (kept_new (kept_new (kept_alloc _ _) _) _).any⟩
    · have E : Hid (Pl.placeR r z 3 (kn : Int) e = { r with ys := r.ys.set kn ((el r.ys kn + Pl.byN z kn) % 65536) }) := hide (by simp [Pl.placeR])
      have EV : Hid (Pl.placeV r z 3 (kn : Int) e = el r.ys kn) := hide (by simp [Pl.placeV])
      have hb := Pl.and65535 (el r.ys kn + Pl.byN z kn)
      generalize hN : Pl.byN z (kn : Int) = N at y0 y1 E hb
      have HN := hide hN
      clear hN
      go_enter Tryz.func115, Tryz.ntmps115
      go_upto_region 4 with fail
      obtain ⟨X, hX⟩ : ∃ X : World, X = ((w.alloc (.cells #[.slice a r.xs.length ca, .slice (some ⟨g, 0, none⟩) r.ys.length cb, .int .i64 r.o, .int .i64 r.p, .int .i64 r.f, .int .i64 r.m, .bool r.s, .bool r.t] 31)).alloc (.cells #[.int .i64 3, .int .i64 (kn : Int), .int .i64 e] 77)).alloc (.cells #[.slice none 0 0, .slice none 0 0, .int .i64 0, .int .i64 0, .int .i64 0, .int .i64 0, .bool false, .bool false] 31) := ⟨_, rfl⟩
      have KY : Hid (Kept 0 0 w X) := hide (by rw [hX]; exact kept_new (kept_new (kept_alloc _ _) _) _)
      have B0 : Hid (Blk X w.heap.size #[.slice a r.xs.length ca, .slice (some ⟨g, 0, none⟩) r.ys.length cb, .int .i64 r.o, .int .i64 r.p, .int .i64 r.f, .int .i64 r.m, .bool r.s, .bool r.t] 31) := hide (by rw [hX]; exact ((Blk.new w _ _).alloc _).alloc _)
      have Q0 : Hid (Blk X (w.heap.size + 1) #[.int .i64 3, .int .i64 (kn : Int), .int .i64 e] 77) := hide (by rw [hX]; have := (Blk.new (w.alloc (.cells #[.slice a r.xs.length ca, .slice (some ⟨g, 0, none⟩) r.ys.length cb, .int .i64 r.o, .int .i64 r.p, .int .i64 r.f, .int .i64 r.m, .bool r.s, .bool r.t] 31)) #[.int .i64 3, .int .i64 (kn : Int), .int .i64 e] 77).alloc (.cells #[.slice none 0 0, .slice none 0 0, .int .i64 0, .int .i64 0, .int .i64 0, .int .i64 0, .bool false, .bool false] 31); simpa only [World.size_alloc] using this)
      have R0 : Hid (Blk X (w.heap.size + 1 + 1) #[.slice none 0 0, .slice none 0 0, .int .i64 0, .int .i64 0, .int .i64 0, .int .i64 0, .bool false, .bool false] 31) := hide (by rw [hX]; have := Blk.new ((w.alloc (.cells #[.slice a r.xs.length ca, .slice (some ⟨g, 0, none⟩) r.ys.length cb, .int .i64 r.o, .int .i64 r.p, .int .i64 r.f, .int .i64 r.m, .bool r.s, .bool r.t] 31)).alloc (.cells #[.int .i64 3, .int .i64 (kn : Int), .int .i64 e] 77)) #[.slice none 0 0, .slice none 0 0, .int .i64 0, .int .i64 0, .int .i64 0, .int .i64 0, .bool false, .bool false] 31; simpa only [World.size_alloc] using this)
      rw [← hX]
      have d3 : X.cell? ⟨g, kn, none⟩ = some (.int .i64 (el r.ys kn)) := by rw [hX]; go_simp
      have g3 : X.frozen? ⟨g, kn, none⟩ = false := by rw [hX]; go_simp
      clear hX c3 f3 KX
      have t0 := B0.out.cell (i := 1) rfl
      have t1 := Q0.out.cell (i := 1) rfl
      have hw64 : IntKind.i64.wrap (el r.ys kn + N) = el r.ys kn + N := w64 (by omega) (by omega)
      go_region_with (first | (go_at_call 152; refine (specBy _ _ _).mono ?_; rw [HN.out]; rintro e w' ⟨rfl, hw⟩; have hw2 := hw.symm; clear hw; subst hw2) | fail)
      all_goals
        obtain ⟨Y, hY⟩ : ∃ Y : World, Y = (X.setCell ⟨g, kn, none⟩ (.int .i64 ((el r.ys kn + N) % 65536))).drew := ⟨_, rfl⟩
        rw [← hY]
        have A3 : RegAt Y lo hi { r with ys := r.ys.set kn ((el r.ys kn + N) % 65536) } a (some ⟨g, 0, none⟩) := by
          rw [hY]
          exact ((HR.out.kept (KY.out) (by omega)).setY (k := kn) ((el r.ys kn + N) % 65536) (by have := HL.out; omega)).kept (kept_drew (Kept.refl 0 0 _)) (by omega)
        have K3 : Kept lo hi w Y := by
          rw [hY]
          exact kept_drew (kept_set KY.out.any _ _ _ (.inl ⟨b0, b1⟩))
        have B1 : Hid (Blk Y w.heap.size #[.slice a r.xs.length ca, .slice (some ⟨g, 0, none⟩) r.ys.length cb, .int .i64 r.o, .int .i64 r.p, .int .i64 r.f, .int .i64 r.m, .bool r.s, .bool r.t] 31) := hide (by rw [hY]; exact B0.out.other _ _ _ (by omega))
        have R1 : Hid (Blk Y (w.heap.size + 1 + 1) #[.slice none 0 0, .slice none 0 0, .int .i64 0, .int .i64 0, .int .i64 0, .int .i64 0, .bool false, .bool false] 31) := hide (by rw [hY]; exact R0.out.other _ _ _ (by omega))
        have nR := R1.out.lt
        clear hY d3 g3 t0 t1 hb hw64
        have mm0 := B1.out.cell (i := 0) rfl
        have mm1 := B1.out.cell (i := 1) rfl
        have mm2 := B1.out.cell (i := 2) rfl
        have mm3 := B1.out.cell (i := 3) rfl
        have mm4 := B1.out.cell (i := 4) rfl
        have mm5 := B1.out.cell (i := 5) rfl
        have mm6 := B1.out.cell (i := 6) rfl
        have mm7 := B1.out.cell (i := 7) rfl
        have nn0 := R1.out.cell (i := 0) rfl
        have nnf0 := R1.out.frozen 0
        have nn1 := R1.out.cell (i := 1) rfl
        have nnf1 := R1.out.frozen 1
        have nn2 := R1.out.cell (i := 2) rfl
        have nnf2 := R1.out.frozen 2
        have nn3 := R1.out.cell (i := 3) rfl
        have nnf3 := R1.out.frozen 3
        have nn4 := R1.out.cell (i := 4) rfl
        have nnf4 := R1.out.frozen 4
        have nn5 := R1.out.cell (i := 5) rfl
        have nnf5 := R1.out.frozen 5
        have nn6 := R1.out.cell (i := 6) rfl
        have nnf6 := R1.out.frozen 6
        have nn7 := R1.out.cell (i := 7) rfl
        have nnf7 := R1.out.frozen 7
        go_wp2_with fail
        refine bodyPost_ret (v := .tuple #[.agg #[.slice a r.xs.length ca, .slice (some ⟨g, 0, none⟩) r.ys.length cb, .int .i64 r.o, .int .i64 r.p, .int .i64 r.f, .int .i64 r.m, .bool r.s, .bool r.t], .int .i64 (el r.ys kn)]) ?_ rfl ?_
        · rw [results_cell_tmp rfl]; go_simp
        · rw [E.out, EV.out]
          refine ⟨?_, ((((((((A3.set _ _ _ (.inl (by omega))).set _ _ _ (.inl (by omega))).set _ _ _ (.inl (by omega))).set _ _ _ (.inl (by omega))).set _ _ _ (.inl (by omega))).set _ _ _ (.inl (by omega))).set _ _ _ (.inl (by omega))).set _ _ _ (.inl (by omega))), (kept_set (kept_set (kept_set (kept_set (kept_set (kept_set (kept_set (kept_set K3 _ _ _ (.inr (by omega))) _ _ _ (.inr (by omega))) _ _ _ (.inr (by omega))) _ _ _ (.inr (by omega))) _ _ _ (.inr (by omega))) _ _ _ (.inr (by omega))) _ _ _ (.inr (by omega))) _ _ _ (.inr (by omega)))⟩
          simp
    · have E : Hid (Pl.placeR r z 4 (kn : Int) e = { r with ys := r.ys.set kn ((el r.ys kn - Pl.byN z kn) % 65536) }) := hide (by simp [Pl.placeR])
      have EV : Hid (Pl.placeV r z 4 (kn : Int) e = (el r.ys kn - Pl.byN z kn) % 65536) := hide (by simp [Pl.placeV])
      have hb := Pl.and65535 (el r.ys kn - Pl.byN z kn)
      generalize hN : Pl.byN z (kn : Int) = N at y0 y1 E EV hb
      have HN := hide hN
      clear hN
      go_enter Tryz.func115, Tryz.ntmps115
      go_wp2_with (go_at_call 152; refine (specBy _ _ _).mono ?_; rw [HN.out]; rintro e w' ⟨rfl, hw⟩; have hw2 := hw.symm; clear hw; subst hw2)
      refine bodyPost_ret (v := .tuple #[.agg #[.slice a r.xs.length ca, .slice (some ⟨g, 0, none⟩) r.ys.length cb, .int .i64 r.o, .int .i64 r.p, .int .i64 r.f, .int .i64 r.m, .bool r.s, .bool r.t], .int .i64 ((el r.ys kn - N) % 65536)]) ?_ rfl ?_
      · rw [results_cell_tmp rfl]; go_simp
      · rw [E.out, EV.out]
        refine ⟨?_, (HR.out.setY (k := kn) _ (by have := HL.out; omega)).kept (kept_new (kept_new (kept_alloc _ _) _) _) (by omega), (kept_set (Kept.refl _ _ _) _ _ _ (.inl ⟨b0, b1⟩)).trans (kept_new (kept_new (kept_alloc _ _) _) _).any⟩
        simp
    · have E : Hid (Pl.placeR r z 5 (kn : Int) e = r) := hide (by simp [Pl.placeR])
      have EV : Hid (Pl.placeV r z 5 (kn : Int) e = (el r.ys kn + e) % 65536) := hide (by simp [Pl.placeV])
      have hb := Pl.and65535 (el r.ys kn + e)
      go_enter Tryz.func115, Tryz.ntmps115
      go_wp2_with fail
      refine bodyPost_ret (v := .tuple #[.agg #[.slice a r.xs.length ca, .slice (some ⟨g, 0, none⟩) r.ys.length cb, .int .i64 r.o, .int .i64 r.p, .int .i64 r.f, .int .i64 r.m, .bool r.s, .bool r.t], .int .i64 ((el r.ys kn + e) % 65536)]) ?_ rfl ?_
      · rw [results_cell_tmp rfl]; go_simp
      · rw [E.out, EV.out]
        exact ⟨rfl, HR.out.kept (kept_new (kept_new (kept_alloc _ _) _) _) (by omega), (kept_new (kept_new (kept_alloc _ _) _) _).any⟩
    · have E : Hid (Pl.placeR r z 6 (kn : Int) e = r) := hide (by simp [Pl.placeR])
      have EV : Hid (Pl.placeV r z 6 (kn : Int) e = e) := hide (by simp [Pl.placeV])
      go_enter Tryz.func115, Tryz.ntmps115
      go_wp2_with fail
      refine bodyPost_ret (v := .tuple #[.agg #[.slice a r.xs.length ca, .slice (some ⟨g, 0, none⟩) r.ys.length cb, .int .i64 r.o, .int .i64 r.p, .int .i64 r.f, .int .i64 r.m, .bool r.s, .bool r.t], .int .i64 e]) ?_ rfl ?_
      · rw [results_cell_tmp rfl]; go_simp
      · rw [E.out, EV.out]
        exact ⟨rfl, HR.out.kept (kept_new (kept_new (kept_alloc _ _) _) _) (by omega), (kept_new (kept_new (kept_alloc _ _) _) _).any⟩
end Go.Proofs.YtblddehlkaolbaaGreatDoor

