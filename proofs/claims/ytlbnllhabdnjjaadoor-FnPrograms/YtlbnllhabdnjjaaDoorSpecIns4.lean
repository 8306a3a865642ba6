/- What the models of DecodeIns and EncodeIns answer, for every argument. -/
import Derived.Test.YtlbnllhabdnjjaaDoorSpecIns3
import Derived.Deep.AppendLies
import Derived.StillTailTactics
namespace Go.Proofs.YtlbnllhabdnjjaaDoor
open Go.RowKit
set_option linter.unusedVariables false
set_option linter.unusedSimpArgs false
set_option maxRecDepth 20000 in
set_option maxHeartbeats 4000000 in
theorem specDecodeIns (w : World) (n v : Int) : Calls Tryd.prog 30 #[.int .i64 n, .int .i64 v] w fun e' w' => e' = .returned (.tuple #[.agg #[.int .i64 (Pl.dec n v).op, .int .i64 (Pl.dec n v).z, .int .i64 (Pl.dec n v).r, .int .i64 (Pl.dec n v).m, .int .i64 (Pl.dec n v).k, .int .i64 (Pl.dec n v).e, .int .i64 (Pl.dec n v).s], .int .i64 (Pl.decN n v), .bool (Pl.decOk n v)]) ∧ Kept 0 0 w w' := by
  have K0 := hide (kept_alloc w (.cells #[.int .i64 0, .int .i64 0, .int .i64 0, .int .i64 0, .int .i64 0, .int .i64 0, .int .i64 0] 36))
  have R0 := hide (Blk.new w #[.int .i64 0, .int .i64 0, .int .i64 0, .int .i64 0, .int .i64 0, .int .i64 0, .int .i64 0] 36)
  cases h1 : Pl.wordOk n
  · have G : Hid (Pl.decOk n v = false) := hide (by simp only [Pl.decOk, h1]; rfl)
    go_enter Tryd.func30, Tryd.ntmps30
    go_wp2_with (first | (go_at_call 28; refine (specWord n _).mono ?_; rintro e9 w' ⟨rfl, hw⟩; have hw2 := hw.symm; clear hw; subst hw2; rw [h1]; have Z1 : True := trivial))
    refine bodyPost_ret (v := .tuple #[.agg #[.int .i64 0, .int .i64 0, .int .i64 0, .int .i64 0, .int .i64 0, .int .i64 0, .int .i64 0], .int .i64 0, .bool false]) ?_ rfl ⟨by simp [Pl.dec, Pl.decN, G.out, Pl.inNo], ?_⟩
    · rw [results_ct2 rfl]; go_simp
    · exact K0.out
  · cases h2 : Pl.wordOk v
    · have G : Hid (Pl.decOk n v = false) := hide (by simp only [Pl.decOk, h1, h2]; rfl)
      go_enter Tryd.func30, Tryd.ntmps30
      go_wp2_with (first | (go_at_call 28; have z9 := Z1; refine (specWord v _).mono ?_; rintro e9 w' ⟨rfl, hw⟩; have hw2 := hw.symm; clear hw; subst hw2; rw [h2]) | (go_at_call 28; refine (specWord n _).mono ?_; rintro e9 w' ⟨rfl, hw⟩; have hw2 := hw.symm; clear hw; subst hw2; rw [h1]; have Z1 : True := trivial))
      refine bodyPost_ret (v := .tuple #[.agg #[.int .i64 0, .int .i64 0, .int .i64 0, .int .i64 0, .int .i64 0, .int .i64 0, .int .i64 0], .int .i64 0, .bool false]) ?_ rfl ⟨by simp [Pl.dec, Pl.decN, G.out, Pl.inNo], ?_⟩
      · rw [results_ct2 rfl]; go_simp
      · exact K0.out
    · obtain ⟨x, hx⟩ : ∃ x, x = Pl.decode n v := ⟨_, rfl⟩
      have HX := hide hx
      clear hx
      cases h3 : Pl.inOk x
      · have G : Hid (Pl.decOk n v = false) := hide (by simp only [Pl.decOk, h1, h2, ← HX.out, h3]; rfl)
        go_enter Tryd.func30, Tryd.ntmps30
        go_wp2_with (first | (go_at_call 28; have z9 := Z1; refine (specWord v _).mono ?_; rintro e9 w' ⟨rfl, hw⟩; have hw2 := hw.symm; clear hw; subst hw2; rw [h2]) | (go_at_call 28; refine (specWord n _).mono ?_; rintro e9 w' ⟨rfl, hw⟩; have hw2 := hw.symm; clear hw; subst hw2; rw [h1]; have Z1 : True := trivial) | (go_at_call 56; refine (specDecode _ n v (wordIn h1).1 (wordIn h1).2).mono ?_; rintro e9 w2 ⟨rfl, k2⟩; rw [← HX.out]; have R2 := hide (R0.out.kept0 k2); have K2 := hide (K0.out.trans k2); have s2 := R2.out.lt; have y0 := R2.out.cell (i := 0) rfl; have fy0 := R2.out.frozen 0; have y1 := R2.out.cell (i := 1) rfl; have fy1 := R2.out.frozen 1; have y2 := R2.out.cell (i := 2) rfl; have fy2 := R2.out.frozen 2; have y3 := R2.out.cell (i := 3) rfl; have fy3 := R2.out.frozen 3; have y4 := R2.out.cell (i := 4) rfl; have fy4 := R2.out.frozen 4; have y5 := R2.out.cell (i := 5) rfl; have fy5 := R2.out.frozen 5; have y6 := R2.out.cell (i := 6) rfl; have fy6 := R2.out.frozen 6; clear k2) | (go_at_call 22; refine (specGoodIns _ x.op x.z x.r x.m x.k x.e x.s).mono ?_; rintro e9 w3 ⟨rfl, k3⟩; rw [show Pl.inOk ⟨x.op, x.z, x.r, x.m, x.k, x.e, x.s⟩ = Pl.inOk x from rfl, h3]; have R3 := hide ((R2.out.alloc _).kept0 k3); have X3 := hide ((Blk.new w2 #[.int .i64 x.op, .int .i64 x.z, .int .i64 x.r, .int .i64 x.m, .int .i64 x.k, .int .i64 x.e, .int .i64 x.s] 36).kept0 k3); have K3 := hide ((kept_new K2.out _).trans k3); have s3 := R3.out.lt; have q0 := R3.out.cell (i := 0) rfl; have fq0 := R3.out.frozen 0; have q1 := R3.out.cell (i := 1) rfl; have fq1 := R3.out.frozen 1; have q2 := R3.out.cell (i := 2) rfl; have fq2 := R3.out.frozen 2; have q3 := R3.out.cell (i := 3) rfl; have fq3 := R3.out.frozen 3; have q4 := R3.out.cell (i := 4) rfl; have fq4 := R3.out.frozen 4; have q5 := R3.out.cell (i := 5) rfl; have fq5 := R3.out.frozen 5; have q6 := R3.out.cell (i := 6) rfl; have fq6 := R3.out.frozen 6; have p0 := X3.out.cell (i := 0) rfl; have p1 := X3.out.cell (i := 1) rfl; have p2 := X3.out.cell (i := 2) rfl; have p3 := X3.out.cell (i := 3) rfl; have p4 := X3.out.cell (i := 4) rfl; have p5 := X3.out.cell (i := 5) rfl; have p6 := X3.out.cell (i := 6) rfl; clear k3))
        have s0 := R0.out.lt
        refine bodyPost_ret (v := .tuple #[.agg #[.int .i64 0, .int .i64 0, .int .i64 0, .int .i64 0, .int .i64 0, .int .i64 0, .int .i64 0], .int .i64 0, .bool false]) ?_ rfl ⟨by simp [Pl.dec, Pl.decN, G.out, Pl.inNo], ?_⟩
        · rw [results_ct2 rfl]; go_simp
        · exact (kept_set (kept_set (kept_set (kept_set (kept_set (kept_set (kept_set K3.out _ _ _ (.inr (by omega))) _ _ _ (.inr (by omega))) _ _ _ (.inr (by omega))) _ _ _ (.inr (by omega))) _ _ _ (.inr (by omega))) _ _ _ (.inr (by omega))) _ _ _ (.inr (by omega)))
      · have G : Hid (Pl.decOk n v = true) := hide (by simp only [Pl.decOk, h1, h2, ← HX.out, h3]; rfl)
        have EX : Hid (Pl.dec n v = x) := hide (by simp [Pl.dec, G.out, HX.out])
        have EN : Hid (Pl.decN n v = Pl.longW n) := hide (by simp [Pl.decN, G.out])
        go_enter Tryd.func30, Tryd.ntmps30
        go_wp2_with (first | (go_at_call 28; have z9 := Z1; refine (specWord v _).mono ?_; rintro e9 w' ⟨rfl, hw⟩; have hw2 := hw.symm; clear hw; subst hw2; rw [h2]) | (go_at_call 28; refine (specWord n _).mono ?_; rintro e9 w' ⟨rfl, hw⟩; have hw2 := hw.symm; clear hw; subst hw2; rw [h1]; have Z1 : True := trivial) | (go_at_call 56; refine (specDecode _ n v (wordIn h1).1 (wordIn h1).2).mono ?_; rintro e9 w2 ⟨rfl, k2⟩; rw [← HX.out]; have R2 := hide (R0.out.kept0 k2); have K2 := hide (K0.out.trans k2); have s2 := R2.out.lt; have y0 := R2.out.cell (i := 0) rfl; have fy0 := R2.out.frozen 0; have y1 := R2.out.cell (i := 1) rfl; have fy1 := R2.out.frozen 1; have y2 := R2.out.cell (i := 2) rfl; have fy2 := R2.out.frozen 2; have y3 := R2.out.cell (i := 3) rfl; have fy3 := R2.out.frozen 3; have y4 := R2.out.cell (i := 4) rfl; have fy4 := R2.out.frozen 4; have y5 := R2.out.cell (i := 5) rfl; have fy5 := R2.out.frozen 5; have y6 := R2.out.cell (i := 6) rfl; have fy6 := R2.out.frozen 6; clear k2) | (go_at_call 22; refine (specGoodIns _ x.op x.z x.r x.m x.k x.e x.s).mono ?_; rintro e9 w3 ⟨rfl, k3⟩; rw [show Pl.inOk ⟨x.op, x.z, x.r, x.m, x.k, x.e, x.s⟩ = Pl.inOk x from rfl, h3]; have R3 := hide ((R2.out.alloc _).kept0 k3); have X3 := hide ((Blk.new w2 #[.int .i64 x.op, .int .i64 x.z, .int .i64 x.r, .int .i64 x.m, .int .i64 x.k, .int .i64 x.e, .int .i64 x.s] 36).kept0 k3); have K3 := hide ((kept_new K2.out _).trans k3); have s3 := R3.out.lt; clear k3))
        have s0 := R0.out.lt
        refine wp_region_still_tail 3 (by kernel_rfl) (by kernel_rfl) ?_
        simp only [List.take_succ_cons, List.take_zero, List.drop_succ_cons, List.drop_zero]
        obtain ⟨Y, hY⟩ : ∃ Y : World, Y = { w3 with drawn := w3.drawn + 1 } := ⟨_, rfl⟩
        rw [← hY]
        have RY : Hid (Blk Y w.heap.size #[.int .i64 0, .int .i64 0, .int .i64 0, .int .i64 0, .int .i64 0, .int .i64 0, .int .i64 0] 36) := hide (by rw [hY]; exact R3.out)
        have XY : Hid (Blk Y w2.heap.size #[.int .i64 x.op, .int .i64 x.z, .int .i64 x.r, .int .i64 x.m, .int .i64 x.k, .int .i64 x.e, .int .i64 x.s] 36) := hide (by rw [hY]; exact X3.out)
        have KY : Hid (Kept 0 0 w Y) := hide (by rw [hY]; exact kept_drew K3.out)
        clear hY
        have q0 := RY.out.cell (i := 0) rfl
        have fq0 := RY.out.frozen 0
        have q1 := RY.out.cell (i := 1) rfl
        have fq1 := RY.out.frozen 1
        have q2 := RY.out.cell (i := 2) rfl
        have fq2 := RY.out.frozen 2
        have q3 := RY.out.cell (i := 3) rfl
        have fq3 := RY.out.frozen 3
        have q4 := RY.out.cell (i := 4) rfl
        have fq4 := RY.out.frozen 4
        have q5 := RY.out.cell (i := 5) rfl
        have fq5 := RY.out.frozen 5
        have q6 := RY.out.cell (i := 6) rfl
        have fq6 := RY.out.frozen 6
        have p0 := XY.out.cell (i := 0) rfl
        have p1 := XY.out.cell (i := 1) rfl
        have p2 := XY.out.cell (i := 2) rfl
        have p3 := XY.out.cell (i := 3) rfl
        have p4 := XY.out.cell (i := 4) rfl
        have p5 := XY.out.cell (i := 5) rfl
        have p6 := XY.out.cell (i := 6) rfl
        iterate 2 still_step
        still_call (specLong n _ (wordIn h1).1 (wordIn h1).2)
        refine wpStill_nil ?_
        go_wp2_with fail
        refine bodyPost_ret (v := .tuple #[.agg #[.int .i64 x.op, .int .i64 x.z, .int .i64 x.r, .int .i64 x.m, .int .i64 x.k, .int .i64 x.e, .int .i64 x.s], .int .i64 (Pl.longW n), .bool true]) ?_ rfl ⟨by rw [EX.out, EN.out, G.out], ?_⟩
        · rw [results_ct2 rfl]; go_simp
        · exact (kept_set (kept_set (kept_set (kept_set (kept_set (kept_set (kept_set KY.out _ _ _ (.inr (by omega))) _ _ _ (.inr (by omega))) _ _ _ (.inr (by omega))) _ _ _ (.inr (by omega))) _ _ _ (.inr (by omega))) _ _ _ (.inr (by omega))) _ _ _ (.inr (by omega)))
set_option maxRecDepth 100000 in
set_option maxHeartbeats 4000000 in
theorem specEncode (w : World) (op z r m k e s : Int) (h : Pl.inOk ⟨op, z, r, m, k, e, s⟩ = true) : Calls Tryd.prog 23 #[.agg #[.int .i64 op, .int .i64 z, .int .i64 r, .int .i64 m, .int .i64 k, .int .i64 e, .int .i64 s]] w fun e' w' => ∃ (g c : Nat), e' = .returned (.slice (some ⟨g, 0, none⟩) (Pl.encode ⟨op, z, r, m, k, e, s⟩).length c) ∧ w.heap.size ≤ g ∧ g < w'.heap.size ∧ Own w' g (Pl.encode ⟨op, z, r, m, k, e, s⟩) ∧ Kept 0 0 w w' := by
  obtain ⟨a1, a2, a3, a4, a5, a6, a7, a8, a9, b1, b2, b3, b4, b5⟩ := Pl.modeR h
  simp only at a1 a2 a3 a4 a5 a6 a7 a8 a9 b1 b2 b3 b4 b5
  obtain ⟨c1, c2⟩ : 1 ≤ z ∧ z ≤ 2 := by omega
  obtain ⟨o1, o2, o3, o4, o5⟩ := orWord (op := op) (z := z) (r := r) (m := m) (k := k) (s := s) (by omega) (by omega) c1 c2 a4 a5 a6 a7 a8 a9 b3 b4
  have V : Hid (Pl.word1 ⟨op, z, r, m, k, e, s⟩ = op * 2048 + (z - 1) * 1024 + r * 256 + m * 32 + k * 8 + s) := hide rfl
  obtain ⟨W, hW⟩ : ∃ W, W = op * 2048 + (z - 1) * 1024 + r * 256 + m * 32 + k * 8 + s := ⟨_, rfl⟩
  rw [← hW] at o5 V
  clear hW b5
  have HI := hide h
  clear h
  have K0 := hide (kept_new (kept_alloc w (.cells #[.int .i64 op, .int .i64 z, .int .i64 r, .int .i64 m, .int .i64 k, .int .i64 e, .int .i64 s] 36)) (.cells #[.int .i64 W] 3))
  have P0 := hide ((Blk.new w #[.int .i64 op, .int .i64 z, .int .i64 r, .int .i64 m, .int .i64 k, .int .i64 e, .int .i64 s] 36).alloc (.cells #[.int .i64 W] 3))
  have B0 := Blk.new (w.alloc (.cells #[.int .i64 op, .int .i64 z, .int .i64 r, .int .i64 m, .int .i64 k, .int .i64 e, .int .i64 s] 36)) #[.int .i64 W] 3
  simp only [World.size_alloc] at B0
  replace B0 := hide B0
  cases hE : Pl.extM m
  · have E : Hid (Pl.encode ⟨op, z, r, m, k, e, s⟩ = [W]) := hide (by simp [Pl.encode, hE, V.out])
    go_enter Tryd.func23, Tryd.ntmps23
    go_wp2_with (first | (go_at_call 52; refine (specExtM _ _).mono ?_; rintro e9 w' ⟨rfl, hw⟩; have hw2 := hw.symm; clear hw; subst hw2; rw [hE]))
    go_ret
    have l0 := B0.out.lt
    exact ⟨_, _, by rw [E.out]; rfl, by omega, l0, by rw [E.out]; exact own_of_blk (xs := [W]) B0.out, K0.out⟩
  · have E : Hid (Pl.encode ⟨op, z, r, m, k, e, s⟩ = [W, e]) := hide (by simp [Pl.encode, hE, V.out])
    obtain ⟨i, hi0, hz0, hz1, hz2⟩ := info_parts Tryd.info3
    have OW : Hid (World.ownsRow ((w.alloc (.cells #[.int .i64 op, .int .i64 z, .int .i64 r, .int .i64 m, .int .i64 k, .int .i64 e, .int .i64 s] 36)).alloc (.cells #[.int .i64 W] 3)) (w.heap.size + 1) 3 1 (.slice (some ⟨w.heap.size + 1, 0, none⟩) 1 1) 1 [.int .i64 W]) := hide ⟨by simp, .inr ⟨w.heap.size + 1, 1, #[.int .i64 W], rfl, Nat.le_refl _, B0.out, Nat.le_refl _, by unfold maxLen; omega, by simp, by simp⟩⟩
    go_enter Tryd.func23, Tryd.ntmps23
    have BN := Blk.new ((w.alloc (.cells #[.int .i64 op, .int .i64 z, .int .i64 r, .int .i64 m, .int .i64 k, .int .i64 e, .int .i64 s] 36)).alloc (.cells #[.int .i64 W] 3)) #[.int .i64 e] 3
    simp only [World.size_alloc] at BN
    replace BN := hide BN
    have H63 : Hid (1 + 1 ≤ maxLen) := hide (by unfold maxLen; omega)
    go_wp2_with (first | (go_at_call 52; refine (specExtM _ _).mono ?_; rintro e9 w' ⟨rfl, hw⟩; have hw2 := hw.symm; clear hw; subst hw2; rw [hE]) | (at_builtin; refine wpList_append_lies _ rfl (.tmp 34) (.tmp 38) 25 rfl (w.heap.size + 1) 3 i (.int .i64 0) 1 8 Tryd.underlying25 hi0 hz0 hz1 hz2 rfl (by decide) (.slice (some ⟨w.heap.size + 1, 0, none⟩) 1 1) 1 [.int .i64 W] rfl (OW.out.alloc _) ⟨w.heap.size + 1 + 1, 0, none⟩ 1 1 [.int .i64 e] rfl rfl (World.news_of_block (cs := #[.int .i64 e]) (t := 3) (fr := (0, 0)) BN.out) (by simp [Value.oneCell']) (by decide) H63.out (by decide) (by simp) (w.heap.size + 1 + 1 + 1) (by simp) ?_))
    intro g2 c2 w2 o2 k2 hg2 l2
    have kk := kept_row k2 (lo := w.heap.size + 1) (hi := w.heap.size + 1 + 1) (by intro j hj; have h5 : w.heap.size + 1 = j := Option.some.inj hj; omega)
    obtain ⟨p3, p4⟩ := o2.lt g2 rfl
    have K2 := hide (kept_over (kept_new K0.out (.cells #[.int .i64 e] 3)) kk (by omega))
    have PN : Hid (Own w2 g2 [W, e]) := hide (own_of_row (xs := [W, e]) o2)
    clear o2 k2 kk
    go_wp2_with fail
    go_ret
    exact ⟨g2, c2, by rw [E.out]; rfl, by omega, p4, by rw [E.out]; exact PN.out, K2.out⟩
end Go.Proofs.YtlbnllhabdnjjaaDoor
