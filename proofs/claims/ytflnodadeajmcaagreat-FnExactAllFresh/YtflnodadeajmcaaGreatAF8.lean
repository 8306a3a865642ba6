/- What the model of GoodUnit answers, for every unit. -/
import Derived.Test.YtflnodadeajmcaaGreatAF7
import Derived.Test.YtflnodadeajmcaaGreatAF4
namespace Go.Proofs.YtflnodadeajmcaaGreat
open Go.RowKit
set_option linter.unusedVariables false
set_option linter.unusedSimpArgs false
theorem MRow.first {w : World} {a : Option Addr} {n : Nat} {ys ts : List Int} {sk : List Bool} (h : MRow w a n ys ts sk) (hn : 0 < n) : ∃ g off : Nat, a = Option.some ⟨g, off, Option.none⟩ ∧ w.cell? ⟨g, off + 7, Option.none⟩ = Option.some (iv (el ts 0)) := by
  obtain ⟨g, off, e, p0, p1, p2, p3, p4, p5, p6, p7, p8⟩ := h.at9 hn
  exact ⟨g, off, e, by simpa using p7⟩
set_option maxRecDepth 100000 in
set_option maxHeartbeats 16000000 in
theorem specGoodUnit (w : World) (f t : Int) (a : Option Addr) (ca n : Nat) (ys ts : List Int) (sk : List Bool) (ha : MRow w a n ys ts sk) (ly : ys.length = 7 * n) (bx : n ≤ 2000000) :
    Calls Tryz.prog 59 #[.agg #[iv f, iv t, .slice a n ca]] w fun e w' => e = .returned (.bool (Pl.goodU f t n ys ts sk)) ∧ Kept 0 0 w w' := by
  have K0 := hide (kept_alloc w (.cells #[iv f, iv t, .slice a n ca] 46))
  have B0 := hide (Blk.new w #[iv f, iv t, .slice a n ca] 46)
  have HA := hide ha
  have HY := hide ly
  clear ha ly
  cases hA : decide ((1 : Int) ≤ (n : Int)) && decide ((n : Int) ≤ 8)
  · have E : Hid (Pl.goodU f t n ys ts sk = false) := hide (Pl.goodU_no fun h => by have h1 := h.n1; have h8 := h.n8; simp at hA; omega)
    go_enter Tryz.func59, Tryz.ntmps59
    go_wp2_with (go_at_call 86; refine (specUList _ f t _ ca n ys ts sk (HA.out.keptS K0.out) HY.out bx).mono ?_; rintro e9 w2 ⟨b, c, rfl, hc, hs, k2⟩; have B2 := hide (B0.out.kept0 k2); have K2 := hide (K0.out.trans k2); have S2 := hide hs; have C2 := hide hc; have p2 := B2.out.all; clear k2 hs hc)
    refine wp_region_inv2 (fun A0 l A W => FR [18, 19, 20, 21, 22, 23, 24, 25, 26, 27, 28, 29, 30, 31, 32, 33, 34, 35, 36, 37, 38, 39, 40, 41, 42] A0 A ∧ Once l 0 (A.tmps[18]? = some (iv (n : Int))) ∧ Once l 1 (A.tmps[19]? = some (.bool false)) ∧ Once l 2 (A.tmps[20]? = some (.bool true)) ∧ Once l 3 (A.tmps[21]? = some (.bool true)) ∧ Once l 4 (A.tmps[22]? = some (undef)) ∧ Once l 5 (A.tmps[23]? = some (undef)) ∧ Once l 6 (A.tmps[24]? = some (undef)) ∧ Once l 7 (A.tmps[25]? = some (undef)) ∧ Once l 8 (A.tmps[26]? = some (undef)) ∧ Once l 9 (A.tmps[27]? = some (undef)) ∧ Once l 10 (A.tmps[28]? = some (undef)) ∧ Once l 11 (A.tmps[29]? = some (undef)) ∧ Once l 12 (A.tmps[30]? = some (.bool true)) ∧ Once l 13 (A.tmps[31]? = some (.bool true)) ∧ Once l 14 (A.tmps[32]? = some (undef)) ∧ Once l 15 (A.tmps[33]? = some (undef)) ∧ Once l 16 (A.tmps[34]? = some (undef)) ∧ Once l 17 (A.tmps[35]? = some (undef)) ∧ Once l 18 (A.tmps[36]? = some (.bool true)) ∧ Once l 19 (A.tmps[37]? = some (.bool true)) ∧ Once l 20 (A.tmps[38]? = some (undef)) ∧ Once l 21 (A.tmps[39]? = some (undef)) ∧ Once l 22 (A.tmps[40]? = some (undef)) ∧ Once l 23 (A.tmps[41]? = some (undef)) ∧ Once l 24 (A.tmps[42]? = some (.bool true)) ∧ Kept 0 0 w2 W) (by kernel_rfl) (by kernel_rfl) ?start ?fin ?step
    case start => exact ⟨FR.refl _ _, once_start (by decide), once_start (by decide), once_start (by decide), once_start (by decide), once_start (by decide), once_start (by decide), once_start (by decide), once_start (by decide), once_start (by decide), once_start (by decide), once_start (by decide), once_start (by decide), once_start (by decide), once_start (by decide), once_start (by decide), once_start (by decide), once_start (by decide), once_start (by decide), once_start (by decide), once_start (by decide), once_start (by decide), once_start (by decide), once_start (by decide), once_start (by decide), once_start (by decide), kept_drew (Kept.refl _ _ _)⟩
    case fin =>
      intro l A W h hl
      obtain ⟨hFR, o0, o1, o2, o3, o4, o5, o6, o7, o8, o9, o10, o11, o12, o13, o14, o15, o16, o17, o18, o19, o20, o21, o22, o23, o24, hK⟩ := h
      have g24 := o24 (hl 24 (by decide))
      have QQ := hide hK
      have hc9 := hFR.chain
      simp only [List.foldl] at hc9
      rw [getD_of g24] at hc9
      clear hl hK hFR g24 o0 o1 o2 o3 o4 o5 o6 o7 o8 o9 o10 o11 o12 o13 o14 o15 o16 o17 o18 o19 o20 o21 o22 o23 o24
      generalize A.tmps.getD 18 undef = s18 at hc9
      generalize A.tmps.getD 19 undef = s19 at hc9
      generalize A.tmps.getD 20 undef = s20 at hc9
      generalize A.tmps.getD 21 undef = s21 at hc9
      generalize A.tmps.getD 22 undef = s22 at hc9
      generalize A.tmps.getD 23 undef = s23 at hc9
      generalize A.tmps.getD 24 undef = s24 at hc9
      generalize A.tmps.getD 25 undef = s25 at hc9
      generalize A.tmps.getD 26 undef = s26 at hc9
      generalize A.tmps.getD 27 undef = s27 at hc9
      generalize A.tmps.getD 28 undef = s28 at hc9
      generalize A.tmps.getD 29 undef = s29 at hc9
      generalize A.tmps.getD 30 undef = s30 at hc9
      generalize A.tmps.getD 31 undef = s31 at hc9
      generalize A.tmps.getD 32 undef = s32 at hc9
      generalize A.tmps.getD 33 undef = s33 at hc9
      generalize A.tmps.getD 34 undef = s34 at hc9
      generalize A.tmps.getD 35 undef = s35 at hc9
      generalize A.tmps.getD 36 undef = s36 at hc9
      generalize A.tmps.getD 37 undef = s37 at hc9
      generalize A.tmps.getD 38 undef = s38 at hc9
      generalize A.tmps.getD 39 undef = s39 at hc9
      generalize A.tmps.getD 40 undef = s40 at hc9
      generalize A.tmps.getD 41 undef = s41 at hc9
      subst hc9
      go_simp
      go_wp2_with fail
      go_ret
      exact ⟨rB E.out.symm, K2.out.trans QQ.out⟩
    case step =>
      intro l A W i hI hm
      obtain ⟨hFR, o0, o1, o2, o3, o4, o5, o6, o7, o8, o9, o10, o11, o12, o13, o14, o15, o16, o17, o18, o19, o20, o21, o22, o23, o24, hK⟩ := hI
      obtain ⟨hi1, hi2⟩ := ready_new hm
      have hsz : Hid (42 < A.tmps.size) := hide (by rw [hFR.size]; simp)
      have m1 : A.tmps[1]? = some (.pointer (some ⟨w.heap.size, 0, none⟩)) := (hFR.out 1 (by decide)).trans rfl
      have m5 : A.tmps[5]? = some (.int .i64 (n : Int)) := (hFR.out 5 (by decide)).trans rfl
      rcases i with _ | _ | _ | _ | _ | _ | _ | _ | _ | _ | _ | _ | _ | _ | _ | _ | _ | _ | _ | _ | _ | _ | _ | _ | _ | i
      · refine wpOp_step rfl (fun KK hK2 => ?_)
        go_simp
        exact hK2 (A.put (some 18) (iv (n : Int))) _ ⟨hFR.put (by decide) _, .now (put_eq (by have hz := hsz.out; omega)), o1.q, o2.q, o3.q, o4.q, o5.q, o6.q, o7.q, o8.q, o9.q, o10.q, o11.q, o12.q, o13.q, o14.q, o15.q, o16.q, o17.q, o18.q, o19.q, o20.q, o21.q, o22.q, o23.q, o24.q, hK⟩
      · have e0 := o0 (ready_dep hm 0 (by kernel_rfl))
        refine wpOp_step rfl (fun KK hK2 => ?_)
        go_simp
        refine st (l1In _ _ _ _) ?_
        rw [hA]
        go_simp
        exact hK2 (A.put (some 19) (.bool false)) _ ⟨hFR.put (by decide) _, o0.q, .now (put_eq (by have hz := hsz.out; omega)), o2.q, o3.q, o4.q, o5.q, o6.q, o7.q, o8.q, o9.q, o10.q, o11.q, o12.q, o13.q, o14.q, o15.q, o16.q, o17.q, o18.q, o19.q, o20.q, o21.q, o22.q, o23.q, o24.q, hK⟩
      · have e1 := o1 (ready_dep hm 1 (by kernel_rfl))
        refine wpOp_step rfl (fun KK hK2 => ?_)
        go_simp
        exact hK2 (A.put (some 20) (.bool true)) _ ⟨hFR.put (by decide) _, o0.q, o1.q, .now (put_eq (by have hz := hsz.out; omega)), o3.q, o4.q, o5.q, o6.q, o7.q, o8.q, o9.q, o10.q, o11.q, o12.q, o13.q, o14.q, o15.q, o16.q, o17.q, o18.q, o19.q, o20.q, o21.q, o22.q, o23.q, o24.q, hK⟩
      · have e2 := o2 (ready_dep hm 2 (by kernel_rfl))
        refine wpOp_step rfl (fun KK hK2 => ?_)
        go_simp
        exact hK2 (A.put (some 21) (.bool true)) _ ⟨hFR.put (by decide) _, o0.q, o1.q, o2.q, .now (put_eq (by have hz := hsz.out; omega)), o4.q, o5.q, o6.q, o7.q, o8.q, o9.q, o10.q, o11.q, o12.q, o13.q, o14.q, o15.q, o16.q, o17.q, o18.q, o19.q, o20.q, o21.q, o22.q, o23.q, o24.q, hK⟩
      · have g := o3 (ready_dep hm 3 (by kernel_rfl))
        refine wpOp_off (b := false) (c := true) rfl rfl rfl g (by decide) ?_
        exact ⟨hFR.put (by decide) _, o0.q, o1.q, o2.q, o3.q, .now (put_eq (by have hz := hsz.out; omega)), o5.q, o6.q, o7.q, o8.q, o9.q, o10.q, o11.q, o12.q, o13.q, o14.q, o15.q, o16.q, o17.q, o18.q, o19.q, o20.q, o21.q, o22.q, o23.q, o24.q, hK⟩
      · have e4 := o4 (ready_dep hm 4 (by kernel_rfl))
        have g := o3 (ready_dep hm 3 (by kernel_rfl))
        refine wpOp_off (b := false) (c := true) rfl rfl rfl g (by decide) ?_
        exact ⟨hFR.put (by decide) _, o0.q, o1.q, o2.q, o3.q, o4.q, .now (put_eq (by have hz := hsz.out; omega)), o6.q, o7.q, o8.q, o9.q, o10.q, o11.q, o12.q, o13.q, o14.q, o15.q, o16.q, o17.q, o18.q, o19.q, o20.q, o21.q, o22.q, o23.q, o24.q, hK⟩
      · have g := o3 (ready_dep hm 3 (by kernel_rfl))
        refine wpOp_off (b := false) (c := true) rfl rfl rfl g (by decide) ?_
        exact ⟨hFR.put (by decide) _, o0.q, o1.q, o2.q, o3.q, o4.q, o5.q, .now (put_eq (by have hz := hsz.out; omega)), o7.q, o8.q, o9.q, o10.q, o11.q, o12.q, o13.q, o14.q, o15.q, o16.q, o17.q, o18.q, o19.q, o20.q, o21.q, o22.q, o23.q, o24.q, hK⟩
      · have e6 := o6 (ready_dep hm 6 (by kernel_rfl))
        have g := o3 (ready_dep hm 3 (by kernel_rfl))
        refine wpOp_off (b := false) (c := true) rfl rfl rfl g (by decide) ?_
        exact ⟨hFR.put (by decide) _, o0.q, o1.q, o2.q, o3.q, o4.q, o5.q, o6.q, .now (put_eq (by have hz := hsz.out; omega)), o8.q, o9.q, o10.q, o11.q, o12.q, o13.q, o14.q, o15.q, o16.q, o17.q, o18.q, o19.q, o20.q, o21.q, o22.q, o23.q, o24.q, hK⟩
      · have e7 := o7 (ready_dep hm 7 (by kernel_rfl))
        have g := o3 (ready_dep hm 3 (by kernel_rfl))
        refine wpOp_off (b := false) (c := true) rfl rfl rfl g (by decide) ?_
        exact ⟨hFR.put (by decide) _, o0.q, o1.q, o2.q, o3.q, o4.q, o5.q, o6.q, o7.q, .now (put_eq (by have hz := hsz.out; omega)), o9.q, o10.q, o11.q, o12.q, o13.q, o14.q, o15.q, o16.q, o17.q, o18.q, o19.q, o20.q, o21.q, o22.q, o23.q, o24.q, hK⟩
      · have e8 := o8 (ready_dep hm 8 (by kernel_rfl))
        have g := o3 (ready_dep hm 3 (by kernel_rfl))
        refine wpOp_off (b := false) (c := true) rfl rfl rfl g (by decide) ?_
        exact ⟨hFR.put (by decide) _, o0.q, o1.q, o2.q, o3.q, o4.q, o5.q, o6.q, o7.q, o8.q, .now (put_eq (by have hz := hsz.out; omega)), o10.q, o11.q, o12.q, o13.q, o14.q, o15.q, o16.q, o17.q, o18.q, o19.q, o20.q, o21.q, o22.q, o23.q, o24.q, hK⟩
      · have e9 := o9 (ready_dep hm 9 (by kernel_rfl))
        have g := o3 (ready_dep hm 3 (by kernel_rfl))
        refine wpOp_off (b := false) (c := true) rfl rfl rfl g (by decide) ?_
        exact ⟨hFR.put (by decide) _, o0.q, o1.q, o2.q, o3.q, o4.q, o5.q, o6.q, o7.q, o8.q, o9.q, .now (put_eq (by have hz := hsz.out; omega)), o11.q, o12.q, o13.q, o14.q, o15.q, o16.q, o17.q, o18.q, o19.q, o20.q, o21.q, o22.q, o23.q, o24.q, hK⟩
      · have e5 := o5 (ready_dep hm 5 (by kernel_rfl))
        have e10 := o10 (ready_dep hm 10 (by kernel_rfl))
        have g := o3 (ready_dep hm 3 (by kernel_rfl))
        refine wpOp_off (b := false) (c := true) rfl rfl rfl g (by decide) ?_
        exact ⟨hFR.put (by decide) _, o0.q, o1.q, o2.q, o3.q, o4.q, o5.q, o6.q, o7.q, o8.q, o9.q, o10.q, .now (put_eq (by have hz := hsz.out; omega)), o12.q, o13.q, o14.q, o15.q, o16.q, o17.q, o18.q, o19.q, o20.q, o21.q, o22.q, o23.q, o24.q, hK⟩
      · have e3 := o3 (ready_dep hm 3 (by kernel_rfl))
        have e11 := o11 (ready_dep hm 11 (by kernel_rfl))
        refine wpOp_step rfl (fun KK hK2 => ?_)
        go_simp
        exact hK2 (A.put (some 30) (.bool true)) _ ⟨hFR.put (by decide) _, o0.q, o1.q, o2.q, o3.q, o4.q, o5.q, o6.q, o7.q, o8.q, o9.q, o10.q, o11.q, .now (put_eq (by have hz := hsz.out; omega)), o13.q, o14.q, o15.q, o16.q, o17.q, o18.q, o19.q, o20.q, o21.q, o22.q, o23.q, o24.q, hK⟩
      · have e12 := o12 (ready_dep hm 12 (by kernel_rfl))
        refine wpOp_step rfl (fun KK hK2 => ?_)
        go_simp
        exact hK2 (A.put (some 31) (.bool true)) _ ⟨hFR.put (by decide) _, o0.q, o1.q, o2.q, o3.q, o4.q, o5.q, o6.q, o7.q, o8.q, o9.q, o10.q, o11.q, o12.q, .now (put_eq (by have hz := hsz.out; omega)), o14.q, o15.q, o16.q, o17.q, o18.q, o19.q, o20.q, o21.q, o22.q, o23.q, o24.q, hK⟩
      · have g := o13 (ready_dep hm 13 (by kernel_rfl))
        refine wpOp_off (b := false) (c := true) rfl rfl rfl g (by decide) ?_
        exact ⟨hFR.put (by decide) _, o0.q, o1.q, o2.q, o3.q, o4.q, o5.q, o6.q, o7.q, o8.q, o9.q, o10.q, o11.q, o12.q, o13.q, .now (put_eq (by have hz := hsz.out; omega)), o15.q, o16.q, o17.q, o18.q, o19.q, o20.q, o21.q, o22.q, o23.q, o24.q, hK⟩
      · have e14 := o14 (ready_dep hm 14 (by kernel_rfl))
        have g := o13 (ready_dep hm 13 (by kernel_rfl))
        refine wpOp_off (b := false) (c := true) rfl rfl rfl g (by decide) ?_
        exact ⟨hFR.put (by decide) _, o0.q, o1.q, o2.q, o3.q, o4.q, o5.q, o6.q, o7.q, o8.q, o9.q, o10.q, o11.q, o12.q, o13.q, o14.q, .now (put_eq (by have hz := hsz.out; omega)), o16.q, o17.q, o18.q, o19.q, o20.q, o21.q, o22.q, o23.q, o24.q, hK⟩
      · have e15 := o15 (ready_dep hm 15 (by kernel_rfl))
        have g := o13 (ready_dep hm 13 (by kernel_rfl))
        refine wpOp_off (b := false) (c := true) rfl rfl rfl g (by decide) ?_
        exact ⟨hFR.put (by decide) _, o0.q, o1.q, o2.q, o3.q, o4.q, o5.q, o6.q, o7.q, o8.q, o9.q, o10.q, o11.q, o12.q, o13.q, o14.q, o15.q, .now (put_eq (by have hz := hsz.out; omega)), o17.q, o18.q, o19.q, o20.q, o21.q, o22.q, o23.q, o24.q, hK⟩
      · have e16 := o16 (ready_dep hm 16 (by kernel_rfl))
        have g := o13 (ready_dep hm 13 (by kernel_rfl))
        refine wpOp_off (b := false) (c := true) rfl rfl rfl g (by decide) ?_
        exact ⟨hFR.put (by decide) _, o0.q, o1.q, o2.q, o3.q, o4.q, o5.q, o6.q, o7.q, o8.q, o9.q, o10.q, o11.q, o12.q, o13.q, o14.q, o15.q, o16.q, .now (put_eq (by have hz := hsz.out; omega)), o18.q, o19.q, o20.q, o21.q, o22.q, o23.q, o24.q, hK⟩
      · have e13 := o13 (ready_dep hm 13 (by kernel_rfl))
        have e17 := o17 (ready_dep hm 17 (by kernel_rfl))
        refine wpOp_step rfl (fun KK hK2 => ?_)
        go_simp
        exact hK2 (A.put (some 36) (.bool true)) _ ⟨hFR.put (by decide) _, o0.q, o1.q, o2.q, o3.q, o4.q, o5.q, o6.q, o7.q, o8.q, o9.q, o10.q, o11.q, o12.q, o13.q, o14.q, o15.q, o16.q, o17.q, .now (put_eq (by have hz := hsz.out; omega)), o19.q, o20.q, o21.q, o22.q, o23.q, o24.q, hK⟩
      · have e18 := o18 (ready_dep hm 18 (by kernel_rfl))
        refine wpOp_step rfl (fun KK hK2 => ?_)
        go_simp
        exact hK2 (A.put (some 37) (.bool true)) _ ⟨hFR.put (by decide) _, o0.q, o1.q, o2.q, o3.q, o4.q, o5.q, o6.q, o7.q, o8.q, o9.q, o10.q, o11.q, o12.q, o13.q, o14.q, o15.q, o16.q, o17.q, o18.q, .now (put_eq (by have hz := hsz.out; omega)), o20.q, o21.q, o22.q, o23.q, o24.q, hK⟩
      · have g := o19 (ready_dep hm 19 (by kernel_rfl))
        refine wpOp_off (b := false) (c := true) rfl rfl rfl g (by decide) ?_
        exact ⟨hFR.put (by decide) _, o0.q, o1.q, o2.q, o3.q, o4.q, o5.q, o6.q, o7.q, o8.q, o9.q, o10.q, o11.q, o12.q, o13.q, o14.q, o15.q, o16.q, o17.q, o18.q, o19.q, .now (put_eq (by have hz := hsz.out; omega)), o21.q, o22.q, o23.q, o24.q, hK⟩
      · have e20 := o20 (ready_dep hm 20 (by kernel_rfl))
        have g := o19 (ready_dep hm 19 (by kernel_rfl))
        refine wpOp_off (b := false) (c := true) rfl rfl rfl g (by decide) ?_
        exact ⟨hFR.put (by decide) _, o0.q, o1.q, o2.q, o3.q, o4.q, o5.q, o6.q, o7.q, o8.q, o9.q, o10.q, o11.q, o12.q, o13.q, o14.q, o15.q, o16.q, o17.q, o18.q, o19.q, o20.q, .now (put_eq (by have hz := hsz.out; omega)), o22.q, o23.q, o24.q, hK⟩
      · have e21 := o21 (ready_dep hm 21 (by kernel_rfl))
        have g := o19 (ready_dep hm 19 (by kernel_rfl))
        refine wpOp_off (b := false) (c := true) rfl rfl rfl g (by decide) ?_
        exact ⟨hFR.put (by decide) _, o0.q, o1.q, o2.q, o3.q, o4.q, o5.q, o6.q, o7.q, o8.q, o9.q, o10.q, o11.q, o12.q, o13.q, o14.q, o15.q, o16.q, o17.q, o18.q, o19.q, o20.q, o21.q, .now (put_eq (by have hz := hsz.out; omega)), o23.q, o24.q, hK⟩
      · have e22 := o22 (ready_dep hm 22 (by kernel_rfl))
        have g := o19 (ready_dep hm 19 (by kernel_rfl))
        refine wpOp_off (b := false) (c := true) rfl rfl rfl g (by decide) ?_
        exact ⟨hFR.put (by decide) _, o0.q, o1.q, o2.q, o3.q, o4.q, o5.q, o6.q, o7.q, o8.q, o9.q, o10.q, o11.q, o12.q, o13.q, o14.q, o15.q, o16.q, o17.q, o18.q, o19.q, o20.q, o21.q, o22.q, .now (put_eq (by have hz := hsz.out; omega)), o24.q, hK⟩
      · have e19 := o19 (ready_dep hm 19 (by kernel_rfl))
        have e23 := o23 (ready_dep hm 23 (by kernel_rfl))
        refine wpOp_step rfl (fun KK hK2 => ?_)
        go_simp
        exact hK2 (A.put (some 42) (.bool true)) _ ⟨hFR.put (by decide) _, o0.q, o1.q, o2.q, o3.q, o4.q, o5.q, o6.q, o7.q, o8.q, o9.q, o10.q, o11.q, o12.q, o13.q, o14.q, o15.q, o16.q, o17.q, o18.q, o19.q, o20.q, o21.q, o22.q, o23.q, .now (put_eq (by have hz := hsz.out; omega)), hK⟩
      · simp at hi1
        omega
  · have hn : 1 ≤ n ∧ n ≤ 8 := by simp at hA; omega
    obtain ⟨n1, n8⟩ := hn
    have n1i : (0 : Int) < (n : Int) := by omega
    obtain ⟨g1, off1, rfl, q7⟩ := HA.out.first (by omega)
    clear q7
    cases hB : (f != el ts 0)
    · cases hC : decide ((0 : Int) ≤ f) && decide (f ≤ 512)
      · have E : Hid (Pl.goodU f t n ys ts sk = false) := hide (Pl.goodU_no fun h => by have h1 := h.f0; have h8 := h.f1; simp at hC; omega)
        go_enter Tryz.func59, Tryz.ntmps59
        go_wp2_with (go_at_call 86; refine (specUList _ f t _ ca n ys ts sk (HA.out.keptS K0.out) HY.out bx).mono ?_; rintro e9 w2 ⟨b, c, rfl, hc, hs, k2⟩; have B2 := hide (B0.out.kept0 k2); have K2 := hide (K0.out.trans k2); have S2 := hide hs; have C2 := hide hc; have p2 := B2.out.all; clear k2 hs hc)
        refine wp_region_inv2 (fun A0 l A W => FR [18, 19, 20, 21, 22, 23, 24, 25, 26, 27, 28, 29, 30, 31, 32, 33, 34, 35, 36, 37, 38, 39, 40, 41, 42] A0 A ∧ Once l 0 (A.tmps[18]? = some (iv (n : Int))) ∧ Once l 1 (A.tmps[19]? = some (.bool true)) ∧ Once l 2 (A.tmps[20]? = some (.bool false)) ∧ Once l 3 (A.tmps[21]? = some (.bool false)) ∧ Once l 4 (A.tmps[22]? = some (.pointer (some ⟨w.heap.size, 0, none⟩))) ∧ Once l 5 (A.tmps[23]? = some (iv f)) ∧ Once l 6 (A.tmps[24]? = some (.pointer (some ⟨w.heap.size, 2, none⟩))) ∧ Once l 7 (A.tmps[25]? = some (.slice (some ⟨g1, off1, none⟩) n ca)) ∧ Once l 8 (A.tmps[26]? = some (.pointer (some ⟨g1, off1, none⟩))) ∧ Once l 9 (A.tmps[27]? = some (.pointer (some ⟨g1, off1 + 7, none⟩))) ∧ Once l 10 (A.tmps[28]? = some (iv (el ts 0))) ∧ Once l 11 (A.tmps[29]? = some (.bool false)) ∧ Once l 12 (A.tmps[30]? = some (.bool false)) ∧ Once l 13 (A.tmps[31]? = some (.bool false)) ∧ Once l 14 (A.tmps[32]? = some (.pointer (some ⟨w.heap.size, 0, none⟩))) ∧ Once l 15 (A.tmps[33]? = some (iv f)) ∧ Once l 16 (A.tmps[34]? = some (.bool false)) ∧ Once l 17 (A.tmps[35]? = some (.bool true)) ∧ Once l 18 (A.tmps[36]? = some (.bool true)) ∧ Once l 19 (A.tmps[37]? = some (.bool true)) ∧ Once l 20 (A.tmps[38]? = some (undef)) ∧ Once l 21 (A.tmps[39]? = some (undef)) ∧ Once l 22 (A.tmps[40]? = some (undef)) ∧ Once l 23 (A.tmps[41]? = some (undef)) ∧ Once l 24 (A.tmps[42]? = some (.bool true)) ∧ Kept 0 0 w2 W) (by kernel_rfl) (by kernel_rfl) ?start ?fin ?step
        case start => exact ⟨FR.refl _ _, once_start (by decide), once_start (by decide), once_start (by decide), once_start (by decide), once_start (by decide), once_start (by decide), once_start (by decide), once_start (by decide), once_start (by decide), once_start (by decide), once_start (by decide), once_start (by decide), once_start (by decide), once_start (by decide), once_start (by decide), once_start (by decide), once_start (by decide), once_start (by decide), once_start (by decide), once_start (by decide), once_start (by decide), once_start (by decide), once_start (by decide), once_start (by decide), once_start (by decide), kept_drew (Kept.refl _ _ _)⟩
        case fin =>
          intro l A W h hl
          obtain ⟨hFR, o0, o1, o2, o3, o4, o5, o6, o7, o8, o9, o10, o11, o12, o13, o14, o15, o16, o17, o18, o19, o20, o21, o22, o23, o24, hK⟩ := h
          have g24 := o24 (hl 24 (by decide))
          have QQ := hide hK
          have hc9 := hFR.chain
          simp only [List.foldl] at hc9
          rw [getD_of g24] at hc9
          clear hl hK hFR g24 o0 o1 o2 o3 o4 o5 o6 o7 o8 o9 o10 o11 o12 o13 o14 o15 o16 o17 o18 o19 o20 o21 o22 o23 o24
          generalize A.tmps.getD 18 undef = s18 at hc9
          generalize A.tmps.getD 19 undef = s19 at hc9
          generalize A.tmps.getD 20 undef = s20 at hc9
          generalize A.tmps.getD 21 undef = s21 at hc9
          generalize A.tmps.getD 22 undef = s22 at hc9
          generalize A.tmps.getD 23 undef = s23 at hc9
          generalize A.tmps.getD 24 undef = s24 at hc9
          generalize A.tmps.getD 25 undef = s25 at hc9
          generalize A.tmps.getD 26 undef = s26 at hc9
          generalize A.tmps.getD 27 undef = s27 at hc9
          generalize A.tmps.getD 28 undef = s28 at hc9
          generalize A.tmps.getD 29 undef = s29 at hc9
          generalize A.tmps.getD 30 undef = s30 at hc9
          generalize A.tmps.getD 31 undef = s31 at hc9
          generalize A.tmps.getD 32 undef = s32 at hc9
          generalize A.tmps.getD 33 undef = s33 at hc9
          generalize A.tmps.getD 34 undef = s34 at hc9
          generalize A.tmps.getD 35 undef = s35 at hc9
          generalize A.tmps.getD 36 undef = s36 at hc9
          generalize A.tmps.getD 37 undef = s37 at hc9
          generalize A.tmps.getD 38 undef = s38 at hc9
          generalize A.tmps.getD 39 undef = s39 at hc9
          generalize A.tmps.getD 40 undef = s40 at hc9
          generalize A.tmps.getD 41 undef = s41 at hc9
          subst hc9
          go_simp
          go_wp2_with fail
          go_ret
          exact ⟨rB E.out.symm, K2.out.trans QQ.out⟩
        case step =>
          intro l A W i hI hm
          obtain ⟨hFR, o0, o1, o2, o3, o4, o5, o6, o7, o8, o9, o10, o11, o12, o13, o14, o15, o16, o17, o18, o19, o20, o21, o22, o23, o24, hK⟩ := hI
          obtain ⟨hi1, hi2⟩ := ready_new hm
          have hsz : Hid (42 < A.tmps.size) := hide (by rw [hFR.size]; simp)
          have m1 : A.tmps[1]? = some (.pointer (some ⟨w.heap.size, 0, none⟩)) := (hFR.out 1 (by decide)).trans rfl
          have m5 : A.tmps[5]? = some (.int .i64 (n : Int)) := (hFR.out 5 (by decide)).trans rfl
          rcases i with _ | _ | _ | _ | _ | _ | _ | _ | _ | _ | _ | _ | _ | _ | _ | _ | _ | _ | _ | _ | _ | _ | _ | _ | _ | i
          · refine wpOp_step rfl (fun KK hK2 => ?_)
            go_simp
            exact hK2 (A.put (some 18) (iv (n : Int))) _ ⟨hFR.put (by decide) _, .now (put_eq (by have hz := hsz.out; omega)), o1.q, o2.q, o3.q, o4.q, o5.q, o6.q, o7.q, o8.q, o9.q, o10.q, o11.q, o12.q, o13.q, o14.q, o15.q, o16.q, o17.q, o18.q, o19.q, o20.q, o21.q, o22.q, o23.q, o24.q, hK⟩
          · have e0 := o0 (ready_dep hm 0 (by kernel_rfl))
            refine wpOp_step rfl (fun KK hK2 => ?_)
            go_simp
            refine st (l1In _ _ _ _) ?_
            rw [hA]
            go_simp
            exact hK2 (A.put (some 19) (.bool true)) _ ⟨hFR.put (by decide) _, o0.q, .now (put_eq (by have hz := hsz.out; omega)), o2.q, o3.q, o4.q, o5.q, o6.q, o7.q, o8.q, o9.q, o10.q, o11.q, o12.q, o13.q, o14.q, o15.q, o16.q, o17.q, o18.q, o19.q, o20.q, o21.q, o22.q, o23.q, o24.q, hK⟩
          · have e1 := o1 (ready_dep hm 1 (by kernel_rfl))
            refine wpOp_step rfl (fun KK hK2 => ?_)
            go_simp
            exact hK2 (A.put (some 20) (.bool false)) _ ⟨hFR.put (by decide) _, o0.q, o1.q, .now (put_eq (by have hz := hsz.out; omega)), o3.q, o4.q, o5.q, o6.q, o7.q, o8.q, o9.q, o10.q, o11.q, o12.q, o13.q, o14.q, o15.q, o16.q, o17.q, o18.q, o19.q, o20.q, o21.q, o22.q, o23.q, o24.q, hK⟩
          · have e2 := o2 (ready_dep hm 2 (by kernel_rfl))
            refine wpOp_step rfl (fun KK hK2 => ?_)
            go_simp
            exact hK2 (A.put (some 21) (.bool false)) _ ⟨hFR.put (by decide) _, o0.q, o1.q, o2.q, .now (put_eq (by have hz := hsz.out; omega)), o4.q, o5.q, o6.q, o7.q, o8.q, o9.q, o10.q, o11.q, o12.q, o13.q, o14.q, o15.q, o16.q, o17.q, o18.q, o19.q, o20.q, o21.q, o22.q, o23.q, o24.q, hK⟩
          · have g := o3 (ready_dep hm 3 (by kernel_rfl))
            refine wpOp_on (b := false) rfl rfl rfl g (fun KK hK2 => ?_)
            go_simp
            exact hK2 (A.put (some 22) (.pointer (some ⟨w.heap.size, 0, none⟩))) _ ⟨hFR.put (by decide) _, o0.q, o1.q, o2.q, o3.q, .now (put_eq (by have hz := hsz.out; omega)), o5.q, o6.q, o7.q, o8.q, o9.q, o10.q, o11.q, o12.q, o13.q, o14.q, o15.q, o16.q, o17.q, o18.q, o19.q, o20.q, o21.q, o22.q, o23.q, o24.q, hK⟩
          · have e4 := o4 (ready_dep hm 4 (by kernel_rfl))
            have BL := B2.out.kept0 hK
            have x0 := BL.all
            clear BL
            have g := o3 (ready_dep hm 3 (by kernel_rfl))
            refine wpOp_on (b := false) rfl rfl rfl g (fun KK hK2 => ?_)
            go_simp
            exact hK2 (A.put (some 23) (iv f)) _ ⟨hFR.put (by decide) _, o0.q, o1.q, o2.q, o3.q, o4.q, .now (put_eq (by have hz := hsz.out; omega)), o6.q, o7.q, o8.q, o9.q, o10.q, o11.q, o12.q, o13.q, o14.q, o15.q, o16.q, o17.q, o18.q, o19.q, o20.q, o21.q, o22.q, o23.q, o24.q, hK⟩
          · have g := o3 (ready_dep hm 3 (by kernel_rfl))
            refine wpOp_on (b := false) rfl rfl rfl g (fun KK hK2 => ?_)
            go_simp
            exact hK2 (A.put (some 24) (.pointer (some ⟨w.heap.size, 2, none⟩))) _ ⟨hFR.put (by decide) _, o0.q, o1.q, o2.q, o3.q, o4.q, o5.q, .now (put_eq (by have hz := hsz.out; omega)), o7.q, o8.q, o9.q, o10.q, o11.q, o12.q, o13.q, o14.q, o15.q, o16.q, o17.q, o18.q, o19.q, o20.q, o21.q, o22.q, o23.q, o24.q, hK⟩
          · have e6 := o6 (ready_dep hm 6 (by kernel_rfl))
            have BL := B2.out.kept0 hK
            have x0 := BL.all
            clear BL
            have g := o3 (ready_dep hm 3 (by kernel_rfl))
            refine wpOp_on (b := false) rfl rfl rfl g (fun KK hK2 => ?_)
            go_simp
            exact hK2 (A.put (some 25) (.slice (some ⟨g1, off1, none⟩) n ca)) _ ⟨hFR.put (by decide) _, o0.q, o1.q, o2.q, o3.q, o4.q, o5.q, o6.q, .now (put_eq (by have hz := hsz.out; omega)), o8.q, o9.q, o10.q, o11.q, o12.q, o13.q, o14.q, o15.q, o16.q, o17.q, o18.q, o19.q, o20.q, o21.q, o22.q, o23.q, o24.q, hK⟩
          · have e7 := o7 (ready_dep hm 7 (by kernel_rfl))
            have g := o3 (ready_dep hm 3 (by kernel_rfl))
            refine wpOp_on (b := false) rfl rfl rfl g (fun KK hK2 => ?_)
            go_simp
            rw [if_pos (show 0 < n by omega)]
            go_simp
            exact hK2 (A.put (some 26) (.pointer (some ⟨g1, off1, none⟩))) _ ⟨hFR.put (by decide) _, o0.q, o1.q, o2.q, o3.q, o4.q, o5.q, o6.q, o7.q, .now (put_eq (by have hz := hsz.out; omega)), o9.q, o10.q, o11.q, o12.q, o13.q, o14.q, o15.q, o16.q, o17.q, o18.q, o19.q, o20.q, o21.q, o22.q, o23.q, o24.q, hK⟩
          · have e8 := o8 (ready_dep hm 8 (by kernel_rfl))
            have g := o3 (ready_dep hm 3 (by kernel_rfl))
            refine wpOp_on (b := false) rfl rfl rfl g (fun KK hK2 => ?_)
            go_simp
            exact hK2 (A.put (some 27) (.pointer (some ⟨g1, off1 + 7, none⟩))) _ ⟨hFR.put (by decide) _, o0.q, o1.q, o2.q, o3.q, o4.q, o5.q, o6.q, o7.q, o8.q, .now (put_eq (by have hz := hsz.out; omega)), o10.q, o11.q, o12.q, o13.q, o14.q, o15.q, o16.q, o17.q, o18.q, o19.q, o20.q, o21.q, o22.q, o23.q, o24.q, hK⟩
          · have e9 := o9 (ready_dep hm 9 (by kernel_rfl))
            obtain ⟨g9, o9, e9, q7⟩ := (HA.out.keptS (K2.out.trans hK)).first (by omega)
            cases e9
            have g := o3 (ready_dep hm 3 (by kernel_rfl))
            refine wpOp_on (b := false) rfl rfl rfl g (fun KK hK2 => ?_)
            go_simp
            exact hK2 (A.put (some 28) (iv (el ts 0))) _ ⟨hFR.put (by decide) _, o0.q, o1.q, o2.q, o3.q, o4.q, o5.q, o6.q, o7.q, o8.q, o9.q, .now (put_eq (by have hz := hsz.out; omega)), o11.q, o12.q, o13.q, o14.q, o15.q, o16.q, o17.q, o18.q, o19.q, o20.q, o21.q, o22.q, o23.q, o24.q, hK⟩
          · have e5 := o5 (ready_dep hm 5 (by kernel_rfl))
            have e10 := o10 (ready_dep hm 10 (by kernel_rfl))
            have g := o3 (ready_dep hm 3 (by kernel_rfl))
            refine wpOp_on (b := false) rfl rfl rfl g (fun KK hK2 => ?_)
            go_simp
            try rw [hB]
            exact hK2 (A.put (some 29) (.bool false)) _ ⟨hFR.put (by decide) _, o0.q, o1.q, o2.q, o3.q, o4.q, o5.q, o6.q, o7.q, o8.q, o9.q, o10.q, .now (put_eq (by have hz := hsz.out; omega)), o12.q, o13.q, o14.q, o15.q, o16.q, o17.q, o18.q, o19.q, o20.q, o21.q, o22.q, o23.q, o24.q, hK⟩
          · have e3 := o3 (ready_dep hm 3 (by kernel_rfl))
            have e11 := o11 (ready_dep hm 11 (by kernel_rfl))
            refine wpOp_step rfl (fun KK hK2 => ?_)
            go_simp
            exact hK2 (A.put (some 30) (.bool false)) _ ⟨hFR.put (by decide) _, o0.q, o1.q, o2.q, o3.q, o4.q, o5.q, o6.q, o7.q, o8.q, o9.q, o10.q, o11.q, .now (put_eq (by have hz := hsz.out; omega)), o13.q, o14.q, o15.q, o16.q, o17.q, o18.q, o19.q, o20.q, o21.q, o22.q, o23.q, o24.q, hK⟩
          · have e12 := o12 (ready_dep hm 12 (by kernel_rfl))
            refine wpOp_step rfl (fun KK hK2 => ?_)
            go_simp
            exact hK2 (A.put (some 31) (.bool false)) _ ⟨hFR.put (by decide) _, o0.q, o1.q, o2.q, o3.q, o4.q, o5.q, o6.q, o7.q, o8.q, o9.q, o10.q, o11.q, o12.q, .now (put_eq (by have hz := hsz.out; omega)), o14.q, o15.q, o16.q, o17.q, o18.q, o19.q, o20.q, o21.q, o22.q, o23.q, o24.q, hK⟩
          · have g := o13 (ready_dep hm 13 (by kernel_rfl))
            refine wpOp_on (b := false) rfl rfl rfl g (fun KK hK2 => ?_)
            go_simp
            exact hK2 (A.put (some 32) (.pointer (some ⟨w.heap.size, 0, none⟩))) _ ⟨hFR.put (by decide) _, o0.q, o1.q, o2.q, o3.q, o4.q, o5.q, o6.q, o7.q, o8.q, o9.q, o10.q, o11.q, o12.q, o13.q, .now (put_eq (by have hz := hsz.out; omega)), o15.q, o16.q, o17.q, o18.q, o19.q, o20.q, o21.q, o22.q, o23.q, o24.q, hK⟩
          · have e14 := o14 (ready_dep hm 14 (by kernel_rfl))
            have BL := B2.out.kept0 hK
            have x0 := BL.all
            clear BL
            have g := o13 (ready_dep hm 13 (by kernel_rfl))
            refine wpOp_on (b := false) rfl rfl rfl g (fun KK hK2 => ?_)
            go_simp
            exact hK2 (A.put (some 33) (iv f)) _ ⟨hFR.put (by decide) _, o0.q, o1.q, o2.q, o3.q, o4.q, o5.q, o6.q, o7.q, o8.q, o9.q, o10.q, o11.q, o12.q, o13.q, o14.q, .now (put_eq (by have hz := hsz.out; omega)), o16.q, o17.q, o18.q, o19.q, o20.q, o21.q, o22.q, o23.q, o24.q, hK⟩
          · have e15 := o15 (ready_dep hm 15 (by kernel_rfl))
            have g := o13 (ready_dep hm 13 (by kernel_rfl))
            refine wpOp_on (b := false) rfl rfl rfl g (fun KK hK2 => ?_)
            go_simp
            refine st (l1In _ _ _ _) ?_
            rw [hC]
            go_simp
            exact hK2 (A.put (some 34) (.bool false)) _ ⟨hFR.put (by decide) _, o0.q, o1.q, o2.q, o3.q, o4.q, o5.q, o6.q, o7.q, o8.q, o9.q, o10.q, o11.q, o12.q, o13.q, o14.q, o15.q, .now (put_eq (by have hz := hsz.out; omega)), o17.q, o18.q, o19.q, o20.q, o21.q, o22.q, o23.q, o24.q, hK⟩
          · have e16 := o16 (ready_dep hm 16 (by kernel_rfl))
            have g := o13 (ready_dep hm 13 (by kernel_rfl))
            refine wpOp_on (b := false) rfl rfl rfl g (fun KK hK2 => ?_)
            go_simp
            exact hK2 (A.put (some 35) (.bool true)) _ ⟨hFR.put (by decide) _, o0.q, o1.q, o2.q, o3.q, o4.q, o5.q, o6.q, o7.q, o8.q, o9.q, o10.q, o11.q, o12.q, o13.q, o14.q, o15.q, o16.q, .now (put_eq (by have hz := hsz.out; omega)), o18.q, o19.q, o20.q, o21.q, o22.q, o23.q, o24.q, hK⟩
          · have e13 := o13 (ready_dep hm 13 (by kernel_rfl))
            have e17 := o17 (ready_dep hm 17 (by kernel_rfl))
            refine wpOp_step rfl (fun KK hK2 => ?_)
            go_simp
            exact hK2 (A.put (some 36) (.bool true)) _ ⟨hFR.put (by decide) _, o0.q, o1.q, o2.q, o3.q, o4.q, o5.q, o6.q, o7.q, o8.q, o9.q, o10.q, o11.q, o12.q, o13.q, o14.q, o15.q, o16.q, o17.q, .now (put_eq (by have hz := hsz.out; omega)), o19.q, o20.q, o21.q, o22.q, o23.q, o24.q, hK⟩
          · have e18 := o18 (ready_dep hm 18 (by kernel_rfl))
            refine wpOp_step rfl (fun KK hK2 => ?_)
            go_simp
            exact hK2 (A.put (some 37) (.bool true)) _ ⟨hFR.put (by decide) _, o0.q, o1.q, o2.q, o3.q, o4.q, o5.q, o6.q, o7.q, o8.q, o9.q, o10.q, o11.q, o12.q, o13.q, o14.q, o15.q, o16.q, o17.q, o18.q, .now (put_eq (by have hz := hsz.out; omega)), o20.q, o21.q, o22.q, o23.q, o24.q, hK⟩
          · have g := o19 (ready_dep hm 19 (by kernel_rfl))
            refine wpOp_off (b := false) (c := true) rfl rfl rfl g (by decide) ?_
            exact ⟨hFR.put (by decide) _, o0.q, o1.q, o2.q, o3.q, o4.q, o5.q, o6.q, o7.q, o8.q, o9.q, o10.q, o11.q, o12.q, o13.q, o14.q, o15.q, o16.q, o17.q, o18.q, o19.q, .now (put_eq (by have hz := hsz.out; omega)), o21.q, o22.q, o23.q, o24.q, hK⟩
          · have e20 := o20 (ready_dep hm 20 (by kernel_rfl))
            have g := o19 (ready_dep hm 19 (by kernel_rfl))
            refine wpOp_off (b := false) (c := true) rfl rfl rfl g (by decide) ?_
            exact ⟨hFR.put (by decide) _, o0.q, o1.q, o2.q, o3.q, o4.q, o5.q, o6.q, o7.q, o8.q, o9.q, o10.q, o11.q, o12.q, o13.q, o14.q, o15.q, o16.q, o17.q, o18.q, o19.q, o20.q, .now (put_eq (by have hz := hsz.out; omega)), o22.q, o23.q, o24.q, hK⟩
          · have e21 := o21 (ready_dep hm 21 (by kernel_rfl))
            have g := o19 (ready_dep hm 19 (by kernel_rfl))
            refine wpOp_off (b := false) (c := true) rfl rfl rfl g (by decide) ?_
            exact ⟨hFR.put (by decide) _, o0.q, o1.q, o2.q, o3.q, o4.q, o5.q, o6.q, o7.q, o8.q, o9.q, o10.q, o11.q, o12.q, o13.q, o14.q, o15.q, o16.q, o17.q, o18.q, o19.q, o20.q, o21.q, .now (put_eq (by have hz := hsz.out; omega)), o23.q, o24.q, hK⟩
          · have e22 := o22 (ready_dep hm 22 (by kernel_rfl))
            have g := o19 (ready_dep hm 19 (by kernel_rfl))
            refine wpOp_off (b := false) (c := true) rfl rfl rfl g (by decide) ?_
            exact ⟨hFR.put (by decide) _, o0.q, o1.q, o2.q, o3.q, o4.q, o5.q, o6.q, o7.q, o8.q, o9.q, o10.q, o11.q, o12.q, o13.q, o14.q, o15.q, o16.q, o17.q, o18.q, o19.q, o20.q, o21.q, o22.q, .now (put_eq (by have hz := hsz.out; omega)), o24.q, hK⟩
          · have e19 := o19 (ready_dep hm 19 (by kernel_rfl))
            have e23 := o23 (ready_dep hm 23 (by kernel_rfl))
            refine wpOp_step rfl (fun KK hK2 => ?_)
            go_simp
            exact hK2 (A.put (some 42) (.bool true)) _ ⟨hFR.put (by decide) _, o0.q, o1.q, o2.q, o3.q, o4.q, o5.q, o6.q, o7.q, o8.q, o9.q, o10.q, o11.q, o12.q, o13.q, o14.q, o15.q, o16.q, o17.q, o18.q, o19.q, o20.q, o21.q, o22.q, o23.q, .now (put_eq (by have hz := hsz.out; omega)), hK⟩
          · simp at hi1
            omega
      · have hf : 0 ≤ f ∧ f ≤ 512 := by simpa using hC
        obtain ⟨f0, f1⟩ := hf
        cases hD : (bits .and .i64 f 1 == 1)
        · have fe : f % 2 = 0 := by rw [Pl.and1] at hD; simp at hD; omega
          go_enter Tryz.func59, Tryz.ntmps59
          go_wp2_with (go_at_call 86; refine (specUList _ f t _ ca n ys ts sk (HA.out.keptS K0.out) HY.out bx).mono ?_; rintro e9 w2 ⟨b, c, rfl, hc, hs, k2⟩; have B2 := hide (B0.out.kept0 k2); have K2 := hide (K0.out.trans k2); have S2 := hide hs; have C2 := hide hc; have p2 := B2.out.all; clear k2 hs hc)
          refine wp_region_inv2 (fun A0 l A W => FR [18, 19, 20, 21, 22, 23, 24, 25, 26, 27, 28, 29, 30, 31, 32, 33, 34, 35, 36, 37, 38, 39, 40, 41, 42] A0 A ∧ Once l 0 (A.tmps[18]? = some (iv (n : Int))) ∧ Once l 1 (A.tmps[19]? = some (.bool true)) ∧ Once l 2 (A.tmps[20]? = some (.bool false)) ∧ Once l 3 (A.tmps[21]? = some (.bool false)) ∧ Once l 4 (A.tmps[22]? = some (.pointer (some ⟨w.heap.size, 0, none⟩))) ∧ Once l 5 (A.tmps[23]? = some (iv f)) ∧ Once l 6 (A.tmps[24]? = some (.pointer (some ⟨w.heap.size, 2, none⟩))) ∧ Once l 7 (A.tmps[25]? = some (.slice (some ⟨g1, off1, none⟩) n ca)) ∧ Once l 8 (A.tmps[26]? = some (.pointer (some ⟨g1, off1, none⟩))) ∧ Once l 9 (A.tmps[27]? = some (.pointer (some ⟨g1, off1 + 7, none⟩))) ∧ Once l 10 (A.tmps[28]? = some (iv (el ts 0))) ∧ Once l 11 (A.tmps[29]? = some (.bool false)) ∧ Once l 12 (A.tmps[30]? = some (.bool false)) ∧ Once l 13 (A.tmps[31]? = some (.bool false)) ∧ Once l 14 (A.tmps[32]? = some (.pointer (some ⟨w.heap.size, 0, none⟩))) ∧ Once l 15 (A.tmps[33]? = some (iv f)) ∧ Once l 16 (A.tmps[34]? = some (.bool true)) ∧ Once l 17 (A.tmps[35]? = some (.bool false)) ∧ Once l 18 (A.tmps[36]? = some (.bool false)) ∧ Once l 19 (A.tmps[37]? = some (.bool false)) ∧ Once l 20 (A.tmps[38]? = some (.pointer (some ⟨w.heap.size, 0, none⟩))) ∧ Once l 21 (A.tmps[39]? = some (iv f)) ∧ Once l 22 (A.tmps[40]? = some (iv (bits .and .i64 f 1))) ∧ Once l 23 (A.tmps[41]? = some (.bool false)) ∧ Once l 24 (A.tmps[42]? = some (.bool false)) ∧ Kept 0 0 w2 W) (by kernel_rfl) (by kernel_rfl) ?start ?fin ?step
          case start => exact ⟨FR.refl _ _, once_start (by decide), once_start (by decide), once_start (by decide), once_start (by decide), once_start (by decide), once_start (by decide), once_start (by decide), once_start (by decide), once_start (by decide), once_start (by decide), once_start (by decide), once_start (by decide), once_start (by decide), once_start (by decide), once_start (by decide), once_start (by decide), once_start (by decide), once_start (by decide), once_start (by decide), once_start (by decide), once_start (by decide), once_start (by decide), once_start (by decide), once_start (by decide), once_start (by decide), kept_drew (Kept.refl _ _ _)⟩
          case fin =>
            intro l A W h hl
            obtain ⟨hFR, o0, o1, o2, o3, o4, o5, o6, o7, o8, o9, o10, o11, o12, o13, o14, o15, o16, o17, o18, o19, o20, o21, o22, o23, o24, hK⟩ := h
            have g24 := o24 (hl 24 (by decide))
            have QQ := hide hK
            have hc9 := hFR.chain
            simp only [List.foldl] at hc9
            rw [getD_of g24] at hc9
            clear hl hK hFR g24 o0 o1 o2 o3 o4 o5 o6 o7 o8 o9 o10 o11 o12 o13 o14 o15 o16 o17 o18 o19 o20 o21 o22 o23 o24
            generalize A.tmps.getD 18 undef = s18 at hc9
            generalize A.tmps.getD 19 undef = s19 at hc9
            generalize A.tmps.getD 20 undef = s20 at hc9
            generalize A.tmps.getD 21 undef = s21 at hc9
            generalize A.tmps.getD 22 undef = s22 at hc9
            generalize A.tmps.getD 23 undef = s23 at hc9
            generalize A.tmps.getD 24 undef = s24 at hc9
            generalize A.tmps.getD 25 undef = s25 at hc9
            generalize A.tmps.getD 26 undef = s26 at hc9
            generalize A.tmps.getD 27 undef = s27 at hc9
            generalize A.tmps.getD 28 undef = s28 at hc9
            generalize A.tmps.getD 29 undef = s29 at hc9
            generalize A.tmps.getD 30 undef = s30 at hc9
            generalize A.tmps.getD 31 undef = s31 at hc9
            generalize A.tmps.getD 32 undef = s32 at hc9
            generalize A.tmps.getD 33 undef = s33 at hc9
            generalize A.tmps.getD 34 undef = s34 at hc9
            generalize A.tmps.getD 35 undef = s35 at hc9
            generalize A.tmps.getD 36 undef = s36 at hc9
            generalize A.tmps.getD 37 undef = s37 at hc9
            generalize A.tmps.getD 38 undef = s38 at hc9
            generalize A.tmps.getD 39 undef = s39 at hc9
            generalize A.tmps.getD 40 undef = s40 at hc9
            generalize A.tmps.getD 41 undef = s41 at hc9
            subst hc9
            go_simp
            have B5 := hide (B2.out.kept0 QQ.out)
            have p5 := B5.out.all
            go_wp2_with fail
            go_loopw [6, 48] (fun at_ j wr => ∃ k : Nat, k ≤ n ∧ j = .int .i64 k ∧ at_ = iv (Pl.placeB ys f k) ∧ (∀ i, i < k → Pl.inOk (Pl.inAt ys i) = true ∧ el ts i = Pl.placeB ys f i) ∧ Kept 0 0 w2 wr) (fun _ j _ => n - (intOf j).toNat)
            case atStart => exact ⟨0, Nat.zero_le _, rfl, rfl, fun i hi => absurd hi (Nat.not_lt_zero i), QQ.out⟩
            case round =>
              obtain ⟨k, hk, rfl, rfl, hall, hkept⟩ := hrel
              have HK := hide hkept
              have HL := hide hall
              clear hkept hall p2 p5
              obtain ⟨pl0, pl1⟩ := Pl.placeB_in ys f k
              by_cases hlt : k < n
              · obtain ⟨g9, o9, e9, q0, q1, q2, q3, q4, q5, q6, q7, q8⟩ := (HA.out.keptS (K2.out.trans HK.out)).at9 hlt
                cases e9
                have BM := hide (Blk.new wr #[iv (el ys (k * 7)), iv (el ys (k * 7 + 1)), iv (el ys (k * 7 + 2)), iv (el ys (k * 7 + 3)), iv (el ys (k * 7 + 4)), iv (el ys (k * 7 + 5)), iv (el ys (k * 7 + 6)), iv (el ts k), .bool (bl sk k)] 126)
                cases hb : Pl.inOk (Pl.inAt ys k)
                · have E : Hid (Pl.goodU f t n ys ts sk = false) := hide (Pl.goodU_no fun h => by rw [h.ok k hlt] at hb; cases hb)
                  go_wp2_with (first | (go_at_call 87; refine (specGoodIns _ (el ys (k * 7)) (el ys (k * 7 + 1)) (el ys (k * 7 + 2)) (el ys (k * 7 + 3)) (el ys (k * 7 + 4)) (el ys (k * 7 + 5)) (el ys (k * 7 + 6))).mono ?_; rw [show Pl.inOk ⟨el ys (k * 7), el ys (k * 7 + 1), el ys (k * 7 + 2), el ys (k * 7 + 3), el ys (k * 7 + 4), el ys (k * 7 + 5), el ys (k * 7 + 6)⟩ = Pl.inOk (Pl.inAt ys k) from rfl, hb]; rintro e9 w3 ⟨rfl, k3⟩; have B3 := hide (BM.out.kept0 k3); have K3 := hide ((kept_new HK.out _).trans k3); have p3 := B3.out.all; clear k3))
                  go_ret
                  exact ⟨rB E.out.symm, K2.out.trans K3.out⟩
                · cases hp : (el ts k != Pl.placeB ys f k)
                  · obtain ⟨L, hL⟩ : ∃ L : Nat, L = (Pl.encode (Pl.inAt ys k)).length := ⟨_, rfl⟩
                    have hL2 : (L : Int) = Pl.lenB (Pl.inAt ys k) := by rw [hL]; exact Pl.lenB_encode _
                    have hL3 := Pl.lenB_in (Pl.inAt ys k)
                    have LL := hide hL
                    clear hL
                    go_wp2_with (first | (go_at_call 87; refine (specGoodIns _ (el ys (k * 7)) (el ys (k * 7 + 1)) (el ys (k * 7 + 2)) (el ys (k * 7 + 3)) (el ys (k * 7 + 4)) (el ys (k * 7 + 5)) (el ys (k * 7 + 6))).mono ?_; rw [show Pl.inOk ⟨el ys (k * 7), el ys (k * 7 + 1), el ys (k * 7 + 2), el ys (k * 7 + 3), el ys (k * 7 + 4), el ys (k * 7 + 5), el ys (k * 7 + 6)⟩ = Pl.inOk (Pl.inAt ys k) from rfl, hb]; rintro e9 w3 ⟨rfl, k3⟩; have B3 := hide (BM.out.kept0 k3); have K3 := hide ((kept_new HK.out _).trans k3); have p3 := B3.out.all; clear k3) | (go_at_call 88; refine (specEncode _ (el ys (k * 7)) (el ys (k * 7 + 1)) (el ys (k * 7 + 2)) (el ys (k * 7 + 3)) (el ys (k * 7 + 4)) (el ys (k * 7 + 5)) (el ys (k * 7 + 6)) hb).mono ?_; rw [show Pl.encode ⟨el ys (k * 7), el ys (k * 7 + 1), el ys (k * 7 + 2), el ys (k * 7 + 3), el ys (k * 7 + 4), el ys (k * 7 + 5), el ys (k * 7 + 6)⟩ = Pl.encode (Pl.inAt ys k) from rfl, ← LL.out]; rintro e9 w4 ⟨g4, c4, rfl, h41, h42, h43, k4⟩; have K4 := hide (K3.out.trans k4); clear h41 h42 h43 k4))
                    go_roundw
                    case rel => exact ⟨k + 1, by omega, by go_num, by rw [show Pl.placeB ys f (k + 1) = Pl.placeB ys f k + 2 * (L : Int) from by rw [hL2]; rfl]; go_num, snoc_all HL.out ⟨hb, by simpa using hp⟩, K4.out⟩
                    case measure => simp [intOf]; omega
                  · have E : Hid (Pl.goodU f t n ys ts sk = false) := hide (Pl.goodU_no fun h => by rw [h.pl k hlt] at hp; simp at hp)
                    go_wp2_with (first | (go_at_call 87; refine (specGoodIns _ (el ys (k * 7)) (el ys (k * 7 + 1)) (el ys (k * 7 + 2)) (el ys (k * 7 + 3)) (el ys (k * 7 + 4)) (el ys (k * 7 + 5)) (el ys (k * 7 + 6))).mono ?_; rw [show Pl.inOk ⟨el ys (k * 7), el ys (k * 7 + 1), el ys (k * 7 + 2), el ys (k * 7 + 3), el ys (k * 7 + 4), el ys (k * 7 + 5), el ys (k * 7 + 6)⟩ = Pl.inOk (Pl.inAt ys k) from rfl, hb]; rintro e9 w3 ⟨rfl, k3⟩; have B3 := hide (BM.out.kept0 k3); have K3 := hide ((kept_new HK.out _).trans k3); have p3 := B3.out.all; clear k3))
                    go_ret
                    exact ⟨rB E.out.symm, K2.out.trans K3.out⟩
              · obtain rfl : k = n := by omega
                obtain ⟨m, rfl⟩ : ∃ m, k = m + 1 := ⟨k - 1, by omega⟩
                have B6 := hide (B2.out.kept0 HK.out)
                have p6 := B6.out.all
                obtain ⟨g2, off2, rfl, r0, r1, r2, r3, r4, r5, r6⟩ := (S2.out.row.keptS HK.out).at7 HY.out (show m < m + 1 by omega)
                cases h1 : (Pl.placeB ys f (m + 1) != t)
                · have h1t : t = Pl.placeB ys f (m + 1) := by simp at h1; exact h1.symm
                  cases h2 : decide ((512 : Int) < Pl.placeB ys f (m + 1))
                  · have h2t : t ≤ 512 := by simp at h2; omega
                    cases h3 : decide (((Pl.strN ys (m + 1) : Nat) : Int) < (m : Int))
                    · have h3t : m ≤ Pl.strN ys (m + 1) := by simp at h3; omega
                      have h3u := Pl.strN_le ys (m + 1)
                      cases h4 : (((Pl.strN ys (m + 1) : Nat) : Int) == (m : Int))
                      · have hst : ∀ j, j < m → Pl.straight (Pl.inAt ys j) = true := fun j hj => Pl.strN_back (n := m + 1) (by simp at h4; omega) j (by omega)
                        have K6 := HK
                        have hr : Pl.rowS ys (Pl.headN ys (m + 1)) = true := Pl.head_of (by omega) (fun j hj => (HL.out j hj).1) (fun j hj => hst j (by omega))
                        go_wp2_with (first | (go_at_call 89; refine (specStrW _ (el ys (m * 7)) (el ys (m * 7 + 1)) (el ys (m * 7 + 2)) (el ys (m * 7 + 3)) (el ys (m * 7 + 4)) (el ys (m * 7 + 5)) (el ys (m * 7 + 6))).mono ?_; rw [show Pl.straight ⟨el ys (m * 7), el ys (m * 7 + 1), el ys (m * 7 + 2), el ys (m * 7 + 3), el ys (m * 7 + 4), el ys (m * 7 + 5), el ys (m * 7 + 6)⟩ = Pl.straight (Pl.inAt ys m) from rfl, hs]; rintro e9 w6 ⟨rfl, k6⟩; have K6 := hide (HK.out.trans k6); clear k6) | (go_at_call 90; refine (specSkips _ _ c (m + 1) ys (S2.out.row.keptS K6.out) HY.out C2.out (by omega) n8 hr).mono ?_; rintro e9 w7 ⟨gs, cs, rfl, hg1, hg2, hO, k7⟩; have K7 := hide (K6.out.trans k7); have O7 := hide hO; clear k7 hO))
                        go_loopw [9, 10, 101] (fun _ _ j wy => ∃ q : Nat, q ≤ m + 1 ∧ j = .int .i64 q ∧ (∀ i, i < q → bl sk i = bl (Pl.skV ys (m + 1)) i) ∧ Kept 0 0 w7 wy) (fun _ _ j _ => m + 1 - (intOf j).toNat)
                        case atStart => exact ⟨0, Nat.zero_le _, rfl, fun i hi => absurd hi (Nat.not_lt_zero i), Kept.refl _ _ _⟩
                        case round =>
                          obtain ⟨q, hq, rfl, hsk, hkept⟩ := hrel
                          have HQ := hide (K7.out.trans hkept)
                          have HQ2 := hide hkept
                          have HS := hide hsk
                          have O8 := hide (O7.out.keptS hkept (by omega))
                          clear hsk hkept p6 r0 r1 r2 r3 r4 r5 r6
                          by_cases hlq : q < m + 1
                          · obtain ⟨g9, o9, e9, q0, q1, q2, q3, q4, q5, q6, q7, q8⟩ := (HA.out.keptS (K2.out.trans HQ.out)).at9 hlq
                            cases e9
                            clear q0 q1 q2 q3 q4 q5 q6 q7
                            have B9 := hide (B2.out.kept0 HQ.out)
                            have p9 := B9.out.all
                            obtain ⟨hc9, hf9⟩ := O8.out q (by rw [Pl.skV_len]; omega)
                            rw [show (Pl.skV ys (m + 1))[q]?.getD false = bl (Pl.skV ys (m + 1)) q from rfl] at hc9
                            cases hx : (bl (Pl.skV ys (m + 1)) q == bl sk q)
                            · have E : Hid (Pl.goodU f t (m + 1) ys ts sk = false) := hide (Pl.goodU_no fun h => by rw [h.sk q hlq] at hx; simp at hx)
                              go_wp2_with fail
                              go_ret
                              exact ⟨rB E.out.symm, K2.out.trans HQ.out⟩
                            · go_wp2_with fail
                              go_roundw
                              case rel => exact ⟨q + 1, by omega, by go_num, snoc_all HS.out (by simpa using hx : bl (Pl.skV ys (m + 1)) q = bl sk q).symm, HQ2.out⟩
                              case measure => simp [intOf]; omega
                          · obtain rfl : q = m + 1 := by omega
                            have E : Hid (Pl.goodU f t (m + 1) ys ts sk = true) := hide (Pl.goodU_yes ⟨n1, n8, f0, f1, fe, fun j hj => (HL.out j hj).1, fun j hj => (HL.out j hj).2, h1t, h2t, fun j hj => hst j (by omega), HS.out⟩)
                            go_wp2_with fail
                            go_ret
                            exact ⟨rB E.out.symm, K2.out.trans HQ.out⟩
                      · cases hs : Pl.straight (Pl.inAt ys m)
                        · have hst : ∀ j, j < m → Pl.straight (Pl.inAt ys j) = true := by
                            have h5 : Pl.strN ys (m + 1) = Pl.strN ys m := by rw [Pl.strN_s, hs]; rfl
                            exact Pl.strN_back (by simp at h4; omega)
                          have hr : Pl.rowS ys (Pl.headN ys (m + 1)) = true := Pl.head_of (by omega) (fun j hj => (HL.out j hj).1) (fun j hj => hst j (by omega))
                          go_wp2_with (first | (go_at_call 89; refine (specStrW _ (el ys (m * 7)) (el ys (m * 7 + 1)) (el ys (m * 7 + 2)) (el ys (m * 7 + 3)) (el ys (m * 7 + 4)) (el ys (m * 7 + 5)) (el ys (m * 7 + 6))).mono ?_; rw [show Pl.straight ⟨el ys (m * 7), el ys (m * 7 + 1), el ys (m * 7 + 2), el ys (m * 7 + 3), el ys (m * 7 + 4), el ys (m * 7 + 5), el ys (m * 7 + 6)⟩ = Pl.straight (Pl.inAt ys m) from rfl, hs]; rintro e9 w6 ⟨rfl, k6⟩; have K6 := hide (HK.out.trans k6); clear k6) | (go_at_call 90; refine (specSkips _ _ c (m + 1) ys (S2.out.row.keptS K6.out) HY.out C2.out (by omega) n8 hr).mono ?_; rintro e9 w7 ⟨gs, cs, rfl, hg1, hg2, hO, k7⟩; have K7 := hide (K6.out.trans k7); have O7 := hide hO; clear k7 hO))
                          go_loopw [9, 10, 101] (fun _ _ j wy => ∃ q : Nat, q ≤ m + 1 ∧ j = .int .i64 q ∧ (∀ i, i < q → bl sk i = bl (Pl.skV ys (m + 1)) i) ∧ Kept 0 0 w7 wy) (fun _ _ j _ => m + 1 - (intOf j).toNat)
                          case atStart => exact ⟨0, Nat.zero_le _, rfl, fun i hi => absurd hi (Nat.not_lt_zero i), Kept.refl _ _ _⟩
                          case round =>
                            obtain ⟨q, hq, rfl, hsk, hkept⟩ := hrel
                            have HQ := hide (K7.out.trans hkept)
                            have HQ2 := hide hkept
                            have HS := hide hsk
                            have O8 := hide (O7.out.keptS hkept (by omega))
                            clear hsk hkept p6 r0 r1 r2 r3 r4 r5 r6
                            by_cases hlq : q < m + 1
                            · obtain ⟨g9, o9, e9, q0, q1, q2, q3, q4, q5, q6, q7, q8⟩ := (HA.out.keptS (K2.out.trans HQ.out)).at9 hlq
                              cases e9
                              clear q0 q1 q2 q3 q4 q5 q6 q7
                              have B9 := hide (B2.out.kept0 HQ.out)
                              have p9 := B9.out.all
                              obtain ⟨hc9, hf9⟩ := O8.out q (by rw [Pl.skV_len]; omega)
                              rw [show (Pl.skV ys (m + 1))[q]?.getD false = bl (Pl.skV ys (m + 1)) q from rfl] at hc9
                              cases hx : (bl (Pl.skV ys (m + 1)) q == bl sk q)
                              · have E : Hid (Pl.goodU f t (m + 1) ys ts sk = false) := hide (Pl.goodU_no fun h => by rw [h.sk q hlq] at hx; simp at hx)
                                go_wp2_with fail
                                go_ret
                                exact ⟨rB E.out.symm, K2.out.trans HQ.out⟩
                              · go_wp2_with fail
                                go_roundw
                                case rel => exact ⟨q + 1, by omega, by go_num, snoc_all HS.out (by simpa using hx : bl (Pl.skV ys (m + 1)) q = bl sk q).symm, HQ2.out⟩
                                case measure => simp [intOf]; omega
                            · obtain rfl : q = m + 1 := by omega
                              have E : Hid (Pl.goodU f t (m + 1) ys ts sk = true) := hide (Pl.goodU_yes ⟨n1, n8, f0, f1, fe, fun j hj => (HL.out j hj).1, fun j hj => (HL.out j hj).2, h1t, h2t, fun j hj => hst j (by omega), HS.out⟩)
                              go_wp2_with fail
                              go_ret
                              exact ⟨rB E.out.symm, K2.out.trans HQ.out⟩
                        · have E : Hid (Pl.goodU f t (m + 1) ys ts sk = false) := hide (Pl.goodU_no fun h => by have h5 := Pl.strN_all (ys := ys) (n := m + 1) (fun j hj => if e : j = m then (by rw [e]; exact hs) else h.st j (by omega)); simp at h4; omega)
                          go_wp2_with (first | (go_at_call 89; refine (specStrW _ (el ys (m * 7)) (el ys (m * 7 + 1)) (el ys (m * 7 + 2)) (el ys (m * 7 + 3)) (el ys (m * 7 + 4)) (el ys (m * 7 + 5)) (el ys (m * 7 + 6))).mono ?_; rw [show Pl.straight ⟨el ys (m * 7), el ys (m * 7 + 1), el ys (m * 7 + 2), el ys (m * 7 + 3), el ys (m * 7 + 4), el ys (m * 7 + 5), el ys (m * 7 + 6)⟩ = Pl.straight (Pl.inAt ys m) from rfl, hs]; rintro e9 w6 ⟨rfl, k6⟩; have K6 := hide (HK.out.trans k6); clear k6) | (go_at_call 90; refine (specSkips _ _ c (m + 1) ys (S2.out.row.keptS K6.out) HY.out C2.out (by omega) n8 hr).mono ?_; rintro e9 w7 ⟨gs, cs, rfl, hg1, hg2, hO, k7⟩; have K7 := hide (K6.out.trans k7); have O7 := hide hO; clear k7 hO))
                          go_ret
                          exact ⟨rB E.out.symm, K2.out.trans K6.out⟩
                    · have E : Hid (Pl.goodU f t (m + 1) ys ts sk = false) := hide (Pl.goodU_no fun h => by have h5 := Pl.strN_all (ys := ys) (n := m) (fun j hj => h.st j (by omega)); have h6 : Pl.strN ys m ≤ Pl.strN ys (m + 1) := (by rw [Pl.strN_s]; split <;> omega); simp at h3; omega)
                      have h3i : ((Pl.strN ys (m + 1) : Nat) : Int) < (m : Int) := of_decide_eq_true h3
                      have h3n : Pl.strN ys (m + 1) < m := by omega
                      have K6 := HK
                      go_wp2_with (first | (go_at_call 89; refine (specStrW _ (el ys (m * 7)) (el ys (m * 7 + 1)) (el ys (m * 7 + 2)) (el ys (m * 7 + 3)) (el ys (m * 7 + 4)) (el ys (m * 7 + 5)) (el ys (m * 7 + 6))).mono ?_; rw [show Pl.straight ⟨el ys (m * 7), el ys (m * 7 + 1), el ys (m * 7 + 2), el ys (m * 7 + 3), el ys (m * 7 + 4), el ys (m * 7 + 5), el ys (m * 7 + 6)⟩ = Pl.straight (Pl.inAt ys m) from rfl, hs]; rintro e9 w6 ⟨rfl, k6⟩; have K6 := hide (HK.out.trans k6); clear k6) | (go_at_call 90; refine (specSkips _ _ c (m + 1) ys (S2.out.row.keptS K6.out) HY.out C2.out (by omega) n8 hr).mono ?_; rintro e9 w7 ⟨gs, cs, rfl, hg1, hg2, hO, k7⟩; have K7 := hide (K6.out.trans k7); have O7 := hide hO; clear k7 hO))
                      go_ret
                      exact ⟨rB E.out.symm, K2.out.trans K6.out⟩
                  · have E : Hid (Pl.goodU f t (m + 1) ys ts sk = false) := hide (Pl.goodU_no fun h => by have h5 := h.t1; simp at h2; omega)
                    have K6 := HK
                    go_wp2_with (first | (go_at_call 89; refine (specStrW _ (el ys (m * 7)) (el ys (m * 7 + 1)) (el ys (m * 7 + 2)) (el ys (m * 7 + 3)) (el ys (m * 7 + 4)) (el ys (m * 7 + 5)) (el ys (m * 7 + 6))).mono ?_; rw [show Pl.straight ⟨el ys (m * 7), el ys (m * 7 + 1), el ys (m * 7 + 2), el ys (m * 7 + 3), el ys (m * 7 + 4), el ys (m * 7 + 5), el ys (m * 7 + 6)⟩ = Pl.straight (Pl.inAt ys m) from rfl, hs]; rintro e9 w6 ⟨rfl, k6⟩; have K6 := hide (HK.out.trans k6); clear k6) | (go_at_call 90; refine (specSkips _ _ c (m + 1) ys (S2.out.row.keptS K6.out) HY.out C2.out (by omega) n8 hr).mono ?_; rintro e9 w7 ⟨gs, cs, rfl, hg1, hg2, hO, k7⟩; have K7 := hide (K6.out.trans k7); have O7 := hide hO; clear k7 hO))
                    go_ret
                    exact ⟨rB E.out.symm, K2.out.trans K6.out⟩
                · have E : Hid (Pl.goodU f t (m + 1) ys ts sk = false) := hide (Pl.goodU_no fun h => by have h5 := h.tw; rw [← h5] at h1; simp at h1)
                  have K6 := HK
                  go_wp2_with (first | (go_at_call 89; refine (specStrW _ (el ys (m * 7)) (el ys (m * 7 + 1)) (el ys (m * 7 + 2)) (el ys (m * 7 + 3)) (el ys (m * 7 + 4)) (el ys (m * 7 + 5)) (el ys (m * 7 + 6))).mono ?_; rw [show Pl.straight ⟨el ys (m * 7), el ys (m * 7 + 1), el ys (m * 7 + 2), el ys (m * 7 + 3), el ys (m * 7 + 4), el ys (m * 7 + 5), el ys (m * 7 + 6)⟩ = Pl.straight (Pl.inAt ys m) from rfl, hs]; rintro e9 w6 ⟨rfl, k6⟩; have K6 := hide (HK.out.trans k6); clear k6) | (go_at_call 90; refine (specSkips _ _ c (m + 1) ys (S2.out.row.keptS K6.out) HY.out C2.out (by omega) n8 hr).mono ?_; rintro e9 w7 ⟨gs, cs, rfl, hg1, hg2, hO, k7⟩; have K7 := hide (K6.out.trans k7); have O7 := hide hO; clear k7 hO))
                  go_ret
                  exact ⟨rB E.out.symm, K2.out.trans K6.out⟩
          case step =>
            intro l A W i hI hm
            obtain ⟨hFR, o0, o1, o2, o3, o4, o5, o6, o7, o8, o9, o10, o11, o12, o13, o14, o15, o16, o17, o18, o19, o20, o21, o22, o23, o24, hK⟩ := hI
            obtain ⟨hi1, hi2⟩ := ready_new hm
            have hsz : Hid (42 < A.tmps.size) := hide (by rw [hFR.size]; simp)
            have m1 : A.tmps[1]? = some (.pointer (some ⟨w.heap.size, 0, none⟩)) := (hFR.out 1 (by decide)).trans rfl
            have m5 : A.tmps[5]? = some (.int .i64 (n : Int)) := (hFR.out 5 (by decide)).trans rfl
            rcases i with _ | _ | _ | _ | _ | _ | _ | _ | _ | _ | _ | _ | _ | _ | _ | _ | _ | _ | _ | _ | _ | _ | _ | _ | _ | i
            · refine wpOp_step rfl (fun KK hK2 => ?_)
              go_simp
              exact hK2 (A.put (some 18) (iv (n : Int))) _ ⟨hFR.put (by decide) _, .now (put_eq (by have hz := hsz.out; omega)), o1.q, o2.q, o3.q, o4.q, o5.q, o6.q, o7.q, o8.q, o9.q, o10.q, o11.q, o12.q, o13.q, o14.q, o15.q, o16.q, o17.q, o18.q, o19.q, o20.q, o21.q, o22.q, o23.q, o24.q, hK⟩
            · have e0 := o0 (ready_dep hm 0 (by kernel_rfl))
              refine wpOp_step rfl (fun KK hK2 => ?_)
              go_simp
              refine st (l1In _ _ _ _) ?_
              rw [hA]
              go_simp
              exact hK2 (A.put (some 19) (.bool true)) _ ⟨hFR.put (by decide) _, o0.q, .now (put_eq (by have hz := hsz.out; omega)), o2.q, o3.q, o4.q, o5.q, o6.q, o7.q, o8.q, o9.q, o10.q, o11.q, o12.q, o13.q, o14.q, o15.q, o16.q, o17.q, o18.q, o19.q, o20.q, o21.q, o22.q, o23.q, o24.q, hK⟩
            · have e1 := o1 (ready_dep hm 1 (by kernel_rfl))
              refine wpOp_step rfl (fun KK hK2 => ?_)
              go_simp
              exact hK2 (A.put (some 20) (.bool false)) _ ⟨hFR.put (by decide) _, o0.q, o1.q, .now (put_eq (by have hz := hsz.out; omega)), o3.q, o4.q, o5.q, o6.q, o7.q, o8.q, o9.q, o10.q, o11.q, o12.q, o13.q, o14.q, o15.q, o16.q, o17.q, o18.q, o19.q, o20.q, o21.q, o22.q, o23.q, o24.q, hK⟩
            · have e2 := o2 (ready_dep hm 2 (by kernel_rfl))
              refine wpOp_step rfl (fun KK hK2 => ?_)
              go_simp
              exact hK2 (A.put (some 21) (.bool false)) _ ⟨hFR.put (by decide) _, o0.q, o1.q, o2.q, .now (put_eq (by have hz := hsz.out; omega)), o4.q, o5.q, o6.q, o7.q, o8.q, o9.q, o10.q, o11.q, o12.q, o13.q, o14.q, o15.q, o16.q, o17.q, o18.q, o19.q, o20.q, o21.q, o22.q, o23.q, o24.q, hK⟩
            · have g := o3 (ready_dep hm 3 (by kernel_rfl))
              refine wpOp_on (b := false) rfl rfl rfl g (fun KK hK2 => ?_)
              go_simp
              exact hK2 (A.put (some 22) (.pointer (some ⟨w.heap.size, 0, none⟩))) _ ⟨hFR.put (by decide) _, o0.q, o1.q, o2.q, o3.q, .now (put_eq (by have hz := hsz.out; omega)), o5.q, o6.q, o7.q, o8.q, o9.q, o10.q, o11.q, o12.q, o13.q, o14.q, o15.q, o16.q, o17.q, o18.q, o19.q, o20.q, o21.q, o22.q, o23.q, o24.q, hK⟩
            · have e4 := o4 (ready_dep hm 4 (by kernel_rfl))
              have BL := B2.out.kept0 hK
              have x0 := BL.all
              clear BL
              have g := o3 (ready_dep hm 3 (by kernel_rfl))
              refine wpOp_on (b := false) rfl rfl rfl g (fun KK hK2 => ?_)
              go_simp
              exact hK2 (A.put (some 23) (iv f)) _ ⟨hFR.put (by decide) _, o0.q, o1.q, o2.q, o3.q, o4.q, .now (put_eq (by have hz := hsz.out; omega)), o6.q, o7.q, o8.q, o9.q, o10.q, o11.q, o12.q, o13.q, o14.q, o15.q, o16.q, o17.q, o18.q, o19.q, o20.q, o21.q, o22.q, o23.q, o24.q, hK⟩
            · have g := o3 (ready_dep hm 3 (by kernel_rfl))
              refine wpOp_on (b := false) rfl rfl rfl g (fun KK hK2 => ?_)
              go_simp
              exact hK2 (A.put (some 24) (.pointer (some ⟨w.heap.size, 2, none⟩))) _ ⟨hFR.put (by decide) _, o0.q, o1.q, o2.q, o3.q, o4.q, o5.q, .now (put_eq (by have hz := hsz.out; omega)), o7.q, o8.q, o9.q, o10.q, o11.q, o12.q, o13.q, o14.q, o15.q, o16.q, o17.q, o18.q, o19.q, o20.q, o21.q, o22.q, o23.q, o24.q, hK⟩
            · have e6 := o6 (ready_dep hm 6 (by kernel_rfl))
              have BL := B2.out.kept0 hK
              have x0 := BL.all
              clear BL
              have g := o3 (ready_dep hm 3 (by kernel_rfl))
              refine wpOp_on (b := false) rfl rfl rfl g (fun KK hK2 => ?_)
              go_simp
              exact hK2 (A.put (some 25) (.slice (some ⟨g1, off1, none⟩) n ca)) _ ⟨hFR.put (by decide) _, o0.q, o1.q, o2.q, o3.q, o4.q, o5.q, o6.q, .now (put_eq (by have hz := hsz.out; omega)), o8.q, o9.q, o10.q, o11.q, o12.q, o13.q, o14.q, o15.q, o16.q, o17.q, o18.q, o19.q, o20.q, o21.q, o22.q, o23.q, o24.q, hK⟩
            · have e7 := o7 (ready_dep hm 7 (by kernel_rfl))
              have g := o3 (ready_dep hm 3 (by kernel_rfl))
              refine wpOp_on (b := false) rfl rfl rfl g (fun KK hK2 => ?_)
              go_simp
              rw [if_pos (show 0 < n by omega)]
              go_simp
              exact hK2 (A.put (some 26) (.pointer (some ⟨g1, off1, none⟩))) _ ⟨hFR.put (by decide) _, o0.q, o1.q, o2.q, o3.q, o4.q, o5.q, o6.q, o7.q, .now (put_eq (by have hz := hsz.out; omega)), o9.q, o10.q, o11.q, o12.q, o13.q, o14.q, o15.q, o16.q, o17.q, o18.q, o19.q, o20.q, o21.q, o22.q, o23.q, o24.q, hK⟩
            · have e8 := o8 (ready_dep hm 8 (by kernel_rfl))
              have g := o3 (ready_dep hm 3 (by kernel_rfl))
              refine wpOp_on (b := false) rfl rfl rfl g (fun KK hK2 => ?_)
              go_simp
              exact hK2 (A.put (some 27) (.pointer (some ⟨g1, off1 + 7, none⟩))) _ ⟨hFR.put (by decide) _, o0.q, o1.q, o2.q, o3.q, o4.q, o5.q, o6.q, o7.q, o8.q, .now (put_eq (by have hz := hsz.out; omega)), o10.q, o11.q, o12.q, o13.q, o14.q, o15.q, o16.q, o17.q, o18.q, o19.q, o20.q, o21.q, o22.q, o23.q, o24.q, hK⟩
            · have e9 := o9 (ready_dep hm 9 (by kernel_rfl))
              obtain ⟨g9, o9, e9, q7⟩ := (HA.out.keptS (K2.out.trans hK)).first (by omega)
              cases e9
              have g := o3 (ready_dep hm 3 (by kernel_rfl))
              refine wpOp_on (b := false) rfl rfl rfl g (fun KK hK2 => ?_)
              go_simp
              exact hK2 (A.put (some 28) (iv (el ts 0))) _ ⟨hFR.put (by decide) _, o0.q, o1.q, o2.q, o3.q, o4.q, o5.q, o6.q, o7.q, o8.q, o9.q, .now (put_eq (by have hz := hsz.out; omega)), o11.q, o12.q, o13.q, o14.q, o15.q, o16.q, o17.q, o18.q, o19.q, o20.q, o21.q, o22.q, o23.q, o24.q, hK⟩
            · have e5 := o5 (ready_dep hm 5 (by kernel_rfl))
              have e10 := o10 (ready_dep hm 10 (by kernel_rfl))
              have g := o3 (ready_dep hm 3 (by kernel_rfl))
              refine wpOp_on (b := false) rfl rfl rfl g (fun KK hK2 => ?_)
              go_simp
              try rw [hB]
              exact hK2 (A.put (some 29) (.bool false)) _ ⟨hFR.put (by decide) _, o0.q, o1.q, o2.q, o3.q, o4.q, o5.q, o6.q, o7.q, o8.q, o9.q, o10.q, .now (put_eq (by have hz := hsz.out; omega)), o12.q, o13.q, o14.q, o15.q, o16.q, o17.q, o18.q, o19.q, o20.q, o21.q, o22.q, o23.q, o24.q, hK⟩
            · have e3 := o3 (ready_dep hm 3 (by kernel_rfl))
              have e11 := o11 (ready_dep hm 11 (by kernel_rfl))
              refine wpOp_step rfl (fun KK hK2 => ?_)
              go_simp
              exact hK2 (A.put (some 30) (.bool false)) _ ⟨hFR.put (by decide) _, o0.q, o1.q, o2.q, o3.q, o4.q, o5.q, o6.q, o7.q, o8.q, o9.q, o10.q, o11.q, .now (put_eq (by have hz := hsz.out; omega)), o13.q, o14.q, o15.q, o16.q, o17.q, o18.q, o19.q, o20.q, o21.q, o22.q, o23.q, o24.q, hK⟩
            · have e12 := o12 (ready_dep hm 12 (by kernel_rfl))
              refine wpOp_step rfl (fun KK hK2 => ?_)
              go_simp
              exact hK2 (A.put (some 31) (.bool false)) _ ⟨hFR.put (by decide) _, o0.q, o1.q, o2.q, o3.q, o4.q, o5.q, o6.q, o7.q, o8.q, o9.q, o10.q, o11.q, o12.q, .now (put_eq (by have hz := hsz.out; omega)), o14.q, o15.q, o16.q, o17.q, o18.q, o19.q, o20.q, o21.q, o22.q, o23.q, o24.q, hK⟩
            · have g := o13 (ready_dep hm 13 (by kernel_rfl))
              refine wpOp_on (b := false) rfl rfl rfl g (fun KK hK2 => ?_)
              go_simp
              exact hK2 (A.put (some 32) (.pointer (some ⟨w.heap.size, 0, none⟩))) _ ⟨hFR.put (by decide) _, o0.q, o1.q, o2.q, o3.q, o4.q, o5.q, o6.q, o7.q, o8.q, o9.q, o10.q, o11.q, o12.q, o13.q, .now (put_eq (by have hz := hsz.out; omega)), o15.q, o16.q, o17.q, o18.q, o19.q, o20.q, o21.q, o22.q, o23.q, o24.q, hK⟩
            · have e14 := o14 (ready_dep hm 14 (by kernel_rfl))
              have BL := B2.out.kept0 hK
              have x0 := BL.all
              clear BL
              have g := o13 (ready_dep hm 13 (by kernel_rfl))
              refine wpOp_on (b := false) rfl rfl rfl g (fun KK hK2 => ?_)
              go_simp
              exact hK2 (A.put (some 33) (iv f)) _ ⟨hFR.put (by decide) _, o0.q, o1.q, o2.q, o3.q, o4.q, o5.q, o6.q, o7.q, o8.q, o9.q, o10.q, o11.q, o12.q, o13.q, o14.q, .now (put_eq (by have hz := hsz.out; omega)), o16.q, o17.q, o18.q, o19.q, o20.q, o21.q, o22.q, o23.q, o24.q, hK⟩
            · have e15 := o15 (ready_dep hm 15 (by kernel_rfl))
              have g := o13 (ready_dep hm 13 (by kernel_rfl))
              refine wpOp_on (b := false) rfl rfl rfl g (fun KK hK2 => ?_)
              go_simp
              refine st (l1In _ _ _ _) ?_
              rw [hC]
              go_simp
              exact hK2 (A.put (some 34) (.bool true)) _ ⟨hFR.put (by decide) _, o0.q, o1.q, o2.q, o3.q, o4.q, o5.q, o6.q, o7.q, o8.q, o9.q, o10.q, o11.q, o12.q, o13.q, o14.q, o15.q, .now (put_eq (by have hz := hsz.out; omega)), o17.q, o18.q, o19.q, o20.q, o21.q, o22.q, o23.q, o24.q, hK⟩
            · have e16 := o16 (ready_dep hm 16 (by kernel_rfl))
              have g := o13 (ready_dep hm 13 (by kernel_rfl))
              refine wpOp_on (b := false) rfl rfl rfl g (fun KK hK2 => ?_)
              go_simp
              exact hK2 (A.put (some 35) (.bool false)) _ ⟨hFR.put (by decide) _, o0.q, o1.q, o2.q, o3.q, o4.q, o5.q, o6.q, o7.q, o8.q, o9.q, o10.q, o11.q, o12.q, o13.q, o14.q, o15.q, o16.q, .now (put_eq (by have hz := hsz.out; omega)), o18.q, o19.q, o20.q, o21.q, o22.q, o23.q, o24.q, hK⟩
            · have e13 := o13 (ready_dep hm 13 (by kernel_rfl))
              have e17 := o17 (ready_dep hm 17 (by kernel_rfl))
              refine wpOp_step rfl (fun KK hK2 => ?_)
              go_simp
              exact hK2 (A.put (some 36) (.bool false)) _ ⟨hFR.put (by decide) _, o0.q, o1.q, o2.q, o3.q, o4.q, o5.q, o6.q, o7.q, o8.q, o9.q, o10.q, o11.q, o12.q, o13.q, o14.q, o15.q, o16.q, o17.q, .now (put_eq (by have hz := hsz.out; omega)), o19.q, o20.q, o21.q, o22.q, o23.q, o24.q, hK⟩
            · have e18 := o18 (ready_dep hm 18 (by kernel_rfl))
              refine wpOp_step rfl (fun KK hK2 => ?_)
              go_simp
              exact hK2 (A.put (some 37) (.bool false)) _ ⟨hFR.put (by decide) _, o0.q, o1.q, o2.q, o3.q, o4.q, o5.q, o6.q, o7.q, o8.q, o9.q, o10.q, o11.q, o12.q, o13.q, o14.q, o15.q, o16.q, o17.q, o18.q, .now (put_eq (by have hz := hsz.out; omega)), o20.q, o21.q, o22.q, o23.q, o24.q, hK⟩
            · have g := o19 (ready_dep hm 19 (by kernel_rfl))
              refine wpOp_on (b := false) rfl rfl rfl g (fun KK hK2 => ?_)
              go_simp
              exact hK2 (A.put (some 38) (.pointer (some ⟨w.heap.size, 0, none⟩))) _ ⟨hFR.put (by decide) _, o0.q, o1.q, o2.q, o3.q, o4.q, o5.q, o6.q, o7.q, o8.q, o9.q, o10.q, o11.q, o12.q, o13.q, o14.q, o15.q, o16.q, o17.q, o18.q, o19.q, .now (put_eq (by have hz := hsz.out; omega)), o21.q, o22.q, o23.q, o24.q, hK⟩
            · have e20 := o20 (ready_dep hm 20 (by kernel_rfl))
              have BL := B2.out.kept0 hK
              have x0 := BL.all
              clear BL
              have g := o19 (ready_dep hm 19 (by kernel_rfl))
              refine wpOp_on (b := false) rfl rfl rfl g (fun KK hK2 => ?_)
              go_simp
              exact hK2 (A.put (some 39) (iv f)) _ ⟨hFR.put (by decide) _, o0.q, o1.q, o2.q, o3.q, o4.q, o5.q, o6.q, o7.q, o8.q, o9.q, o10.q, o11.q, o12.q, o13.q, o14.q, o15.q, o16.q, o17.q, o18.q, o19.q, o20.q, .now (put_eq (by have hz := hsz.out; omega)), o22.q, o23.q, o24.q, hK⟩
            · have e21 := o21 (ready_dep hm 21 (by kernel_rfl))
              have g := o19 (ready_dep hm 19 (by kernel_rfl))
              refine wpOp_on (b := false) rfl rfl rfl g (fun KK hK2 => ?_)
              go_simp
              exact hK2 (A.put (some 40) (iv (bits .and .i64 f 1))) _ ⟨hFR.put (by decide) _, o0.q, o1.q, o2.q, o3.q, o4.q, o5.q, o6.q, o7.q, o8.q, o9.q, o10.q, o11.q, o12.q, o13.q, o14.q, o15.q, o16.q, o17.q, o18.q, o19.q, o20.q, o21.q, .now (put_eq (by have hz := hsz.out; omega)), o23.q, o24.q, hK⟩
            · have e22 := o22 (ready_dep hm 22 (by kernel_rfl))
              have g := o19 (ready_dep hm 19 (by kernel_rfl))
              refine wpOp_on (b := false) rfl rfl rfl g (fun KK hK2 => ?_)
              go_simp
              try rw [hD]
              exact hK2 (A.put (some 41) (.bool false)) _ ⟨hFR.put (by decide) _, o0.q, o1.q, o2.q, o3.q, o4.q, o5.q, o6.q, o7.q, o8.q, o9.q, o10.q, o11.q, o12.q, o13.q, o14.q, o15.q, o16.q, o17.q, o18.q, o19.q, o20.q, o21.q, o22.q, .now (put_eq (by have hz := hsz.out; omega)), o24.q, hK⟩
            · have e19 := o19 (ready_dep hm 19 (by kernel_rfl))
              have e23 := o23 (ready_dep hm 23 (by kernel_rfl))
              refine wpOp_step rfl (fun KK hK2 => ?_)
              go_simp
              exact hK2 (A.put (some 42) (.bool false)) _ ⟨hFR.put (by decide) _, o0.q, o1.q, o2.q, o3.q, o4.q, o5.q, o6.q, o7.q, o8.q, o9.q, o10.q, o11.q, o12.q, o13.q, o14.q, o15.q, o16.q, o17.q, o18.q, o19.q, o20.q, o21.q, o22.q, o23.q, .now (put_eq (by have hz := hsz.out; omega)), hK⟩
            · simp at hi1
              omega
        · have E : Hid (Pl.goodU f t n ys ts sk = false) := hide (Pl.goodU_no fun h => by have h1 := h.fe; rw [Pl.and1] at hD; simp at hD; omega)
          go_enter Tryz.func59, Tryz.ntmps59
          go_wp2_with (go_at_call 86; refine (specUList _ f t _ ca n ys ts sk (HA.out.keptS K0.out) HY.out bx).mono ?_; rintro e9 w2 ⟨b, c, rfl, hc, hs, k2⟩; have B2 := hide (B0.out.kept0 k2); have K2 := hide (K0.out.trans k2); have S2 := hide hs; have C2 := hide hc; have p2 := B2.out.all; clear k2 hs hc)
          refine wp_region_inv2 (fun A0 l A W => FR [18, 19, 20, 21, 22, 23, 24, 25, 26, 27, 28, 29, 30, 31, 32, 33, 34, 35, 36, 37, 38, 39, 40, 41, 42] A0 A ∧ Once l 0 (A.tmps[18]? = some (iv (n : Int))) ∧ Once l 1 (A.tmps[19]? = some (.bool true)) ∧ Once l 2 (A.tmps[20]? = some (.bool false)) ∧ Once l 3 (A.tmps[21]? = some (.bool false)) ∧ Once l 4 (A.tmps[22]? = some (.pointer (some ⟨w.heap.size, 0, none⟩))) ∧ Once l 5 (A.tmps[23]? = some (iv f)) ∧ Once l 6 (A.tmps[24]? = some (.pointer (some ⟨w.heap.size, 2, none⟩))) ∧ Once l 7 (A.tmps[25]? = some (.slice (some ⟨g1, off1, none⟩) n ca)) ∧ Once l 8 (A.tmps[26]? = some (.pointer (some ⟨g1, off1, none⟩))) ∧ Once l 9 (A.tmps[27]? = some (.pointer (some ⟨g1, off1 + 7, none⟩))) ∧ Once l 10 (A.tmps[28]? = some (iv (el ts 0))) ∧ Once l 11 (A.tmps[29]? = some (.bool false)) ∧ Once l 12 (A.tmps[30]? = some (.bool false)) ∧ Once l 13 (A.tmps[31]? = some (.bool false)) ∧ Once l 14 (A.tmps[32]? = some (.pointer (some ⟨w.heap.size, 0, none⟩))) ∧ Once l 15 (A.tmps[33]? = some (iv f)) ∧ Once l 16 (A.tmps[34]? = some (.bool true)) ∧ Once l 17 (A.tmps[35]? = some (.bool false)) ∧ Once l 18 (A.tmps[36]? = some (.bool false)) ∧ Once l 19 (A.tmps[37]? = some (.bool false)) ∧ Once l 20 (A.tmps[38]? = some (.pointer (some ⟨w.heap.size, 0, none⟩))) ∧ Once l 21 (A.tmps[39]? = some (iv f)) ∧ Once l 22 (A.tmps[40]? = some (iv (bits .and .i64 f 1))) ∧ Once l 23 (A.tmps[41]? = some (.bool true)) ∧ Once l 24 (A.tmps[42]? = some (.bool true)) ∧ Kept 0 0 w2 W) (by kernel_rfl) (by kernel_rfl) ?start ?fin ?step
          case start => exact ⟨FR.refl _ _, once_start (by decide), once_start (by decide), once_start (by decide), once_start (by decide), once_start (by decide), once_start (by decide), once_start (by decide), once_start (by decide), once_start (by decide), once_start (by decide), once_start (by decide), once_start (by decide), once_start (by decide), once_start (by decide), once_start (by decide), once_start (by decide), once_start (by decide), once_start (by decide), once_start (by decide), once_start (by decide), once_start (by decide), once_start (by decide), once_start (by decide), once_start (by decide), once_start (by decide), kept_drew (Kept.refl _ _ _)⟩
          case fin =>
            intro l A W h hl
            obtain ⟨hFR, o0, o1, o2, o3, o4, o5, o6, o7, o8, o9, o10, o11, o12, o13, o14, o15, o16, o17, o18, o19, o20, o21, o22, o23, o24, hK⟩ := h
            have g24 := o24 (hl 24 (by decide))
            have QQ := hide hK
            have hc9 := hFR.chain
            simp only [List.foldl] at hc9
            rw [getD_of g24] at hc9
            clear hl hK hFR g24 o0 o1 o2 o3 o4 o5 o6 o7 o8 o9 o10 o11 o12 o13 o14 o15 o16 o17 o18 o19 o20 o21 o22 o23 o24
            generalize A.tmps.getD 18 undef = s18 at hc9
            generalize A.tmps.getD 19 undef = s19 at hc9
            generalize A.tmps.getD 20 undef = s20 at hc9
            generalize A.tmps.getD 21 undef = s21 at hc9
            generalize A.tmps.getD 22 undef = s22 at hc9
            generalize A.tmps.getD 23 undef = s23 at hc9
            generalize A.tmps.getD 24 undef = s24 at hc9
            generalize A.tmps.getD 25 undef = s25 at hc9
            generalize A.tmps.getD 26 undef = s26 at hc9
            generalize A.tmps.getD 27 undef = s27 at hc9
            generalize A.tmps.getD 28 undef = s28 at hc9
            generalize A.tmps.getD 29 undef = s29 at hc9
            generalize A.tmps.getD 30 undef = s30 at hc9
            generalize A.tmps.getD 31 undef = s31 at hc9
            generalize A.tmps.getD 32 undef = s32 at hc9
            generalize A.tmps.getD 33 undef = s33 at hc9
            generalize A.tmps.getD 34 undef = s34 at hc9
            generalize A.tmps.getD 35 undef = s35 at hc9
            generalize A.tmps.getD 36 undef = s36 at hc9
            generalize A.tmps.getD 37 undef = s37 at hc9
            generalize A.tmps.getD 38 undef = s38 at hc9
            generalize A.tmps.getD 39 undef = s39 at hc9
            generalize A.tmps.getD 40 undef = s40 at hc9
            generalize A.tmps.getD 41 undef = s41 at hc9
            subst hc9
            go_simp
            go_wp2_with fail
            go_ret
            exact ⟨rB E.out.symm, K2.out.trans QQ.out⟩
          case step =>
            intro l A W i hI hm
            obtain ⟨hFR, o0, o1, o2, o3, o4, o5, o6, o7, o8, o9, o10, o11, o12, o13, o14, o15, o16, o17, o18, o19, o20, o21, o22, o23, o24, hK⟩ := hI
            obtain ⟨hi1, hi2⟩ := ready_new hm
            have hsz : Hid (42 < A.tmps.size) := hide (by rw [hFR.size]; simp)
            have m1 : A.tmps[1]? = some (.pointer (some ⟨w.heap.size, 0, none⟩)) := (hFR.out 1 (by decide)).trans rfl
            have m5 : A.tmps[5]? = some (.int .i64 (n : Int)) := (hFR.out 5 (by decide)).trans rfl
            rcases i with _ | _ | _ | _ | _ | _ | _ | _ | _ | _ | _ | _ | _ | _ | _ | _ | _ | _ | _ | _ | _ | _ | _ | _ | _ | i
            · refine wpOp_step rfl (fun KK hK2 => ?_)
              go_simp
              exact hK2 (A.put (some 18) (iv (n : Int))) _ ⟨hFR.put (by decide) _, .now (put_eq (by have hz := hsz.out; omega)), o1.q, o2.q, o3.q, o4.q, o5.q, o6.q, o7.q, o8.q, o9.q, o10.q, o11.q, o12.q, o13.q, o14.q, o15.q, o16.q, o17.q, o18.q, o19.q, o20.q, o21.q, o22.q, o23.q, o24.q, hK⟩
            · have e0 := o0 (ready_dep hm 0 (by kernel_rfl))
              refine wpOp_step rfl (fun KK hK2 => ?_)
              go_simp
              refine st (l1In _ _ _ _) ?_
              rw [hA]
              go_simp
              exact hK2 (A.put (some 19) (.bool true)) _ ⟨hFR.put (by decide) _, o0.q, .now (put_eq (by have hz := hsz.out; omega)), o2.q, o3.q, o4.q, o5.q, o6.q, o7.q, o8.q, o9.q, o10.q, o11.q, o12.q, o13.q, o14.q, o15.q, o16.q, o17.q, o18.q, o19.q, o20.q, o21.q, o22.q, o23.q, o24.q, hK⟩
            · have e1 := o1 (ready_dep hm 1 (by kernel_rfl))
              refine wpOp_step rfl (fun KK hK2 => ?_)
              go_simp
              exact hK2 (A.put (some 20) (.bool false)) _ ⟨hFR.put (by decide) _, o0.q, o1.q, .now (put_eq (by have hz := hsz.out; omega)), o3.q, o4.q, o5.q, o6.q, o7.q, o8.q, o9.q, o10.q, o11.q, o12.q, o13.q, o14.q, o15.q, o16.q, o17.q, o18.q, o19.q, o20.q, o21.q, o22.q, o23.q, o24.q, hK⟩
            · have e2 := o2 (ready_dep hm 2 (by kernel_rfl))
              refine wpOp_step rfl (fun KK hK2 => ?_)
              go_simp
              exact hK2 (A.put (some 21) (.bool false)) _ ⟨hFR.put (by decide) _, o0.q, o1.q, o2.q, .now (put_eq (by have hz := hsz.out; omega)), o4.q, o5.q, o6.q, o7.q, o8.q, o9.q, o10.q, o11.q, o12.q, o13.q, o14.q, o15.q, o16.q, o17.q, o18.q, o19.q, o20.q, o21.q, o22.q, o23.q, o24.q, hK⟩
            · have g := o3 (ready_dep hm 3 (by kernel_rfl))
              refine wpOp_on (b := false) rfl rfl rfl g (fun KK hK2 => ?_)
              go_simp
              exact hK2 (A.put (some 22) (.pointer (some ⟨w.heap.size, 0, none⟩))) _ ⟨hFR.put (by decide) _, o0.q, o1.q, o2.q, o3.q, .now (put_eq (by have hz := hsz.out; omega)), o5.q, o6.q, o7.q, o8.q, o9.q, o10.q, o11.q, o12.q, o13.q, o14.q, o15.q, o16.q, o17.q, o18.q, o19.q, o20.q, o21.q, o22.q, o23.q, o24.q, hK⟩
            · have e4 := o4 (ready_dep hm 4 (by kernel_rfl))
              have BL := B2.out.kept0 hK
              have x0 := BL.all
              clear BL
              have g := o3 (ready_dep hm 3 (by kernel_rfl))
              refine wpOp_on (b := false) rfl rfl rfl g (fun KK hK2 => ?_)
              go_simp
              exact hK2 (A.put (some 23) (iv f)) _ ⟨hFR.put (by decide) _, o0.q, o1.q, o2.q, o3.q, o4.q, .now (put_eq (by have hz := hsz.out; omega)), o6.q, o7.q, o8.q, o9.q, o10.q, o11.q, o12.q, o13.q, o14.q, o15.q, o16.q, o17.q, o18.q, o19.q, o20.q, o21.q, o22.q, o23.q, o24.q, hK⟩
            · have g := o3 (ready_dep hm 3 (by kernel_rfl))
              refine wpOp_on (b := false) rfl rfl rfl g (fun KK hK2 => ?_)
              go_simp
              exact hK2 (A.put (some 24) (.pointer (some ⟨w.heap.size, 2, none⟩))) _ ⟨hFR.put (by decide) _, o0.q, o1.q, o2.q, o3.q, o4.q, o5.q, .now (put_eq (by have hz := hsz.out; omega)), o7.q, o8.q, o9.q, o10.q, o11.q, o12.q, o13.q, o14.q, o15.q, o16.q, o17.q, o18.q, o19.q, o20.q, o21.q, o22.q, o23.q, o24.q, hK⟩
            · have e6 := o6 (ready_dep hm 6 (by kernel_rfl))
              have BL := B2.out.kept0 hK
              have x0 := BL.all
              clear BL
              have g := o3 (ready_dep hm 3 (by kernel_rfl))
              refine wpOp_on (b := false) rfl rfl rfl g (fun KK hK2 => ?_)
              go_simp
              exact hK2 (A.put (some 25) (.slice (some ⟨g1, off1, none⟩) n ca)) _ ⟨hFR.put (by decide) _, o0.q, o1.q, o2.q, o3.q, o4.q, o5.q, o6.q, .now (put_eq (by have hz := hsz.out; omega)), o8.q, o9.q, o10.q, o11.q, o12.q, o13.q, o14.q, o15.q, o16.q, o17.q, o18.q, o19.q, o20.q, o21.q, o22.q, o23.q, o24.q, hK⟩
            · have e7 := o7 (ready_dep hm 7 (by kernel_rfl))
              have g := o3 (ready_dep hm 3 (by kernel_rfl))
              refine wpOp_on (b := false) rfl rfl rfl g (fun KK hK2 => ?_)
              go_simp
              rw [if_pos (show 0 < n by omega)]
              go_simp
              exact hK2 (A.put (some 26) (.pointer (some ⟨g1, off1, none⟩))) _ ⟨hFR.put (by decide) _, o0.q, o1.q, o2.q, o3.q, o4.q, o5.q, o6.q, o7.q, .now (put_eq (by have hz := hsz.out; omega)), o9.q, o10.q, o11.q, o12.q, o13.q, o14.q, o15.q, o16.q, o17.q, o18.q, o19.q, o20.q, o21.q, o22.q, o23.q, o24.q, hK⟩
            · have e8 := o8 (ready_dep hm 8 (by kernel_rfl))
              have g := o3 (ready_dep hm 3 (by kernel_rfl))
              refine wpOp_on (b := false) rfl rfl rfl g (fun KK hK2 => ?_)
              go_simp
              exact hK2 (A.put (some 27) (.pointer (some ⟨g1, off1 + 7, none⟩))) _ ⟨hFR.put (by decide) _, o0.q, o1.q, o2.q, o3.q, o4.q, o5.q, o6.q, o7.q, o8.q, .now (put_eq (by have hz := hsz.out; omega)), o10.q, o11.q, o12.q, o13.q, o14.q, o15.q, o16.q, o17.q, o18.q, o19.q, o20.q, o21.q, o22.q, o23.q, o24.q, hK⟩
            · have e9 := o9 (ready_dep hm 9 (by kernel_rfl))
              obtain ⟨g9, o9, e9, q7⟩ := (HA.out.keptS (K2.out.trans hK)).first (by omega)
              cases e9
              have g := o3 (ready_dep hm 3 (by kernel_rfl))
              refine wpOp_on (b := false) rfl rfl rfl g (fun KK hK2 => ?_)
              go_simp
              exact hK2 (A.put (some 28) (iv (el ts 0))) _ ⟨hFR.put (by decide) _, o0.q, o1.q, o2.q, o3.q, o4.q, o5.q, o6.q, o7.q, o8.q, o9.q, .now (put_eq (by have hz := hsz.out; omega)), o11.q, o12.q, o13.q, o14.q, o15.q, o16.q, o17.q, o18.q, o19.q, o20.q, o21.q, o22.q, o23.q, o24.q, hK⟩
            · have e5 := o5 (ready_dep hm 5 (by kernel_rfl))
              have e10 := o10 (ready_dep hm 10 (by kernel_rfl))
              have g := o3 (ready_dep hm 3 (by kernel_rfl))
              refine wpOp_on (b := false) rfl rfl rfl g (fun KK hK2 => ?_)
              go_simp
              try rw [hB]
              exact hK2 (A.put (some 29) (.bool false)) _ ⟨hFR.put (by decide) _, o0.q, o1.q, o2.q, o3.q, o4.q, o5.q, o6.q, o7.q, o8.q, o9.q, o10.q, .now (put_eq (by have hz := hsz.out; omega)), o12.q, o13.q, o14.q, o15.q, o16.q, o17.q, o18.q, o19.q, o20.q, o21.q, o22.q, o23.q, o24.q, hK⟩
            · have e3 := o3 (ready_dep hm 3 (by kernel_rfl))
              have e11 := o11 (ready_dep hm 11 (by kernel_rfl))
              refine wpOp_step rfl (fun KK hK2 => ?_)
              go_simp
              exact hK2 (A.put (some 30) (.bool false)) _ ⟨hFR.put (by decide) _, o0.q, o1.q, o2.q, o3.q, o4.q, o5.q, o6.q, o7.q, o8.q, o9.q, o10.q, o11.q, .now (put_eq (by have hz := hsz.out; omega)), o13.q, o14.q, o15.q, o16.q, o17.q, o18.q, o19.q, o20.q, o21.q, o22.q, o23.q, o24.q, hK⟩
            · have e12 := o12 (ready_dep hm 12 (by kernel_rfl))
              refine wpOp_step rfl (fun KK hK2 => ?_)
              go_simp
              exact hK2 (A.put (some 31) (.bool false)) _ ⟨hFR.put (by decide) _, o0.q, o1.q, o2.q, o3.q, o4.q, o5.q, o6.q, o7.q, o8.q, o9.q, o10.q, o11.q, o12.q, .now (put_eq (by have hz := hsz.out; omega)), o14.q, o15.q, o16.q, o17.q, o18.q, o19.q, o20.q, o21.q, o22.q, o23.q, o24.q, hK⟩
            · have g := o13 (ready_dep hm 13 (by kernel_rfl))
              refine wpOp_on (b := false) rfl rfl rfl g (fun KK hK2 => ?_)
              go_simp
              exact hK2 (A.put (some 32) (.pointer (some ⟨w.heap.size, 0, none⟩))) _ ⟨hFR.put (by decide) _, o0.q, o1.q, o2.q, o3.q, o4.q, o5.q, o6.q, o7.q, o8.q, o9.q, o10.q, o11.q, o12.q, o13.q, .now (put_eq (by have hz := hsz.out; omega)), o15.q, o16.q, o17.q, o18.q, o19.q, o20.q, o21.q, o22.q, o23.q, o24.q, hK⟩
            · have e14 := o14 (ready_dep hm 14 (by kernel_rfl))
              have BL := B2.out.kept0 hK
              have x0 := BL.all
              clear BL
              have g := o13 (ready_dep hm 13 (by kernel_rfl))
              refine wpOp_on (b := false) rfl rfl rfl g (fun KK hK2 => ?_)
              go_simp
              exact hK2 (A.put (some 33) (iv f)) _ ⟨hFR.put (by decide) _, o0.q, o1.q, o2.q, o3.q, o4.q, o5.q, o6.q, o7.q, o8.q, o9.q, o10.q, o11.q, o12.q, o13.q, o14.q, .now (put_eq (by have hz := hsz.out; omega)), o16.q, o17.q, o18.q, o19.q, o20.q, o21.q, o22.q, o23.q, o24.q, hK⟩
            · have e15 := o15 (ready_dep hm 15 (by kernel_rfl))
              have g := o13 (ready_dep hm 13 (by kernel_rfl))
              refine wpOp_on (b := false) rfl rfl rfl g (fun KK hK2 => ?_)
              go_simp
              refine st (l1In _ _ _ _) ?_
              rw [hC]
              go_simp
              exact hK2 (A.put (some 34) (.bool true)) _ ⟨hFR.put (by decide) _, o0.q, o1.q, o2.q, o3.q, o4.q, o5.q, o6.q, o7.q, o8.q, o9.q, o10.q, o11.q, o12.q, o13.q, o14.q, o15.q, .now (put_eq (by have hz := hsz.out; omega)), o17.q, o18.q, o19.q, o20.q, o21.q, o22.q, o23.q, o24.q, hK⟩
            · have e16 := o16 (ready_dep hm 16 (by kernel_rfl))
              have g := o13 (ready_dep hm 13 (by kernel_rfl))
              refine wpOp_on (b := false) rfl rfl rfl g (fun KK hK2 => ?_)
              go_simp
              exact hK2 (A.put (some 35) (.bool false)) _ ⟨hFR.put (by decide) _, o0.q, o1.q, o2.q, o3.q, o4.q, o5.q, o6.q, o7.q, o8.q, o9.q, o10.q, o11.q, o12.q, o13.q, o14.q, o15.q, o16.q, .now (put_eq (by have hz := hsz.out; omega)), o18.q, o19.q, o20.q, o21.q, o22.q, o23.q, o24.q, hK⟩
            · have e13 := o13 (ready_dep hm 13 (by kernel_rfl))
              have e17 := o17 (ready_dep hm 17 (by kernel_rfl))
              refine wpOp_step rfl (fun KK hK2 => ?_)
              go_simp
              exact hK2 (A.put (some 36) (.bool false)) _ ⟨hFR.put (by decide) _, o0.q, o1.q, o2.q, o3.q, o4.q, o5.q, o6.q, o7.q, o8.q, o9.q, o10.q, o11.q, o12.q, o13.q, o14.q, o15.q, o16.q, o17.q, .now (put_eq (by have hz := hsz.out; omega)), o19.q, o20.q, o21.q, o22.q, o23.q, o24.q, hK⟩
            · have e18 := o18 (ready_dep hm 18 (by kernel_rfl))
              refine wpOp_step rfl (fun KK hK2 => ?_)
              go_simp
              exact hK2 (A.put (some 37) (.bool false)) _ ⟨hFR.put (by decide) _, o0.q, o1.q, o2.q, o3.q, o4.q, o5.q, o6.q, o7.q, o8.q, o9.q, o10.q, o11.q, o12.q, o13.q, o14.q, o15.q, o16.q, o17.q, o18.q, .now (put_eq (by have hz := hsz.out; omega)), o20.q, o21.q, o22.q, o23.q, o24.q, hK⟩
            · have g := o19 (ready_dep hm 19 (by kernel_rfl))
              refine wpOp_on (b := false) rfl rfl rfl g (fun KK hK2 => ?_)
              go_simp
              exact hK2 (A.put (some 38) (.pointer (some ⟨w.heap.size, 0, none⟩))) _ ⟨hFR.put (by decide) _, o0.q, o1.q, o2.q, o3.q, o4.q, o5.q, o6.q, o7.q, o8.q, o9.q, o10.q, o11.q, o12.q, o13.q, o14.q, o15.q, o16.q, o17.q, o18.q, o19.q, .now (put_eq (by have hz := hsz.out; omega)), o21.q, o22.q, o23.q, o24.q, hK⟩
            · have e20 := o20 (ready_dep hm 20 (by kernel_rfl))
              have BL := B2.out.kept0 hK
              have x0 := BL.all
              clear BL
              have g := o19 (ready_dep hm 19 (by kernel_rfl))
              refine wpOp_on (b := false) rfl rfl rfl g (fun KK hK2 => ?_)
              go_simp
              exact hK2 (A.put (some 39) (iv f)) _ ⟨hFR.put (by decide) _, o0.q, o1.q, o2.q, o3.q, o4.q, o5.q, o6.q, o7.q, o8.q, o9.q, o10.q, o11.q, o12.q, o13.q, o14.q, o15.q, o16.q, o17.q, o18.q, o19.q, o20.q, .now (put_eq (by have hz := hsz.out; omega)), o22.q, o23.q, o24.q, hK⟩
            · have e21 := o21 (ready_dep hm 21 (by kernel_rfl))
              have g := o19 (ready_dep hm 19 (by kernel_rfl))
              refine wpOp_on (b := false) rfl rfl rfl g (fun KK hK2 => ?_)
              go_simp
              exact hK2 (A.put (some 40) (iv (bits .and .i64 f 1))) _ ⟨hFR.put (by decide) _, o0.q, o1.q, o2.q, o3.q, o4.q, o5.q, o6.q, o7.q, o8.q, o9.q, o10.q, o11.q, o12.q, o13.q, o14.q, o15.q, o16.q, o17.q, o18.q, o19.q, o20.q, o21.q, .now (put_eq (by have hz := hsz.out; omega)), o23.q, o24.q, hK⟩
            · have e22 := o22 (ready_dep hm 22 (by kernel_rfl))
              have g := o19 (ready_dep hm 19 (by kernel_rfl))
              refine wpOp_on (b := false) rfl rfl rfl g (fun KK hK2 => ?_)
              go_simp
              try rw [hD]
              exact hK2 (A.put (some 41) (.bool true)) _ ⟨hFR.put (by decide) _, o0.q, o1.q, o2.q, o3.q, o4.q, o5.q, o6.q, o7.q, o8.q, o9.q, o10.q, o11.q, o12.q, o13.q, o14.q, o15.q, o16.q, o17.q, o18.q, o19.q, o20.q, o21.q, o22.q, .now (put_eq (by have hz := hsz.out; omega)), o24.q, hK⟩
            · have e19 := o19 (ready_dep hm 19 (by kernel_rfl))
              have e23 := o23 (ready_dep hm 23 (by kernel_rfl))
              refine wpOp_step rfl (fun KK hK2 => ?_)
              go_simp
              exact hK2 (A.put (some 42) (.bool true)) _ ⟨hFR.put (by decide) _, o0.q, o1.q, o2.q, o3.q, o4.q, o5.q, o6.q, o7.q, o8.q, o9.q, o10.q, o11.q, o12.q, o13.q, o14.q, o15.q, o16.q, o17.q, o18.q, o19.q, o20.q, o21.q, o22.q, o23.q, .now (put_eq (by have hz := hsz.out; omega)), hK⟩
            · simp at hi1
              omega
    · have E : Hid (Pl.goodU f t n ys ts sk = false) := hide (Pl.goodU_no fun h => by have h1 := h.pl 0 h.n1; have h2 : f = el ts 0 := h1.symm; rw [h2] at hB; simp at hB)
      go_enter Tryz.func59, Tryz.ntmps59
      go_wp2_with (go_at_call 86; refine (specUList _ f t _ ca n ys ts sk (HA.out.keptS K0.out) HY.out bx).mono ?_; rintro e9 w2 ⟨b, c, rfl, hc, hs, k2⟩; have B2 := hide (B0.out.kept0 k2); have K2 := hide (K0.out.trans k2); have S2 := hide hs; have C2 := hide hc; have p2 := B2.out.all; clear k2 hs hc)
      refine wp_region_inv2 (fun A0 l A W => FR [18, 19, 20, 21, 22, 23, 24, 25, 26, 27, 28, 29, 30, 31, 32, 33, 34, 35, 36, 37, 38, 39, 40, 41, 42] A0 A ∧ Once l 0 (A.tmps[18]? = some (iv (n : Int))) ∧ Once l 1 (A.tmps[19]? = some (.bool true)) ∧ Once l 2 (A.tmps[20]? = some (.bool false)) ∧ Once l 3 (A.tmps[21]? = some (.bool false)) ∧ Once l 4 (A.tmps[22]? = some (.pointer (some ⟨w.heap.size, 0, none⟩))) ∧ Once l 5 (A.tmps[23]? = some (iv f)) ∧ Once l 6 (A.tmps[24]? = some (.pointer (some ⟨w.heap.size, 2, none⟩))) ∧ Once l 7 (A.tmps[25]? = some (.slice (some ⟨g1, off1, none⟩) n ca)) ∧ Once l 8 (A.tmps[26]? = some (.pointer (some ⟨g1, off1, none⟩))) ∧ Once l 9 (A.tmps[27]? = some (.pointer (some ⟨g1, off1 + 7, none⟩))) ∧ Once l 10 (A.tmps[28]? = some (iv (el ts 0))) ∧ Once l 11 (A.tmps[29]? = some (.bool true)) ∧ Once l 12 (A.tmps[30]? = some (.bool true)) ∧ Once l 13 (A.tmps[31]? = some (.bool true)) ∧ Once l 14 (A.tmps[32]? = some (undef)) ∧ Once l 15 (A.tmps[33]? = some (undef)) ∧ Once l 16 (A.tmps[34]? = some (undef)) ∧ Once l 17 (A.tmps[35]? = some (undef)) ∧ Once l 18 (A.tmps[36]? = some (.bool true)) ∧ Once l 19 (A.tmps[37]? = some (.bool true)) ∧ Once l 20 (A.tmps[38]? = some (undef)) ∧ Once l 21 (A.tmps[39]? = some (undef)) ∧ Once l 22 (A.tmps[40]? = some (undef)) ∧ Once l 23 (A.tmps[41]? = some (undef)) ∧ Once l 24 (A.tmps[42]? = some (.bool true)) ∧ Kept 0 0 w2 W) (by kernel_rfl) (by kernel_rfl) ?start ?fin ?step
      case start => exact ⟨FR.refl _ _, once_start (by decide), once_start (by decide), once_start (by decide), once_start (by decide), once_start (by decide), once_start (by decide), once_start (by decide), once_start (by decide), once_start (by decide), once_start (by decide), once_start (by decide), once_start (by decide), once_start (by decide), once_start (by decide), once_start (by decide), once_start (by decide), once_start (by decide), once_start (by decide), once_start (by decide), once_start (by decide), once_start (by decide), once_start (by decide), once_start (by decide), once_start (by decide), once_start (by decide), kept_drew (Kept.refl _ _ _)⟩
      case fin =>
        intro l A W h hl
        obtain ⟨hFR, o0, o1, o2, o3, o4, o5, o6, o7, o8, o9, o10, o11, o12, o13, o14, o15, o16, o17, o18, o19, o20, o21, o22, o23, o24, hK⟩ := h
        have g24 := o24 (hl 24 (by decide))
        have QQ := hide hK
        have hc9 := hFR.chain
        simp only [List.foldl] at hc9
        rw [getD_of g24] at hc9
        clear hl hK hFR g24 o0 o1 o2 o3 o4 o5 o6 o7 o8 o9 o10 o11 o12 o13 o14 o15 o16 o17 o18 o19 o20 o21 o22 o23 o24
        generalize A.tmps.getD 18 undef = s18 at hc9
        generalize A.tmps.getD 19 undef = s19 at hc9
        generalize A.tmps.getD 20 undef = s20 at hc9
        generalize A.tmps.getD 21 undef = s21 at hc9
        generalize A.tmps.getD 22 undef = s22 at hc9
        generalize A.tmps.getD 23 undef = s23 at hc9
        generalize A.tmps.getD 24 undef = s24 at hc9
        generalize A.tmps.getD 25 undef = s25 at hc9
        generalize A.tmps.getD 26 undef = s26 at hc9
        generalize A.tmps.getD 27 undef = s27 at hc9
        generalize A.tmps.getD 28 undef = s28 at hc9
        generalize A.tmps.getD 29 undef = s29 at hc9
        generalize A.tmps.getD 30 undef = s30 at hc9
        generalize A.tmps.getD 31 undef = s31 at hc9
        generalize A.tmps.getD 32 undef = s32 at hc9
        generalize A.tmps.getD 33 undef = s33 at hc9
        generalize A.tmps.getD 34 undef = s34 at hc9
        generalize A.tmps.getD 35 undef = s35 at hc9
        generalize A.tmps.getD 36 undef = s36 at hc9
        generalize A.tmps.getD 37 undef = s37 at hc9
        generalize A.tmps.getD 38 undef = s38 at hc9
        generalize A.tmps.getD 39 undef = s39 at hc9
        generalize A.tmps.getD 40 undef = s40 at hc9
        generalize A.tmps.getD 41 undef = s41 at hc9
        subst hc9
        go_simp
        go_wp2_with fail
        go_ret
        exact ⟨rB E.out.symm, K2.out.trans QQ.out⟩
      case step =>
        intro l A W i hI hm
        obtain ⟨hFR, o0, o1, o2, o3, o4, o5, o6, o7, o8, o9, o10, o11, o12, o13, o14, o15, o16, o17, o18, o19, o20, o21, o22, o23, o24, hK⟩ := hI
        obtain ⟨hi1, hi2⟩ := ready_new hm
        have hsz : Hid (42 < A.tmps.size) := hide (by rw [hFR.size]; simp)
        have m1 : A.tmps[1]? = some (.pointer (some ⟨w.heap.size, 0, none⟩)) := (hFR.out 1 (by decide)).trans rfl
        have m5 : A.tmps[5]? = some (.int .i64 (n : Int)) := (hFR.out 5 (by decide)).trans rfl
        rcases i with _ | _ | _ | _ | _ | _ | _ | _ | _ | _ | _ | _ | _ | _ | _ | _ | _ | _ | _ | _ | _ | _ | _ | _ | _ | i
        · refine wpOp_step rfl (fun KK hK2 => ?_)
          go_simp
          exact hK2 (A.put (some 18) (iv (n : Int))) _ ⟨hFR.put (by decide) _, .now (put_eq (by have hz := hsz.out; omega)), o1.q, o2.q, o3.q, o4.q, o5.q, o6.q, o7.q, o8.q, o9.q, o10.q, o11.q, o12.q, o13.q, o14.q, o15.q, o16.q, o17.q, o18.q, o19.q, o20.q, o21.q, o22.q, o23.q, o24.q, hK⟩
        · have e0 := o0 (ready_dep hm 0 (by kernel_rfl))
          refine wpOp_step rfl (fun KK hK2 => ?_)
          go_simp
          refine st (l1In _ _ _ _) ?_
          rw [hA]
          go_simp
          exact hK2 (A.put (some 19) (.bool true)) _ ⟨hFR.put (by decide) _, o0.q, .now (put_eq (by have hz := hsz.out; omega)), o2.q, o3.q, o4.q, o5.q, o6.q, o7.q, o8.q, o9.q, o10.q, o11.q, o12.q, o13.q, o14.q, o15.q, o16.q, o17.q, o18.q, o19.q, o20.q, o21.q, o22.q, o23.q, o24.q, hK⟩
        · have e1 := o1 (ready_dep hm 1 (by kernel_rfl))
          refine wpOp_step rfl (fun KK hK2 => ?_)
          go_simp
          exact hK2 (A.put (some 20) (.bool false)) _ ⟨hFR.put (by decide) _, o0.q, o1.q, .now (put_eq (by have hz := hsz.out; omega)), o3.q, o4.q, o5.q, o6.q, o7.q, o8.q, o9.q, o10.q, o11.q, o12.q, o13.q, o14.q, o15.q, o16.q, o17.q, o18.q, o19.q, o20.q, o21.q, o22.q, o23.q, o24.q, hK⟩
        · have e2 := o2 (ready_dep hm 2 (by kernel_rfl))
          refine wpOp_step rfl (fun KK hK2 => ?_)
          go_simp
          exact hK2 (A.put (some 21) (.bool false)) _ ⟨hFR.put (by decide) _, o0.q, o1.q, o2.q, .now (put_eq (by have hz := hsz.out; omega)), o4.q, o5.q, o6.q, o7.q, o8.q, o9.q, o10.q, o11.q, o12.q, o13.q, o14.q, o15.q, o16.q, o17.q, o18.q, o19.q, o20.q, o21.q, o22.q, o23.q, o24.q, hK⟩
        · have g := o3 (ready_dep hm 3 (by kernel_rfl))
          refine wpOp_on (b := false) rfl rfl rfl g (fun KK hK2 => ?_)
          go_simp
          exact hK2 (A.put (some 22) (.pointer (some ⟨w.heap.size, 0, none⟩))) _ ⟨hFR.put (by decide) _, o0.q, o1.q, o2.q, o3.q, .now (put_eq (by have hz := hsz.out; omega)), o5.q, o6.q, o7.q, o8.q, o9.q, o10.q, o11.q, o12.q, o13.q, o14.q, o15.q, o16.q, o17.q, o18.q, o19.q, o20.q, o21.q, o22.q, o23.q, o24.q, hK⟩
        · have e4 := o4 (ready_dep hm 4 (by kernel_rfl))
          have BL := B2.out.kept0 hK
          have x0 := BL.all
          clear BL
          have g := o3 (ready_dep hm 3 (by kernel_rfl))
          refine wpOp_on (b := false) rfl rfl rfl g (fun KK hK2 => ?_)
          go_simp
          exact hK2 (A.put (some 23) (iv f)) _ ⟨hFR.put (by decide) _, o0.q, o1.q, o2.q, o3.q, o4.q, .now (put_eq (by have hz := hsz.out; omega)), o6.q, o7.q, o8.q, o9.q, o10.q, o11.q, o12.q, o13.q, o14.q, o15.q, o16.q, o17.q, o18.q, o19.q, o20.q, o21.q, o22.q, o23.q, o24.q, hK⟩
        · have g := o3 (ready_dep hm 3 (by kernel_rfl))
          refine wpOp_on (b := false) rfl rfl rfl g (fun KK hK2 => ?_)
          go_simp
          exact hK2 (A.put (some 24) (.pointer (some ⟨w.heap.size, 2, none⟩))) _ ⟨hFR.put (by decide) _, o0.q, o1.q, o2.q, o3.q, o4.q, o5.q, .now (put_eq (by have hz := hsz.out; omega)), o7.q, o8.q, o9.q, o10.q, o11.q, o12.q, o13.q, o14.q, o15.q, o16.q, o17.q, o18.q, o19.q, o20.q, o21.q, o22.q, o23.q, o24.q, hK⟩
        · have e6 := o6 (ready_dep hm 6 (by kernel_rfl))
          have BL := B2.out.kept0 hK
          have x0 := BL.all
          clear BL
          have g := o3 (ready_dep hm 3 (by kernel_rfl))
          refine wpOp_on (b := false) rfl rfl rfl g (fun KK hK2 => ?_)
          go_simp
          exact hK2 (A.put (some 25) (.slice (some ⟨g1, off1, none⟩) n ca)) _ ⟨hFR.put (by decide) _, o0.q, o1.q, o2.q, o3.q, o4.q, o5.q, o6.q, .now (put_eq (by have hz := hsz.out; omega)), o8.q, o9.q, o10.q, o11.q, o12.q, o13.q, o14.q, o15.q, o16.q, o17.q, o18.q, o19.q, o20.q, o21.q, o22.q, o23.q, o24.q, hK⟩
        · have e7 := o7 (ready_dep hm 7 (by kernel_rfl))
          have g := o3 (ready_dep hm 3 (by kernel_rfl))
          refine wpOp_on (b := false) rfl rfl rfl g (fun KK hK2 => ?_)
          go_simp
          rw [if_pos (show 0 < n by omega)]
          go_simp
          exact hK2 (A.put (some 26) (.pointer (some ⟨g1, off1, none⟩))) _ ⟨hFR.put (by decide) _, o0.q, o1.q, o2.q, o3.q, o4.q, o5.q, o6.q, o7.q, .now (put_eq (by have hz := hsz.out; omega)), o9.q, o10.q, o11.q, o12.q, o13.q, o14.q, o15.q, o16.q, o17.q, o18.q, o19.q, o20.q, o21.q, o22.q, o23.q, o24.q, hK⟩
        · have e8 := o8 (ready_dep hm 8 (by kernel_rfl))
          have g := o3 (ready_dep hm 3 (by kernel_rfl))
          refine wpOp_on (b := false) rfl rfl rfl g (fun KK hK2 => ?_)
          go_simp
          exact hK2 (A.put (some 27) (.pointer (some ⟨g1, off1 + 7, none⟩))) _ ⟨hFR.put (by decide) _, o0.q, o1.q, o2.q, o3.q, o4.q, o5.q, o6.q, o7.q, o8.q, .now (put_eq (by have hz := hsz.out; omega)), o10.q, o11.q, o12.q, o13.q, o14.q, o15.q, o16.q, o17.q, o18.q, o19.q, o20.q, o21.q, o22.q, o23.q, o24.q, hK⟩
        · have e9 := o9 (ready_dep hm 9 (by kernel_rfl))
          obtain ⟨g9, o9, e9, q7⟩ := (HA.out.keptS (K2.out.trans hK)).first (by omega)
          cases e9
          have g := o3 (ready_dep hm 3 (by kernel_rfl))
          refine wpOp_on (b := false) rfl rfl rfl g (fun KK hK2 => ?_)
          go_simp
          exact hK2 (A.put (some 28) (iv (el ts 0))) _ ⟨hFR.put (by decide) _, o0.q, o1.q, o2.q, o3.q, o4.q, o5.q, o6.q, o7.q, o8.q, o9.q, .now (put_eq (by have hz := hsz.out; omega)), o11.q, o12.q, o13.q, o14.q, o15.q, o16.q, o17.q, o18.q, o19.q, o20.q, o21.q, o22.q, o23.q, o24.q, hK⟩
        · have e5 := o5 (ready_dep hm 5 (by kernel_rfl))
          have e10 := o10 (ready_dep hm 10 (by kernel_rfl))
          have g := o3 (ready_dep hm 3 (by kernel_rfl))
          refine wpOp_on (b := false) rfl rfl rfl g (fun KK hK2 => ?_)
          go_simp
          try rw [hB]
          exact hK2 (A.put (some 29) (.bool true)) _ ⟨hFR.put (by decide) _, o0.q, o1.q, o2.q, o3.q, o4.q, o5.q, o6.q, o7.q, o8.q, o9.q, o10.q, .now (put_eq (by have hz := hsz.out; omega)), o12.q, o13.q, o14.q, o15.q, o16.q, o17.q, o18.q, o19.q, o20.q, o21.q, o22.q, o23.q, o24.q, hK⟩
        · have e3 := o3 (ready_dep hm 3 (by kernel_rfl))
          have e11 := o11 (ready_dep hm 11 (by kernel_rfl))
          refine wpOp_step rfl (fun KK hK2 => ?_)
          go_simp
          exact hK2 (A.put (some 30) (.bool true)) _ ⟨hFR.put (by decide) _, o0.q, o1.q, o2.q, o3.q, o4.q, o5.q, o6.q, o7.q, o8.q, o9.q, o10.q, o11.q, .now (put_eq (by have hz := hsz.out; omega)), o13.q, o14.q, o15.q, o16.q, o17.q, o18.q, o19.q, o20.q, o21.q, o22.q, o23.q, o24.q, hK⟩
        · have e12 := o12 (ready_dep hm 12 (by kernel_rfl))
          refine wpOp_step rfl (fun KK hK2 => ?_)
          go_simp
          exact hK2 (A.put (some 31) (.bool true)) _ ⟨hFR.put (by decide) _, o0.q, o1.q, o2.q, o3.q, o4.q, o5.q, o6.q, o7.q, o8.q, o9.q, o10.q, o11.q, o12.q, .now (put_eq (by have hz := hsz.out; omega)), o14.q, o15.q, o16.q, o17.q, o18.q, o19.q, o20.q, o21.q, o22.q, o23.q, o24.q, hK⟩
        · have g := o13 (ready_dep hm 13 (by kernel_rfl))
          refine wpOp_off (b := false) (c := true) rfl rfl rfl g (by decide) ?_
          exact ⟨hFR.put (by decide) _, o0.q, o1.q, o2.q, o3.q, o4.q, o5.q, o6.q, o7.q, o8.q, o9.q, o10.q, o11.q, o12.q, o13.q, .now (put_eq (by have hz := hsz.out; omega)), o15.q, o16.q, o17.q, o18.q, o19.q, o20.q, o21.q, o22.q, o23.q, o24.q, hK⟩
        · have e14 := o14 (ready_dep hm 14 (by kernel_rfl))
          have g := o13 (ready_dep hm 13 (by kernel_rfl))
          refine wpOp_off (b := false) (c := true) rfl rfl rfl g (by decide) ?_
          exact ⟨hFR.put (by decide) _, o0.q, o1.q, o2.q, o3.q, o4.q, o5.q, o6.q, o7.q, o8.q, o9.q, o10.q, o11.q, o12.q, o13.q, o14.q, .now (put_eq (by have hz := hsz.out; omega)), o16.q, o17.q, o18.q, o19.q, o20.q, o21.q, o22.q, o23.q, o24.q, hK⟩
        · have e15 := o15 (ready_dep hm 15 (by kernel_rfl))
          have g := o13 (ready_dep hm 13 (by kernel_rfl))
          refine wpOp_off (b := false) (c := true) rfl rfl rfl g (by decide) ?_
          exact ⟨hFR.put (by decide) _, o0.q, o1.q, o2.q, o3.q, o4.q, o5.q, o6.q, o7.q, o8.q, o9.q, o10.q, o11.q, o12.q, o13.q, o14.q, o15.q, .now (put_eq (by have hz := hsz.out; omega)), o17.q, o18.q, o19.q, o20.q, o21.q, o22.q, o23.q, o24.q, hK⟩
        · have e16 := o16 (ready_dep hm 16 (by kernel_rfl))
          have g := o13 (ready_dep hm 13 (by kernel_rfl))
          refine wpOp_off (b := false) (c := true) rfl rfl rfl g (by decide) ?_
          exact ⟨hFR.put (by decide) _, o0.q, o1.q, o2.q, o3.q, o4.q, o5.q, o6.q, o7.q, o8.q, o9.q, o10.q, o11.q, o12.q, o13.q, o14.q, o15.q, o16.q, .now (put_eq (by have hz := hsz.out; omega)), o18.q, o19.q, o20.q, o21.q, o22.q, o23.q, o24.q, hK⟩
        · have e13 := o13 (ready_dep hm 13 (by kernel_rfl))
          have e17 := o17 (ready_dep hm 17 (by kernel_rfl))
          refine wpOp_step rfl (fun KK hK2 => ?_)
          go_simp
          exact hK2 (A.put (some 36) (.bool true)) _ ⟨hFR.put (by decide) _, o0.q, o1.q, o2.q, o3.q, o4.q, o5.q, o6.q, o7.q, o8.q, o9.q, o10.q, o11.q, o12.q, o13.q, o14.q, o15.q, o16.q, o17.q, .now (put_eq (by have hz := hsz.out; omega)), o19.q, o20.q, o21.q, o22.q, o23.q, o24.q, hK⟩
        · have e18 := o18 (ready_dep hm 18 (by kernel_rfl))
          refine wpOp_step rfl (fun KK hK2 => ?_)
          go_simp
          exact hK2 (A.put (some 37) (.bool true)) _ ⟨hFR.put (by decide) _, o0.q, o1.q, o2.q, o3.q, o4.q, o5.q, o6.q, o7.q, o8.q, o9.q, o10.q, o11.q, o12.q, o13.q, o14.q, o15.q, o16.q, o17.q, o18.q, .now (put_eq (by have hz := hsz.out; omega)), o20.q, o21.q, o22.q, o23.q, o24.q, hK⟩
        · have g := o19 (ready_dep hm 19 (by kernel_rfl))
          refine wpOp_off (b := false) (c := true) rfl rfl rfl g (by decide) ?_
          exact ⟨hFR.put (by decide) _, o0.q, o1.q, o2.q, o3.q, o4.q, o5.q, o6.q, o7.q, o8.q, o9.q, o10.q, o11.q, o12.q, o13.q, o14.q, o15.q, o16.q, o17.q, o18.q, o19.q, .now (put_eq (by have hz := hsz.out; omega)), o21.q, o22.q, o23.q, o24.q, hK⟩
        · have e20 := o20 (ready_dep hm 20 (by kernel_rfl))
          have g := o19 (ready_dep hm 19 (by kernel_rfl))
          refine wpOp_off (b := false) (c := true) rfl rfl rfl g (by decide) ?_
          exact ⟨hFR.put (by decide) _, o0.q, o1.q, o2.q, o3.q, o4.q, o5.q, o6.q, o7.q, o8.q, o9.q, o10.q, o11.q, o12.q, o13.q, o14.q, o15.q, o16.q, o17.q, o18.q, o19.q, o20.q, .now (put_eq (by have hz := hsz.out; omega)), o22.q, o23.q, o24.q, hK⟩
        · have e21 := o21 (ready_dep hm 21 (by kernel_rfl))
          have g := o19 (ready_dep hm 19 (by kernel_rfl))
          refine wpOp_off (b := false) (c := true) rfl rfl rfl g (by decide) ?_
          exact ⟨hFR.put (by decide) _, o0.q, o1.q, o2.q, o3.q, o4.q, o5.q, o6.q, o7.q, o8.q, o9.q, o10.q, o11.q, o12.q, o13.q, o14.q, o15.q, o16.q, o17.q, o18.q, o19.q, o20.q, o21.q, .now (put_eq (by have hz := hsz.out; omega)), o23.q, o24.q, hK⟩
        · have e22 := o22 (ready_dep hm 22 (by kernel_rfl))
          have g := o19 (ready_dep hm 19 (by kernel_rfl))
          refine wpOp_off (b := false) (c := true) rfl rfl rfl g (by decide) ?_
          exact ⟨hFR.put (by decide) _, o0.q, o1.q, o2.q, o3.q, o4.q, o5.q, o6.q, o7.q, o8.q, o9.q, o10.q, o11.q, o12.q, o13.q, o14.q, o15.q, o16.q, o17.q, o18.q, o19.q, o20.q, o21.q, o22.q, .now (put_eq (by have hz := hsz.out; omega)), o24.q, hK⟩
        · have e19 := o19 (ready_dep hm 19 (by kernel_rfl))
          have e23 := o23 (ready_dep hm 23 (by kernel_rfl))
          refine wpOp_step rfl (fun KK hK2 => ?_)
          go_simp
          exact hK2 (A.put (some 42) (.bool true)) _ ⟨hFR.put (by decide) _, o0.q, o1.q, o2.q, o3.q, o4.q, o5.q, o6.q, o7.q, o8.q, o9.q, o10.q, o11.q, o12.q, o13.q, o14.q, o15.q, o16.q, o17.q, o18.q, o19.q, o20.q, o21.q, o22.q, o23.q, .now (put_eq (by have hz := hsz.out; omega)), hK⟩
        · simp at hi1
          omega
end Go.Proofs.YtflnodadeajmcaaGreat

