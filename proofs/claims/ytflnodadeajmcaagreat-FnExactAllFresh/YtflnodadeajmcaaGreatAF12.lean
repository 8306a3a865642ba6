/- What the model's GoodStore answers, at every store. -/
import Derived.Test.YtflnodadeajmcaaGreatAF1
import Derived.Test.YtflnodadeajmcaaGreatAF8
import Derived.Test.YtflnodadeajmcaaGreatAF2
import Derived.Deep.RegionHeld3
namespace Go.Proofs.YtflnodadeajmcaaGreat
open Go.RowKit
set_option linter.unusedVariables false
set_option linter.unusedSimpArgs false
theorem wpOp_offU {P : Program} {ops : Array Oper} {Q : Exit → Act → World → Prop} {i : Nat} {o : Oper} {K : Act → World → Prop} {a : Act} {w : World} (ho : ops[i]? = some o) {j s : Nat} {b : Bool} (hg : o.guard = some (j, b)) (hd : (ops[j]?).bind (·.dst) = some s) (hv : a.tmps[s]? = some undef)
    (h : K (a.put o.dst undef) w) : wpOp P ops Q i K a w := by
  refine wpOp_step ho (fun K' hK => ?_)
  rw [if_neg]
  · exact hK _ _ h
  · unfold Region.wanted yielded
    rw [hg]
    simp only [hd, Option.bind_some, hv]
    simp [undef]
set_option maxRecDepth 100000 in
set_option maxHeartbeats 8000000 in
theorem specGoodStore (w : World) (r c : Int) (a : Option Addr) (ca : Nat) (us : List Pl.Ck) (ha : CRow w a us) (hok : ∀ k, k < us.length → Pl.CkOk (Pl.ck us k)) (bx : us.length ≤ 2000000) (hca : us.length ≤ ca) (bn : ∀ k, k < us.length → (Pl.ck us k).n ≤ 2000000) :
    Calls Tryz.prog 28 #[.agg #[iv r, iv c, .slice a us.length ca]] w fun e w' => e = .returned (.bool (Pl.goodS r c us)) ∧ Kept 0 0 w w' := by
  obtain ⟨n, hn⟩ : ∃ n, n = us.length := ⟨_, rfl⟩
  have K0 := hide (kept_alloc w (.cells #[iv r, iv c, .slice a n ca] 39))
  have B0 := hide (Blk.new w #[iv r, iv c, .slice a n ca] 39)
  have HA := hide ha
  have HN := hide hn
  have HO := hide hok
  rw [← hn] at bx hca ⊢
  clear ha hn hok
  go_enter Tryz.func28, Tryz.ntmps28
  go_wp2
  go_loopw [10] (fun j wr => ∃ k : Nat, k ≤ n ∧ j = .int .i64 k ∧ (∀ i, i < k → Pl.okK c us i) ∧ Kept 0 0 (w.alloc (.cells #[iv r, iv c, .slice a n ca] 39)) wr) (fun j _ => n - (intOf j).toNat)
  case atStart => exact ⟨0, Nat.zero_le _, rfl, fun i hi => absurd hi (Nat.not_lt_zero i), Kept.refl _ _ _⟩
  case round =>
    obtain ⟨k, hk, rfl, hall, hkept⟩ := hrel
    have HK := hide (K0.out.trans hkept)
    have HL := hide hall
    have BP := hide (B0.out.kept0 hkept)
    have HK1 := hide hkept
    clear hall hkept
    by_cases hlt : k < n
    · have hlu : k < us.length := by rw [← HN.out]; exact hlt
      obtain ⟨g9, of9, b1, cb1, rfl, p0, p1, p2, p3, pm⟩ := (HA.out.keptS HK.out).at4 hlu
      have bk := bn k hlu
      have ok1 := HO.out k hlu
      have PM := hide (pm.keptS (kept_alloc wr (.cells #[iv (Pl.ck us k).f, iv (Pl.ck us k).t, .slice b1 (Pl.ck us k).n cb1, iv (Pl.ck us k).u] 101)))
      have BX := hide (Blk.new wr #[iv (Pl.ck us k).f, iv (Pl.ck us k).t, .slice b1 (Pl.ck us k).n cb1, iv (Pl.ck us k).u] 101)
      have BS := hide (BP.out.alloc (.cells #[iv (Pl.ck us k).f, iv (Pl.ck us k).t, .slice b1 (Pl.ck us k).n cb1, iv (Pl.ck us k).u] 101))
      have HKX := hide (kept_new HK.out (.cells #[iv (Pl.ck us k).f, iv (Pl.ck us k).t, .slice b1 (Pl.ck us k).n cb1, iv (Pl.ck us k).u] 101))
      have HKY := hide (kept_new HK1.out (.cells #[iv (Pl.ck us k).f, iv (Pl.ck us k).t, .slice b1 (Pl.ck us k).n cb1, iv (Pl.ck us k).u] 101))
      clear pm
      go_wp2
      cases hG : Pl.goodU (Pl.ck us k).f (Pl.ck us k).t (Pl.ck us k).n (Pl.ck us k).ys (Pl.ck us k).ts (Pl.ck us k).sk
      · have E : Hid (Pl.goodS r c us = false) := hide (Pl.goodS_no fun h => by have h2 := h.ok k hlu; unfold Pl.okK Pl.goodC at h2; rw [hG] at h2; simp at h2)
        refine wp_region_inv2 (fun A0 l A W => FR [15, 16, 17, 18, 19, 20, 21, 22, 23, 24, 25, 26, 27, 28, 29, 30, 31, 32, 33, 34, 35, 36, 37, 38, 39, 40, 41, 42, 43, 44] A0 A ∧ Once l 0 (A.tmps[15]? = some (.pointer (some ⟨wr.heap.size, 0, none⟩))) ∧ Once l 1 (A.tmps[16]? = some (.agg #[iv (Pl.ck us k).f, iv (Pl.ck us k).t, .slice b1 (Pl.ck us k).n cb1])) ∧ Once l 2 (A.tmps[17]? = some (.bool false)) ∧ Once l 3 (A.tmps[18]? = some (.bool true)) ∧ Once l 4 (A.tmps[19]? = some (.bool true)) ∧ Once l 5 (A.tmps[20]? = some (undef)) ∧ Once l 6 (A.tmps[21]? = some (undef)) ∧ Once l 7 (A.tmps[22]? = some (undef)) ∧ Once l 8 (A.tmps[23]? = some (undef)) ∧ Once l 9 (A.tmps[24]? = some (undef)) ∧ Once l 10 (A.tmps[25]? = some (undef)) ∧ Once l 11 (A.tmps[26]? = some (.bool true)) ∧ Once l 12 (A.tmps[27]? = some (.bool true)) ∧ Once l 13 (A.tmps[28]? = some (undef)) ∧ Once l 14 (A.tmps[29]? = some (undef)) ∧ Once l 15 (A.tmps[30]? = some (undef)) ∧ Once l 16 (A.tmps[31]? = some (undef)) ∧ Once l 17 (A.tmps[32]? = some (undef)) ∧ Once l 18 (A.tmps[33]? = some (undef)) ∧ Once l 19 (A.tmps[34]? = some (undef)) ∧ Once l 20 (A.tmps[35]? = some (undef)) ∧ Once l 21 (A.tmps[36]? = some (undef)) ∧ Once l 22 (A.tmps[37]? = some (undef)) ∧ Once l 23 (A.tmps[38]? = some (undef)) ∧ Once l 24 (A.tmps[39]? = some (undef)) ∧ Once l 25 (A.tmps[40]? = some (undef)) ∧ Once l 26 (A.tmps[41]? = some (undef)) ∧ Once l 27 (A.tmps[42]? = some (undef)) ∧ Once l 28 (A.tmps[43]? = some (undef)) ∧ Once l 29 (A.tmps[44]? = some (.bool true)) ∧ Kept 0 0 (wr.alloc (.cells #[iv (Pl.ck us k).f, iv (Pl.ck us k).t, .slice b1 (Pl.ck us k).n cb1, iv (Pl.ck us k).u] 101)) W) (by kernel_rfl) (by kernel_rfl) ?start ?fin ?step
        case start => exact ⟨FR.refl _ _, once_start (by decide), once_start (by decide), once_start (by decide), once_start (by decide), once_start (by decide), once_start (by decide), once_start (by decide), once_start (by decide), once_start (by decide), once_start (by decide), once_start (by decide), once_start (by decide), once_start (by decide), once_start (by decide), once_start (by decide), once_start (by decide), once_start (by decide), once_start (by decide), once_start (by decide), once_start (by decide), once_start (by decide), once_start (by decide), once_start (by decide), once_start (by decide), once_start (by decide), once_start (by decide), once_start (by decide), once_start (by decide), once_start (by decide), once_start (by decide), kept_drew (Kept.refl _ _ _)⟩
        case fin =>
          intro l A W h hl
          obtain ⟨hFR, o0, o1, o2, o3, o4, o5, o6, o7, o8, o9, o10, o11, o12, o13, o14, o15, o16, o17, o18, o19, o20, o21, o22, o23, o24, o25, o26, o27, o28, o29, hK⟩ := h
          have g29 := o29 (hl 29 (by decide))
          have QQ := hide hK
          have hc9 := hFR.chain
          simp only [List.foldl] at hc9
          rw [getD_of g29] at hc9
          clear hl hK hFR g29 o0 o1 o2 o3 o4 o5 o6 o7 o8 o9 o10 o11 o12 o13 o14 o15 o16 o17 o18 o19 o20 o21 o22 o23 o24 o25 o26 o27 o28 o29
          generalize A.tmps.getD 15 undef = s15 at hc9
          generalize A.tmps.getD 16 undef = s16 at hc9
          generalize A.tmps.getD 17 undef = s17 at hc9
          generalize A.tmps.getD 18 undef = s18 at hc9
          generalize A.tmps.getD 19 undef = s19 at hc9
          generalize A.tmps.getD 20 undef = s20 at hc9
          generalize A.tmps.getD 21 undef = s21 at hc9
          generalize A.tmps.getD 22 undef = s22 at hc9
          generalize A.tmps.getD 23 undef = s23 at hc9
          generalize A.tmps.getD 24 undef = s24 at hc9
          generalize A.tmps.getD 25 undef = s25 at hc9
          generalize A.tmps.getD 26 undef = s26 at hc9
          generalize A.tmps.getD 27 undef = s27 at hc9
          generalize A.tmps.getD 28 undef = s28 at hc9
          generalize A.tmps.getD 29 undef = s29 at hc9
          generalize A.tmps.getD 30 undef = s30 at hc9
          generalize A.tmps.getD 31 undef = s31 at hc9
          generalize A.tmps.getD 32 undef = s32 at hc9
          generalize A.tmps.getD 33 undef = s33 at hc9
          generalize A.tmps.getD 34 undef = s34 at hc9
          generalize A.tmps.getD 35 undef = s35 at hc9
          generalize A.tmps.getD 36 undef = s36 at hc9
          generalize A.tmps.getD 37 undef = s37 at hc9
          generalize A.tmps.getD 38 undef = s38 at hc9
          generalize A.tmps.getD 39 undef = s39 at hc9
          generalize A.tmps.getD 40 undef = s40 at hc9
          generalize A.tmps.getD 41 undef = s41 at hc9
          generalize A.tmps.getD 42 undef = s42 at hc9
          generalize A.tmps.getD 43 undef = s43 at hc9
          subst hc9
          go_simp
          go_wp2_with fail
          go_ret
          exact ⟨rB E.out.symm, HKX.out.trans QQ.out⟩
        case step =>
          intro l A W i hI hm
          obtain ⟨hFR, o0, o1, o2, o3, o4, o5, o6, o7, o8, o9, o10, o11, o12, o13, o14, o15, o16, o17, o18, o19, o20, o21, o22, o23, o24, o25, o26, o27, o28, o29, hK⟩ := hI
          obtain ⟨hi1, hi2⟩ := ready_new hm
          have hsz : Hid (44 < A.tmps.size) := hide (by rw [hFR.size]; simp)
          have m1 : A.tmps[1]? = some (.pointer (some ⟨w.heap.size, 0, none⟩)) := (hFR.out 1 (by decide)).trans rfl
          have m3 : A.tmps[3]? = some (.int .i64 ((k : Nat) : Int)) := (hFR.out 3 (by decide)).trans rfl
          have m4 : A.tmps[4]? = some (.pointer (some ⟨wr.heap.size, 0, none⟩)) := (hFR.out 4 (by decide)).trans rfl
          rcases i with _ | _ | _ | _ | _ | _ | _ | _ | _ | _ | _ | _ | _ | _ | _ | _ | _ | _ | _ | _ | _ | _ | _ | _ | _ | _ | _ | _ | _ | _ | i
          · refine wpOp_step rfl (fun KK hK2 => ?_)
            go_simp
            exact hK2 (A.put (some 15) (.pointer (some ⟨wr.heap.size, 0, none⟩))) _ ⟨hFR.put (by decide) _, .now (put_eq (by have hz := hsz.out; omega)), o1.q, o2.q, o3.q, o4.q, o5.q, o6.q, o7.q, o8.q, o9.q, o10.q, o11.q, o12.q, o13.q, o14.q, o15.q, o16.q, o17.q, o18.q, o19.q, o20.q, o21.q, o22.q, o23.q, o24.q, o25.q, o26.q, o27.q, o28.q, o29.q, hK⟩
          · have e0 := o0 (ready_dep hm 0 (by kernel_rfl))
            have BL := BX.out.kept0 hK
            have x0 := BL.all
            clear BL
            refine wpOp_step rfl (fun KK hK2 => ?_)
            go_simp
            exact hK2 (A.put (some 16) (.agg #[iv (Pl.ck us k).f, iv (Pl.ck us k).t, .slice b1 (Pl.ck us k).n cb1])) _ ⟨hFR.put (by decide) _, o0.q, .now (put_eq (by have hz := hsz.out; omega)), o2.q, o3.q, o4.q, o5.q, o6.q, o7.q, o8.q, o9.q, o10.q, o11.q, o12.q, o13.q, o14.q, o15.q, o16.q, o17.q, o18.q, o19.q, o20.q, o21.q, o22.q, o23.q, o24.q, o25.q, o26.q, o27.q, o28.q, o29.q, hK⟩
          · have e1 := o1 (ready_dep hm 1 (by kernel_rfl))
            refine wpOp_step rfl (fun KK hK2 => ?_)
            go_simp
            refine (specGoodUnit _ _ _ _ _ _ _ _ _ (PM.out.keptS hK) ok1.ly bk).mono ?_
            rw [hG]
            rintro e9 W9 ⟨rfl, k9⟩
            go_simp
            exact hK2 (A.put (some 17) (.bool false)) _ ⟨hFR.put (by decide) _, o0.q, o1.q, .now (put_eq (by have hz := hsz.out; omega)), o3.q, o4.q, o5.q, o6.q, o7.q, o8.q, o9.q, o10.q, o11.q, o12.q, o13.q, o14.q, o15.q, o16.q, o17.q, o18.q, o19.q, o20.q, o21.q, o22.q, o23.q, o24.q, o25.q, o26.q, o27.q, o28.q, o29.q, (hK.trans k9)⟩
          · have e2 := o2 (ready_dep hm 2 (by kernel_rfl))
            refine wpOp_step rfl (fun KK hK2 => ?_)
            go_simp
            exact hK2 (A.put (some 18) (.bool true)) _ ⟨hFR.put (by decide) _, o0.q, o1.q, o2.q, .now (put_eq (by have hz := hsz.out; omega)), o4.q, o5.q, o6.q, o7.q, o8.q, o9.q, o10.q, o11.q, o12.q, o13.q, o14.q, o15.q, o16.q, o17.q, o18.q, o19.q, o20.q, o21.q, o22.q, o23.q, o24.q, o25.q, o26.q, o27.q, o28.q, o29.q, hK⟩
          · have e3 := o3 (ready_dep hm 3 (by kernel_rfl))
            refine wpOp_step rfl (fun KK hK2 => ?_)
            go_simp
            exact hK2 (A.put (some 19) (.bool true)) _ ⟨hFR.put (by decide) _, o0.q, o1.q, o2.q, o3.q, .now (put_eq (by have hz := hsz.out; omega)), o5.q, o6.q, o7.q, o8.q, o9.q, o10.q, o11.q, o12.q, o13.q, o14.q, o15.q, o16.q, o17.q, o18.q, o19.q, o20.q, o21.q, o22.q, o23.q, o24.q, o25.q, o26.q, o27.q, o28.q, o29.q, hK⟩
          · have g := o4 (ready_dep hm 4 (by kernel_rfl))
            refine wpOp_off (b := false) (c := true) rfl rfl rfl g (by decide) ?_
            exact ⟨hFR.put (by decide) _, o0.q, o1.q, o2.q, o3.q, o4.q, .now (put_eq (by have hz := hsz.out; omega)), o6.q, o7.q, o8.q, o9.q, o10.q, o11.q, o12.q, o13.q, o14.q, o15.q, o16.q, o17.q, o18.q, o19.q, o20.q, o21.q, o22.q, o23.q, o24.q, o25.q, o26.q, o27.q, o28.q, o29.q, hK⟩
          · have e5 := o5 (ready_dep hm 5 (by kernel_rfl))
            have g := o4 (ready_dep hm 4 (by kernel_rfl))
            refine wpOp_off (b := false) (c := true) rfl rfl rfl g (by decide) ?_
            exact ⟨hFR.put (by decide) _, o0.q, o1.q, o2.q, o3.q, o4.q, o5.q, .now (put_eq (by have hz := hsz.out; omega)), o7.q, o8.q, o9.q, o10.q, o11.q, o12.q, o13.q, o14.q, o15.q, o16.q, o17.q, o18.q, o19.q, o20.q, o21.q, o22.q, o23.q, o24.q, o25.q, o26.q, o27.q, o28.q, o29.q, hK⟩
          · have g := o4 (ready_dep hm 4 (by kernel_rfl))
            refine wpOp_off (b := false) (c := true) rfl rfl rfl g (by decide) ?_
            exact ⟨hFR.put (by decide) _, o0.q, o1.q, o2.q, o3.q, o4.q, o5.q, o6.q, .now (put_eq (by have hz := hsz.out; omega)), o8.q, o9.q, o10.q, o11.q, o12.q, o13.q, o14.q, o15.q, o16.q, o17.q, o18.q, o19.q, o20.q, o21.q, o22.q, o23.q, o24.q, o25.q, o26.q, o27.q, o28.q, o29.q, hK⟩
          · have e7 := o7 (ready_dep hm 7 (by kernel_rfl))
            have g := o4 (ready_dep hm 4 (by kernel_rfl))
            refine wpOp_off (b := false) (c := true) rfl rfl rfl g (by decide) ?_
            exact ⟨hFR.put (by decide) _, o0.q, o1.q, o2.q, o3.q, o4.q, o5.q, o6.q, o7.q, .now (put_eq (by have hz := hsz.out; omega)), o9.q, o10.q, o11.q, o12.q, o13.q, o14.q, o15.q, o16.q, o17.q, o18.q, o19.q, o20.q, o21.q, o22.q, o23.q, o24.q, o25.q, o26.q, o27.q, o28.q, o29.q, hK⟩
          · have e6 := o6 (ready_dep hm 6 (by kernel_rfl))
            have e8 := o8 (ready_dep hm 8 (by kernel_rfl))
            have g := o4 (ready_dep hm 4 (by kernel_rfl))
            refine wpOp_off (b := false) (c := true) rfl rfl rfl g (by decide) ?_
            exact ⟨hFR.put (by decide) _, o0.q, o1.q, o2.q, o3.q, o4.q, o5.q, o6.q, o7.q, o8.q, .now (put_eq (by have hz := hsz.out; omega)), o10.q, o11.q, o12.q, o13.q, o14.q, o15.q, o16.q, o17.q, o18.q, o19.q, o20.q, o21.q, o22.q, o23.q, o24.q, o25.q, o26.q, o27.q, o28.q, o29.q, hK⟩
          · have e9 := o9 (ready_dep hm 9 (by kernel_rfl))
            have g := o4 (ready_dep hm 4 (by kernel_rfl))
            refine wpOp_off (b := false) (c := true) rfl rfl rfl g (by decide) ?_
            exact ⟨hFR.put (by decide) _, o0.q, o1.q, o2.q, o3.q, o4.q, o5.q, o6.q, o7.q, o8.q, o9.q, .now (put_eq (by have hz := hsz.out; omega)), o11.q, o12.q, o13.q, o14.q, o15.q, o16.q, o17.q, o18.q, o19.q, o20.q, o21.q, o22.q, o23.q, o24.q, o25.q, o26.q, o27.q, o28.q, o29.q, hK⟩
          · have e4 := o4 (ready_dep hm 4 (by kernel_rfl))
            refine wpOp_step rfl (fun KK hK2 => ?_)
            go_simp
            exact hK2 (A.put (some 26) (.bool true)) _ ⟨hFR.put (by decide) _, o0.q, o1.q, o2.q, o3.q, o4.q, o5.q, o6.q, o7.q, o8.q, o9.q, o10.q, .now (put_eq (by have hz := hsz.out; omega)), o12.q, o13.q, o14.q, o15.q, o16.q, o17.q, o18.q, o19.q, o20.q, o21.q, o22.q, o23.q, o24.q, o25.q, o26.q, o27.q, o28.q, o29.q, hK⟩
          · have e11 := o11 (ready_dep hm 11 (by kernel_rfl))
            refine wpOp_step rfl (fun KK hK2 => ?_)
            go_simp
            exact hK2 (A.put (some 27) (.bool true)) _ ⟨hFR.put (by decide) _, o0.q, o1.q, o2.q, o3.q, o4.q, o5.q, o6.q, o7.q, o8.q, o9.q, o10.q, o11.q, .now (put_eq (by have hz := hsz.out; omega)), o13.q, o14.q, o15.q, o16.q, o17.q, o18.q, o19.q, o20.q, o21.q, o22.q, o23.q, o24.q, o25.q, o26.q, o27.q, o28.q, o29.q, hK⟩
          · have g := o12 (ready_dep hm 12 (by kernel_rfl))
            refine wpOp_off (b := false) (c := true) rfl rfl rfl g (by decide) ?_
            exact ⟨hFR.put (by decide) _, o0.q, o1.q, o2.q, o3.q, o4.q, o5.q, o6.q, o7.q, o8.q, o9.q, o10.q, o11.q, o12.q, .now (put_eq (by have hz := hsz.out; omega)), o14.q, o15.q, o16.q, o17.q, o18.q, o19.q, o20.q, o21.q, o22.q, o23.q, o24.q, o25.q, o26.q, o27.q, o28.q, o29.q, hK⟩
          · have e13 := o13 (ready_dep hm 13 (by kernel_rfl))
            have g := o12 (ready_dep hm 12 (by kernel_rfl))
            refine wpOp_off (b := false) (c := true) rfl rfl rfl g (by decide) ?_
            exact ⟨hFR.put (by decide) _, o0.q, o1.q, o2.q, o3.q, o4.q, o5.q, o6.q, o7.q, o8.q, o9.q, o10.q, o11.q, o12.q, o13.q, .now (put_eq (by have hz := hsz.out; omega)), o15.q, o16.q, o17.q, o18.q, o19.q, o20.q, o21.q, o22.q, o23.q, o24.q, o25.q, o26.q, o27.q, o28.q, o29.q, hK⟩
          · have e14 := o14 (ready_dep hm 14 (by kernel_rfl))
            have g := o12 (ready_dep hm 12 (by kernel_rfl))
            refine wpOp_off (b := false) (c := true) rfl rfl rfl g (by decide) ?_
            exact ⟨hFR.put (by decide) _, o0.q, o1.q, o2.q, o3.q, o4.q, o5.q, o6.q, o7.q, o8.q, o9.q, o10.q, o11.q, o12.q, o13.q, o14.q, .now (put_eq (by have hz := hsz.out; omega)), o16.q, o17.q, o18.q, o19.q, o20.q, o21.q, o22.q, o23.q, o24.q, o25.q, o26.q, o27.q, o28.q, o29.q, hK⟩
          · have g := o15 (ready_dep hm 15 (by kernel_rfl))
            refine wpOp_offU rfl rfl rfl g ?_
            exact ⟨hFR.put (by decide) _, o0.q, o1.q, o2.q, o3.q, o4.q, o5.q, o6.q, o7.q, o8.q, o9.q, o10.q, o11.q, o12.q, o13.q, o14.q, o15.q, .now (put_eq (by have hz := hsz.out; omega)), o17.q, o18.q, o19.q, o20.q, o21.q, o22.q, o23.q, o24.q, o25.q, o26.q, o27.q, o28.q, o29.q, hK⟩
          · have e16 := o16 (ready_dep hm 16 (by kernel_rfl))
            have g := o15 (ready_dep hm 15 (by kernel_rfl))
            refine wpOp_offU rfl rfl rfl g ?_
            exact ⟨hFR.put (by decide) _, o0.q, o1.q, o2.q, o3.q, o4.q, o5.q, o6.q, o7.q, o8.q, o9.q, o10.q, o11.q, o12.q, o13.q, o14.q, o15.q, o16.q, .now (put_eq (by have hz := hsz.out; omega)), o18.q, o19.q, o20.q, o21.q, o22.q, o23.q, o24.q, o25.q, o26.q, o27.q, o28.q, o29.q, hK⟩
          · have g := o15 (ready_dep hm 15 (by kernel_rfl))
            refine wpOp_offU rfl rfl rfl g ?_
            exact ⟨hFR.put (by decide) _, o0.q, o1.q, o2.q, o3.q, o4.q, o5.q, o6.q, o7.q, o8.q, o9.q, o10.q, o11.q, o12.q, o13.q, o14.q, o15.q, o16.q, o17.q, .now (put_eq (by have hz := hsz.out; omega)), o19.q, o20.q, o21.q, o22.q, o23.q, o24.q, o25.q, o26.q, o27.q, o28.q, o29.q, hK⟩
          · have e18 := o18 (ready_dep hm 18 (by kernel_rfl))
            have g := o15 (ready_dep hm 15 (by kernel_rfl))
            refine wpOp_offU rfl rfl rfl g ?_
            exact ⟨hFR.put (by decide) _, o0.q, o1.q, o2.q, o3.q, o4.q, o5.q, o6.q, o7.q, o8.q, o9.q, o10.q, o11.q, o12.q, o13.q, o14.q, o15.q, o16.q, o17.q, o18.q, .now (put_eq (by have hz := hsz.out; omega)), o20.q, o21.q, o22.q, o23.q, o24.q, o25.q, o26.q, o27.q, o28.q, o29.q, hK⟩
          · have e17 := o17 (ready_dep hm 17 (by kernel_rfl))
            have e19 := o19 (ready_dep hm 19 (by kernel_rfl))
            have g := o15 (ready_dep hm 15 (by kernel_rfl))
            refine wpOp_offU rfl rfl rfl g ?_
            exact ⟨hFR.put (by decide) _, o0.q, o1.q, o2.q, o3.q, o4.q, o5.q, o6.q, o7.q, o8.q, o9.q, o10.q, o11.q, o12.q, o13.q, o14.q, o15.q, o16.q, o17.q, o18.q, o19.q, .now (put_eq (by have hz := hsz.out; omega)), o21.q, o22.q, o23.q, o24.q, o25.q, o26.q, o27.q, o28.q, o29.q, hK⟩
          · have e20 := o20 (ready_dep hm 20 (by kernel_rfl))
            have g := o15 (ready_dep hm 15 (by kernel_rfl))
            refine wpOp_offU rfl rfl rfl g ?_
            exact ⟨hFR.put (by decide) _, o0.q, o1.q, o2.q, o3.q, o4.q, o5.q, o6.q, o7.q, o8.q, o9.q, o10.q, o11.q, o12.q, o13.q, o14.q, o15.q, o16.q, o17.q, o18.q, o19.q, o20.q, .now (put_eq (by have hz := hsz.out; omega)), o22.q, o23.q, o24.q, o25.q, o26.q, o27.q, o28.q, o29.q, hK⟩
          · have e21 := o21 (ready_dep hm 21 (by kernel_rfl))
            have g := o15 (ready_dep hm 15 (by kernel_rfl))
            refine wpOp_offU rfl rfl rfl g ?_
            exact ⟨hFR.put (by decide) _, o0.q, o1.q, o2.q, o3.q, o4.q, o5.q, o6.q, o7.q, o8.q, o9.q, o10.q, o11.q, o12.q, o13.q, o14.q, o15.q, o16.q, o17.q, o18.q, o19.q, o20.q, o21.q, .now (put_eq (by have hz := hsz.out; omega)), o23.q, o24.q, o25.q, o26.q, o27.q, o28.q, o29.q, hK⟩
          · have e22 := o22 (ready_dep hm 22 (by kernel_rfl))
            have g := o15 (ready_dep hm 15 (by kernel_rfl))
            refine wpOp_offU rfl rfl rfl g ?_
            exact ⟨hFR.put (by decide) _, o0.q, o1.q, o2.q, o3.q, o4.q, o5.q, o6.q, o7.q, o8.q, o9.q, o10.q, o11.q, o12.q, o13.q, o14.q, o15.q, o16.q, o17.q, o18.q, o19.q, o20.q, o21.q, o22.q, .now (put_eq (by have hz := hsz.out; omega)), o24.q, o25.q, o26.q, o27.q, o28.q, o29.q, hK⟩
          · have g := o15 (ready_dep hm 15 (by kernel_rfl))
            refine wpOp_offU rfl rfl rfl g ?_
            exact ⟨hFR.put (by decide) _, o0.q, o1.q, o2.q, o3.q, o4.q, o5.q, o6.q, o7.q, o8.q, o9.q, o10.q, o11.q, o12.q, o13.q, o14.q, o15.q, o16.q, o17.q, o18.q, o19.q, o20.q, o21.q, o22.q, o23.q, .now (put_eq (by have hz := hsz.out; omega)), o25.q, o26.q, o27.q, o28.q, o29.q, hK⟩
          · have e24 := o24 (ready_dep hm 24 (by kernel_rfl))
            have g := o15 (ready_dep hm 15 (by kernel_rfl))
            refine wpOp_offU rfl rfl rfl g ?_
            exact ⟨hFR.put (by decide) _, o0.q, o1.q, o2.q, o3.q, o4.q, o5.q, o6.q, o7.q, o8.q, o9.q, o10.q, o11.q, o12.q, o13.q, o14.q, o15.q, o16.q, o17.q, o18.q, o19.q, o20.q, o21.q, o22.q, o23.q, o24.q, .now (put_eq (by have hz := hsz.out; omega)), o26.q, o27.q, o28.q, o29.q, hK⟩
          · have e25 := o25 (ready_dep hm 25 (by kernel_rfl))
            have g := o15 (ready_dep hm 15 (by kernel_rfl))
            refine wpOp_offU rfl rfl rfl g ?_
            exact ⟨hFR.put (by decide) _, o0.q, o1.q, o2.q, o3.q, o4.q, o5.q, o6.q, o7.q, o8.q, o9.q, o10.q, o11.q, o12.q, o13.q, o14.q, o15.q, o16.q, o17.q, o18.q, o19.q, o20.q, o21.q, o22.q, o23.q, o24.q, o25.q, .now (put_eq (by have hz := hsz.out; omega)), o27.q, o28.q, o29.q, hK⟩
          · have e23 := o23 (ready_dep hm 23 (by kernel_rfl))
            have e26 := o26 (ready_dep hm 26 (by kernel_rfl))
            have g := o15 (ready_dep hm 15 (by kernel_rfl))
            refine wpOp_offU rfl rfl rfl g ?_
            exact ⟨hFR.put (by decide) _, o0.q, o1.q, o2.q, o3.q, o4.q, o5.q, o6.q, o7.q, o8.q, o9.q, o10.q, o11.q, o12.q, o13.q, o14.q, o15.q, o16.q, o17.q, o18.q, o19.q, o20.q, o21.q, o22.q, o23.q, o24.q, o25.q, o26.q, .now (put_eq (by have hz := hsz.out; omega)), o28.q, o29.q, hK⟩
          · have e15 := o15 (ready_dep hm 15 (by kernel_rfl))
            have g := o12 (ready_dep hm 12 (by kernel_rfl))
            refine wpOp_off (b := false) (c := true) rfl rfl rfl g (by decide) ?_
            exact ⟨hFR.put (by decide) _, o0.q, o1.q, o2.q, o3.q, o4.q, o5.q, o6.q, o7.q, o8.q, o9.q, o10.q, o11.q, o12.q, o13.q, o14.q, o15.q, o16.q, o17.q, o18.q, o19.q, o20.q, o21.q, o22.q, o23.q, o24.q, o25.q, o26.q, o27.q, .now (put_eq (by have hz := hsz.out; omega)), o29.q, hK⟩
          · have e12 := o12 (ready_dep hm 12 (by kernel_rfl))
            refine wpOp_step rfl (fun KK hK2 => ?_)
            go_simp
            exact hK2 (A.put (some 44) (.bool true)) _ ⟨hFR.put (by decide) _, o0.q, o1.q, o2.q, o3.q, o4.q, o5.q, o6.q, o7.q, o8.q, o9.q, o10.q, o11.q, o12.q, o13.q, o14.q, o15.q, o16.q, o17.q, o18.q, o19.q, o20.q, o21.q, o22.q, o23.q, o24.q, o25.q, o26.q, o27.q, o28.q, .now (put_eq (by have hz := hsz.out; omega)), hK⟩
          · simp at hi1
            omega
      · cases hI : (decide (0 ≤ (Pl.ck us k).u) && decide ((Pl.ck us k).u ≤ c))
        · have E : Hid (Pl.goodS r c us = false) := hide (Pl.goodS_no fun h => by have h2 := h.ok k hlu; unfold Pl.okK Pl.goodC at h2; rw [hI] at h2; simp at h2)
          refine wp_region_inv2 (fun A0 l A W => FR [15, 16, 17, 18, 19, 20, 21, 22, 23, 24, 25, 26, 27, 28, 29, 30, 31, 32, 33, 34, 35, 36, 37, 38, 39, 40, 41, 42, 43, 44] A0 A ∧ Once l 0 (A.tmps[15]? = some (.pointer (some ⟨wr.heap.size, 0, none⟩))) ∧ Once l 1 (A.tmps[16]? = some (.agg #[iv (Pl.ck us k).f, iv (Pl.ck us k).t, .slice b1 (Pl.ck us k).n cb1])) ∧ Once l 2 (A.tmps[17]? = some (.bool true)) ∧ Once l 3 (A.tmps[18]? = some (.bool false)) ∧ Once l 4 (A.tmps[19]? = some (.bool false)) ∧ Once l 5 (A.tmps[20]? = some (.pointer (some ⟨wr.heap.size, 3, none⟩))) ∧ Once l 6 (A.tmps[21]? = some (iv (Pl.ck us k).u)) ∧ Once l 7 (A.tmps[22]? = some (.pointer (some ⟨w.heap.size, 1, none⟩))) ∧ Once l 8 (A.tmps[23]? = some (iv c)) ∧ Once l 9 (A.tmps[24]? = some (.bool false)) ∧ Once l 10 (A.tmps[25]? = some (.bool true)) ∧ Once l 11 (A.tmps[26]? = some (.bool true)) ∧ Once l 12 (A.tmps[27]? = some (.bool true)) ∧ Once l 13 (A.tmps[28]? = some (undef)) ∧ Once l 14 (A.tmps[29]? = some (undef)) ∧ Once l 15 (A.tmps[30]? = some (undef)) ∧ Once l 16 (A.tmps[31]? = some (undef)) ∧ Once l 17 (A.tmps[32]? = some (undef)) ∧ Once l 18 (A.tmps[33]? = some (undef)) ∧ Once l 19 (A.tmps[34]? = some (undef)) ∧ Once l 20 (A.tmps[35]? = some (undef)) ∧ Once l 21 (A.tmps[36]? = some (undef)) ∧ Once l 22 (A.tmps[37]? = some (undef)) ∧ Once l 23 (A.tmps[38]? = some (undef)) ∧ Once l 24 (A.tmps[39]? = some (undef)) ∧ Once l 25 (A.tmps[40]? = some (undef)) ∧ Once l 26 (A.tmps[41]? = some (undef)) ∧ Once l 27 (A.tmps[42]? = some (undef)) ∧ Once l 28 (A.tmps[43]? = some (undef)) ∧ Once l 29 (A.tmps[44]? = some (.bool true)) ∧ Kept 0 0 (wr.alloc (.cells #[iv (Pl.ck us k).f, iv (Pl.ck us k).t, .slice b1 (Pl.ck us k).n cb1, iv (Pl.ck us k).u] 101)) W) (by kernel_rfl) (by kernel_rfl) ?start ?fin ?step
          case start => exact ⟨FR.refl _ _, once_start (by decide), once_start (by decide), once_start (by decide), once_start (by decide), once_start (by decide), once_start (by decide), once_start (by decide), once_start (by decide), once_start (by decide), once_start (by decide), once_start (by decide), once_start (by decide), once_start (by decide), once_start (by decide), once_start (by decide), once_start (by decide), once_start (by decide), once_start (by decide), once_start (by decide), once_start (by decide), once_start (by decide), once_start (by decide), once_start (by decide), once_start (by decide), once_start (by decide), once_start (by decide), once_start (by decide), once_start (by decide), once_start (by decide), once_start (by decide), kept_drew (Kept.refl _ _ _)⟩
          case fin =>
            intro l A W h hl
            obtain ⟨hFR, o0, o1, o2, o3, o4, o5, o6, o7, o8, o9, o10, o11, o12, o13, o14, o15, o16, o17, o18, o19, o20, o21, o22, o23, o24, o25, o26, o27, o28, o29, hK⟩ := h
            have g29 := o29 (hl 29 (by decide))
            have QQ := hide hK
            have hc9 := hFR.chain
            simp only [List.foldl] at hc9
            rw [getD_of g29] at hc9
            clear hl hK hFR g29 o0 o1 o2 o3 o4 o5 o6 o7 o8 o9 o10 o11 o12 o13 o14 o15 o16 o17 o18 o19 o20 o21 o22 o23 o24 o25 o26 o27 o28 o29
            generalize A.tmps.getD 15 undef = s15 at hc9
            generalize A.tmps.getD 16 undef = s16 at hc9
            generalize A.tmps.getD 17 undef = s17 at hc9
            generalize A.tmps.getD 18 undef = s18 at hc9
            generalize A.tmps.getD 19 undef = s19 at hc9
            generalize A.tmps.getD 20 undef = s20 at hc9
            generalize A.tmps.getD 21 undef = s21 at hc9
            generalize A.tmps.getD 22 undef = s22 at hc9
            generalize A.tmps.getD 23 undef = s23 at hc9
            generalize A.tmps.getD 24 undef = s24 at hc9
            generalize A.tmps.getD 25 undef = s25 at hc9
            generalize A.tmps.getD 26 undef = s26 at hc9
            generalize A.tmps.getD 27 undef = s27 at hc9
            generalize A.tmps.getD 28 undef = s28 at hc9
            generalize A.tmps.getD 29 undef = s29 at hc9
            generalize A.tmps.getD 30 undef = s30 at hc9
            generalize A.tmps.getD 31 undef = s31 at hc9
            generalize A.tmps.getD 32 undef = s32 at hc9
            generalize A.tmps.getD 33 undef = s33 at hc9
            generalize A.tmps.getD 34 undef = s34 at hc9
            generalize A.tmps.getD 35 undef = s35 at hc9
            generalize A.tmps.getD 36 undef = s36 at hc9
            generalize A.tmps.getD 37 undef = s37 at hc9
            generalize A.tmps.getD 38 undef = s38 at hc9
            generalize A.tmps.getD 39 undef = s39 at hc9
            generalize A.tmps.getD 40 undef = s40 at hc9
            generalize A.tmps.getD 41 undef = s41 at hc9
            generalize A.tmps.getD 42 undef = s42 at hc9
            generalize A.tmps.getD 43 undef = s43 at hc9
            subst hc9
            go_simp
            go_wp2_with fail
            go_ret
            exact ⟨rB E.out.symm, HKX.out.trans QQ.out⟩
          case step =>
            intro l A W i hI hm
            obtain ⟨hFR, o0, o1, o2, o3, o4, o5, o6, o7, o8, o9, o10, o11, o12, o13, o14, o15, o16, o17, o18, o19, o20, o21, o22, o23, o24, o25, o26, o27, o28, o29, hK⟩ := hI
            obtain ⟨hi1, hi2⟩ := ready_new hm
            have hsz : Hid (44 < A.tmps.size) := hide (by rw [hFR.size]; simp)
            have m1 : A.tmps[1]? = some (.pointer (some ⟨w.heap.size, 0, none⟩)) := (hFR.out 1 (by decide)).trans rfl
            have m3 : A.tmps[3]? = some (.int .i64 ((k : Nat) : Int)) := (hFR.out 3 (by decide)).trans rfl
            have m4 : A.tmps[4]? = some (.pointer (some ⟨wr.heap.size, 0, none⟩)) := (hFR.out 4 (by decide)).trans rfl
            rcases i with _ | _ | _ | _ | _ | _ | _ | _ | _ | _ | _ | _ | _ | _ | _ | _ | _ | _ | _ | _ | _ | _ | _ | _ | _ | _ | _ | _ | _ | _ | i
            · refine wpOp_step rfl (fun KK hK2 => ?_)
              go_simp
              exact hK2 (A.put (some 15) (.pointer (some ⟨wr.heap.size, 0, none⟩))) _ ⟨hFR.put (by decide) _, .now (put_eq (by have hz := hsz.out; omega)), o1.q, o2.q, o3.q, o4.q, o5.q, o6.q, o7.q, o8.q, o9.q, o10.q, o11.q, o12.q, o13.q, o14.q, o15.q, o16.q, o17.q, o18.q, o19.q, o20.q, o21.q, o22.q, o23.q, o24.q, o25.q, o26.q, o27.q, o28.q, o29.q, hK⟩
            · have e0 := o0 (ready_dep hm 0 (by kernel_rfl))
              have BL := BX.out.kept0 hK
              have x0 := BL.all
              clear BL
              refine wpOp_step rfl (fun KK hK2 => ?_)
              go_simp
              exact hK2 (A.put (some 16) (.agg #[iv (Pl.ck us k).f, iv (Pl.ck us k).t, .slice b1 (Pl.ck us k).n cb1])) _ ⟨hFR.put (by decide) _, o0.q, .now (put_eq (by have hz := hsz.out; omega)), o2.q, o3.q, o4.q, o5.q, o6.q, o7.q, o8.q, o9.q, o10.q, o11.q, o12.q, o13.q, o14.q, o15.q, o16.q, o17.q, o18.q, o19.q, o20.q, o21.q, o22.q, o23.q, o24.q, o25.q, o26.q, o27.q, o28.q, o29.q, hK⟩
            · have e1 := o1 (ready_dep hm 1 (by kernel_rfl))
              refine wpOp_step rfl (fun KK hK2 => ?_)
              go_simp
              refine (specGoodUnit _ _ _ _ _ _ _ _ _ (PM.out.keptS hK) ok1.ly bk).mono ?_
              rw [hG]
              rintro e9 W9 ⟨rfl, k9⟩
              go_simp
              exact hK2 (A.put (some 17) (.bool true)) _ ⟨hFR.put (by decide) _, o0.q, o1.q, .now (put_eq (by have hz := hsz.out; omega)), o3.q, o4.q, o5.q, o6.q, o7.q, o8.q, o9.q, o10.q, o11.q, o12.q, o13.q, o14.q, o15.q, o16.q, o17.q, o18.q, o19.q, o20.q, o21.q, o22.q, o23.q, o24.q, o25.q, o26.q, o27.q, o28.q, o29.q, (hK.trans k9)⟩
            · have e2 := o2 (ready_dep hm 2 (by kernel_rfl))
              refine wpOp_step rfl (fun KK hK2 => ?_)
              go_simp
              exact hK2 (A.put (some 18) (.bool false)) _ ⟨hFR.put (by decide) _, o0.q, o1.q, o2.q, .now (put_eq (by have hz := hsz.out; omega)), o4.q, o5.q, o6.q, o7.q, o8.q, o9.q, o10.q, o11.q, o12.q, o13.q, o14.q, o15.q, o16.q, o17.q, o18.q, o19.q, o20.q, o21.q, o22.q, o23.q, o24.q, o25.q, o26.q, o27.q, o28.q, o29.q, hK⟩
            · have e3 := o3 (ready_dep hm 3 (by kernel_rfl))
              refine wpOp_step rfl (fun KK hK2 => ?_)
              go_simp
              exact hK2 (A.put (some 19) (.bool false)) _ ⟨hFR.put (by decide) _, o0.q, o1.q, o2.q, o3.q, .now (put_eq (by have hz := hsz.out; omega)), o5.q, o6.q, o7.q, o8.q, o9.q, o10.q, o11.q, o12.q, o13.q, o14.q, o15.q, o16.q, o17.q, o18.q, o19.q, o20.q, o21.q, o22.q, o23.q, o24.q, o25.q, o26.q, o27.q, o28.q, o29.q, hK⟩
            · have g := o4 (ready_dep hm 4 (by kernel_rfl))
              refine wpOp_on (b := false) rfl rfl rfl g (fun KK hK2 => ?_)
              go_simp
              exact hK2 (A.put (some 20) (.pointer (some ⟨wr.heap.size, 3, none⟩))) _ ⟨hFR.put (by decide) _, o0.q, o1.q, o2.q, o3.q, o4.q, .now (put_eq (by have hz := hsz.out; omega)), o6.q, o7.q, o8.q, o9.q, o10.q, o11.q, o12.q, o13.q, o14.q, o15.q, o16.q, o17.q, o18.q, o19.q, o20.q, o21.q, o22.q, o23.q, o24.q, o25.q, o26.q, o27.q, o28.q, o29.q, hK⟩
            · have e5 := o5 (ready_dep hm 5 (by kernel_rfl))
              have BL := BX.out.kept0 hK
              have x0 := BL.all
              clear BL
              have g := o4 (ready_dep hm 4 (by kernel_rfl))
              refine wpOp_on (b := false) rfl rfl rfl g (fun KK hK2 => ?_)
              go_simp
              exact hK2 (A.put (some 21) (iv (Pl.ck us k).u)) _ ⟨hFR.put (by decide) _, o0.q, o1.q, o2.q, o3.q, o4.q, o5.q, .now (put_eq (by have hz := hsz.out; omega)), o7.q, o8.q, o9.q, o10.q, o11.q, o12.q, o13.q, o14.q, o15.q, o16.q, o17.q, o18.q, o19.q, o20.q, o21.q, o22.q, o23.q, o24.q, o25.q, o26.q, o27.q, o28.q, o29.q, hK⟩
            · have g := o4 (ready_dep hm 4 (by kernel_rfl))
              refine wpOp_on (b := false) rfl rfl rfl g (fun KK hK2 => ?_)
              go_simp
              exact hK2 (A.put (some 22) (.pointer (some ⟨w.heap.size, 1, none⟩))) _ ⟨hFR.put (by decide) _, o0.q, o1.q, o2.q, o3.q, o4.q, o5.q, o6.q, .now (put_eq (by have hz := hsz.out; omega)), o8.q, o9.q, o10.q, o11.q, o12.q, o13.q, o14.q, o15.q, o16.q, o17.q, o18.q, o19.q, o20.q, o21.q, o22.q, o23.q, o24.q, o25.q, o26.q, o27.q, o28.q, o29.q, hK⟩
            · have e7 := o7 (ready_dep hm 7 (by kernel_rfl))
              have BL := BS.out.kept0 hK
              have x0 := BL.all
              clear BL
              have g := o4 (ready_dep hm 4 (by kernel_rfl))
              refine wpOp_on (b := false) rfl rfl rfl g (fun KK hK2 => ?_)
              go_simp
              exact hK2 (A.put (some 23) (iv c)) _ ⟨hFR.put (by decide) _, o0.q, o1.q, o2.q, o3.q, o4.q, o5.q, o6.q, o7.q, .now (put_eq (by have hz := hsz.out; omega)), o9.q, o10.q, o11.q, o12.q, o13.q, o14.q, o15.q, o16.q, o17.q, o18.q, o19.q, o20.q, o21.q, o22.q, o23.q, o24.q, o25.q, o26.q, o27.q, o28.q, o29.q, hK⟩
            · have e6 := o6 (ready_dep hm 6 (by kernel_rfl))
              have e8 := o8 (ready_dep hm 8 (by kernel_rfl))
              have g := o4 (ready_dep hm 4 (by kernel_rfl))
              refine wpOp_on (b := false) rfl rfl rfl g (fun KK hK2 => ?_)
              go_simp
              refine st (l1In _ _ _ _) ?_
              rw [hI]
              go_simp
              exact hK2 (A.put (some 24) (.bool false)) _ ⟨hFR.put (by decide) _, o0.q, o1.q, o2.q, o3.q, o4.q, o5.q, o6.q, o7.q, o8.q, .now (put_eq (by have hz := hsz.out; omega)), o10.q, o11.q, o12.q, o13.q, o14.q, o15.q, o16.q, o17.q, o18.q, o19.q, o20.q, o21.q, o22.q, o23.q, o24.q, o25.q, o26.q, o27.q, o28.q, o29.q, hK⟩
            · have e9 := o9 (ready_dep hm 9 (by kernel_rfl))
              have g := o4 (ready_dep hm 4 (by kernel_rfl))
              refine wpOp_on (b := false) rfl rfl rfl g (fun KK hK2 => ?_)
              go_simp
              exact hK2 (A.put (some 25) (.bool true)) _ ⟨hFR.put (by decide) _, o0.q, o1.q, o2.q, o3.q, o4.q, o5.q, o6.q, o7.q, o8.q, o9.q, .now (put_eq (by have hz := hsz.out; omega)), o11.q, o12.q, o13.q, o14.q, o15.q, o16.q, o17.q, o18.q, o19.q, o20.q, o21.q, o22.q, o23.q, o24.q, o25.q, o26.q, o27.q, o28.q, o29.q, hK⟩
            · have e4 := o4 (ready_dep hm 4 (by kernel_rfl))
              have e10 := o10 (ready_dep hm 10 (by kernel_rfl))
              refine wpOp_step rfl (fun KK hK2 => ?_)
              go_simp
              exact hK2 (A.put (some 26) (.bool true)) _ ⟨hFR.put (by decide) _, o0.q, o1.q, o2.q, o3.q, o4.q, o5.q, o6.q, o7.q, o8.q, o9.q, o10.q, .now (put_eq (by have hz := hsz.out; omega)), o12.q, o13.q, o14.q, o15.q, o16.q, o17.q, o18.q, o19.q, o20.q, o21.q, o22.q, o23.q, o24.q, o25.q, o26.q, o27.q, o28.q, o29.q, hK⟩
            · have e11 := o11 (ready_dep hm 11 (by kernel_rfl))
              refine wpOp_step rfl (fun KK hK2 => ?_)
              go_simp
              exact hK2 (A.put (some 27) (.bool true)) _ ⟨hFR.put (by decide) _, o0.q, o1.q, o2.q, o3.q, o4.q, o5.q, o6.q, o7.q, o8.q, o9.q, o10.q, o11.q, .now (put_eq (by have hz := hsz.out; omega)), o13.q, o14.q, o15.q, o16.q, o17.q, o18.q, o19.q, o20.q, o21.q, o22.q, o23.q, o24.q, o25.q, o26.q, o27.q, o28.q, o29.q, hK⟩
            · have g := o12 (ready_dep hm 12 (by kernel_rfl))
              refine wpOp_off (b := false) (c := true) rfl rfl rfl g (by decide) ?_
              exact ⟨hFR.put (by decide) _, o0.q, o1.q, o2.q, o3.q, o4.q, o5.q, o6.q, o7.q, o8.q, o9.q, o10.q, o11.q, o12.q, .now (put_eq (by have hz := hsz.out; omega)), o14.q, o15.q, o16.q, o17.q, o18.q, o19.q, o20.q, o21.q, o22.q, o23.q, o24.q, o25.q, o26.q, o27.q, o28.q, o29.q, hK⟩
            · have e13 := o13 (ready_dep hm 13 (by kernel_rfl))
              have g := o12 (ready_dep hm 12 (by kernel_rfl))
              refine wpOp_off (b := false) (c := true) rfl rfl rfl g (by decide) ?_
              exact ⟨hFR.put (by decide) _, o0.q, o1.q, o2.q, o3.q, o4.q, o5.q, o6.q, o7.q, o8.q, o9.q, o10.q, o11.q, o12.q, o13.q, .now (put_eq (by have hz := hsz.out; omega)), o15.q, o16.q, o17.q, o18.q, o19.q, o20.q, o21.q, o22.q, o23.q, o24.q, o25.q, o26.q, o27.q, o28.q, o29.q, hK⟩
            · have e14 := o14 (ready_dep hm 14 (by kernel_rfl))
              have g := o12 (ready_dep hm 12 (by kernel_rfl))
              refine wpOp_off (b := false) (c := true) rfl rfl rfl g (by decide) ?_
              exact ⟨hFR.put (by decide) _, o0.q, o1.q, o2.q, o3.q, o4.q, o5.q, o6.q, o7.q, o8.q, o9.q, o10.q, o11.q, o12.q, o13.q, o14.q, .now (put_eq (by have hz := hsz.out; omega)), o16.q, o17.q, o18.q, o19.q, o20.q, o21.q, o22.q, o23.q, o24.q, o25.q, o26.q, o27.q, o28.q, o29.q, hK⟩
            · have g := o15 (ready_dep hm 15 (by kernel_rfl))
              refine wpOp_offU rfl rfl rfl g ?_
              exact ⟨hFR.put (by decide) _, o0.q, o1.q, o2.q, o3.q, o4.q, o5.q, o6.q, o7.q, o8.q, o9.q, o10.q, o11.q, o12.q, o13.q, o14.q, o15.q, .now (put_eq (by have hz := hsz.out; omega)), o17.q, o18.q, o19.q, o20.q, o21.q, o22.q, o23.q, o24.q, o25.q, o26.q, o27.q, o28.q, o29.q, hK⟩
            · have e16 := o16 (ready_dep hm 16 (by kernel_rfl))
              have g := o15 (ready_dep hm 15 (by kernel_rfl))
              refine wpOp_offU rfl rfl rfl g ?_
              exact ⟨hFR.put (by decide) _, o0.q, o1.q, o2.q, o3.q, o4.q, o5.q, o6.q, o7.q, o8.q, o9.q, o10.q, o11.q, o12.q, o13.q, o14.q, o15.q, o16.q, .now (put_eq (by have hz := hsz.out; omega)), o18.q, o19.q, o20.q, o21.q, o22.q, o23.q, o24.q, o25.q, o26.q, o27.q, o28.q, o29.q, hK⟩
            · have g := o15 (ready_dep hm 15 (by kernel_rfl))
              refine wpOp_offU rfl rfl rfl g ?_
              exact ⟨hFR.put (by decide) _, o0.q, o1.q, o2.q, o3.q, o4.q, o5.q, o6.q, o7.q, o8.q, o9.q, o10.q, o11.q, o12.q, o13.q, o14.q, o15.q, o16.q, o17.q, .now (put_eq (by have hz := hsz.out; omega)), o19.q, o20.q, o21.q, o22.q, o23.q, o24.q, o25.q, o26.q, o27.q, o28.q, o29.q, hK⟩
            · have e18 := o18 (ready_dep hm 18 (by kernel_rfl))
              have g := o15 (ready_dep hm 15 (by kernel_rfl))
              refine wpOp_offU rfl rfl rfl g ?_
              exact ⟨hFR.put (by decide) _, o0.q, o1.q, o2.q, o3.q, o4.q, o5.q, o6.q, o7.q, o8.q, o9.q, o10.q, o11.q, o12.q, o13.q, o14.q, o15.q, o16.q, o17.q, o18.q, .now (put_eq (by have hz := hsz.out; omega)), o20.q, o21.q, o22.q, o23.q, o24.q, o25.q, o26.q, o27.q, o28.q, o29.q, hK⟩
            · have e17 := o17 (ready_dep hm 17 (by kernel_rfl))
              have e19 := o19 (ready_dep hm 19 (by kernel_rfl))
              have g := o15 (ready_dep hm 15 (by kernel_rfl))
              refine wpOp_offU rfl rfl rfl g ?_
              exact ⟨hFR.put (by decide) _, o0.q, o1.q, o2.q, o3.q, o4.q, o5.q, o6.q, o7.q, o8.q, o9.q, o10.q, o11.q, o12.q, o13.q, o14.q, o15.q, o16.q, o17.q, o18.q, o19.q, .now (put_eq (by have hz := hsz.out; omega)), o21.q, o22.q, o23.q, o24.q, o25.q, o26.q, o27.q, o28.q, o29.q, hK⟩
            · have e20 := o20 (ready_dep hm 20 (by kernel_rfl))
              have g := o15 (ready_dep hm 15 (by kernel_rfl))
              refine wpOp_offU rfl rfl rfl g ?_
              exact ⟨hFR.put (by decide) _, o0.q, o1.q, o2.q, o3.q, o4.q, o5.q, o6.q, o7.q, o8.q, o9.q, o10.q, o11.q, o12.q, o13.q, o14.q, o15.q, o16.q, o17.q, o18.q, o19.q, o20.q, .now (put_eq (by have hz := hsz.out; omega)), o22.q, o23.q, o24.q, o25.q, o26.q, o27.q, o28.q, o29.q, hK⟩
            · have e21 := o21 (ready_dep hm 21 (by kernel_rfl))
              have g := o15 (ready_dep hm 15 (by kernel_rfl))
              refine wpOp_offU rfl rfl rfl g ?_
              exact ⟨hFR.put (by decide) _, o0.q, o1.q, o2.q, o3.q, o4.q, o5.q, o6.q, o7.q, o8.q, o9.q, o10.q, o11.q, o12.q, o13.q, o14.q, o15.q, o16.q, o17.q, o18.q, o19.q, o20.q, o21.q, .now (put_eq (by have hz := hsz.out; omega)), o23.q, o24.q, o25.q, o26.q, o27.q, o28.q, o29.q, hK⟩
            · have e22 := o22 (ready_dep hm 22 (by kernel_rfl))
              have g := o15 (ready_dep hm 15 (by kernel_rfl))
              refine wpOp_offU rfl rfl rfl g ?_
              exact ⟨hFR.put (by decide) _, o0.q, o1.q, o2.q, o3.q, o4.q, o5.q, o6.q, o7.q, o8.q, o9.q, o10.q, o11.q, o12.q, o13.q, o14.q, o15.q, o16.q, o17.q, o18.q, o19.q, o20.q, o21.q, o22.q, .now (put_eq (by have hz := hsz.out; omega)), o24.q, o25.q, o26.q, o27.q, o28.q, o29.q, hK⟩
            · have g := o15 (ready_dep hm 15 (by kernel_rfl))
              refine wpOp_offU rfl rfl rfl g ?_
              exact ⟨hFR.put (by decide) _, o0.q, o1.q, o2.q, o3.q, o4.q, o5.q, o6.q, o7.q, o8.q, o9.q, o10.q, o11.q, o12.q, o13.q, o14.q, o15.q, o16.q, o17.q, o18.q, o19.q, o20.q, o21.q, o22.q, o23.q, .now (put_eq (by have hz := hsz.out; omega)), o25.q, o26.q, o27.q, o28.q, o29.q, hK⟩
            · have e24 := o24 (ready_dep hm 24 (by kernel_rfl))
              have g := o15 (ready_dep hm 15 (by kernel_rfl))
              refine wpOp_offU rfl rfl rfl g ?_
              exact ⟨hFR.put (by decide) _, o0.q, o1.q, o2.q, o3.q, o4.q, o5.q, o6.q, o7.q, o8.q, o9.q, o10.q, o11.q, o12.q, o13.q, o14.q, o15.q, o16.q, o17.q, o18.q, o19.q, o20.q, o21.q, o22.q, o23.q, o24.q, .now (put_eq (by have hz := hsz.out; omega)), o26.q, o27.q, o28.q, o29.q, hK⟩
            · have e25 := o25 (ready_dep hm 25 (by kernel_rfl))
              have g := o15 (ready_dep hm 15 (by kernel_rfl))
              refine wpOp_offU rfl rfl rfl g ?_
              exact ⟨hFR.put (by decide) _, o0.q, o1.q, o2.q, o3.q, o4.q, o5.q, o6.q, o7.q, o8.q, o9.q, o10.q, o11.q, o12.q, o13.q, o14.q, o15.q, o16.q, o17.q, o18.q, o19.q, o20.q, o21.q, o22.q, o23.q, o24.q, o25.q, .now (put_eq (by have hz := hsz.out; omega)), o27.q, o28.q, o29.q, hK⟩
            · have e23 := o23 (ready_dep hm 23 (by kernel_rfl))
              have e26 := o26 (ready_dep hm 26 (by kernel_rfl))
              have g := o15 (ready_dep hm 15 (by kernel_rfl))
              refine wpOp_offU rfl rfl rfl g ?_
              exact ⟨hFR.put (by decide) _, o0.q, o1.q, o2.q, o3.q, o4.q, o5.q, o6.q, o7.q, o8.q, o9.q, o10.q, o11.q, o12.q, o13.q, o14.q, o15.q, o16.q, o17.q, o18.q, o19.q, o20.q, o21.q, o22.q, o23.q, o24.q, o25.q, o26.q, .now (put_eq (by have hz := hsz.out; omega)), o28.q, o29.q, hK⟩
            · have e15 := o15 (ready_dep hm 15 (by kernel_rfl))
              have g := o12 (ready_dep hm 12 (by kernel_rfl))
              refine wpOp_off (b := false) (c := true) rfl rfl rfl g (by decide) ?_
              exact ⟨hFR.put (by decide) _, o0.q, o1.q, o2.q, o3.q, o4.q, o5.q, o6.q, o7.q, o8.q, o9.q, o10.q, o11.q, o12.q, o13.q, o14.q, o15.q, o16.q, o17.q, o18.q, o19.q, o20.q, o21.q, o22.q, o23.q, o24.q, o25.q, o26.q, o27.q, .now (put_eq (by have hz := hsz.out; omega)), o29.q, hK⟩
            · have e12 := o12 (ready_dep hm 12 (by kernel_rfl))
              refine wpOp_step rfl (fun KK hK2 => ?_)
              go_simp
              exact hK2 (A.put (some 44) (.bool true)) _ ⟨hFR.put (by decide) _, o0.q, o1.q, o2.q, o3.q, o4.q, o5.q, o6.q, o7.q, o8.q, o9.q, o10.q, o11.q, o12.q, o13.q, o14.q, o15.q, o16.q, o17.q, o18.q, o19.q, o20.q, o21.q, o22.q, o23.q, o24.q, o25.q, o26.q, o27.q, o28.q, .now (put_eq (by have hz := hsz.out; omega)), hK⟩
            · simp at hi1
              omega
        · cases hz : decide (0 < k)
          · have hk0 : Hid (k = 0) := hide (by simp at hz; omega)
            refine wp_region_inv2 (fun A0 l A W => FR [15, 16, 17, 18, 19, 20, 21, 22, 23, 24, 25, 26, 27, 28, 29, 30, 31, 32, 33, 34, 35, 36, 37, 38, 39, 40, 41, 42, 43, 44] A0 A ∧ Once l 0 (A.tmps[15]? = some (.pointer (some ⟨wr.heap.size, 0, none⟩))) ∧ Once l 1 (A.tmps[16]? = some (.agg #[iv (Pl.ck us k).f, iv (Pl.ck us k).t, .slice b1 (Pl.ck us k).n cb1])) ∧ Once l 2 (A.tmps[17]? = some (.bool true)) ∧ Once l 3 (A.tmps[18]? = some (.bool false)) ∧ Once l 4 (A.tmps[19]? = some (.bool false)) ∧ Once l 5 (A.tmps[20]? = some (.pointer (some ⟨wr.heap.size, 3, none⟩))) ∧ Once l 6 (A.tmps[21]? = some (iv (Pl.ck us k).u)) ∧ Once l 7 (A.tmps[22]? = some (.pointer (some ⟨w.heap.size, 1, none⟩))) ∧ Once l 8 (A.tmps[23]? = some (iv c)) ∧ Once l 9 (A.tmps[24]? = some (.bool true)) ∧ Once l 10 (A.tmps[25]? = some (.bool false)) ∧ Once l 11 (A.tmps[26]? = some (.bool false)) ∧ Once l 12 (A.tmps[27]? = some (.bool false)) ∧ Once l 13 (A.tmps[28]? = some (iv ((k : Nat) : Int))) ∧ Once l 14 (A.tmps[29]? = some (.bool false)) ∧ Once l 15 (A.tmps[30]? = some (.bool false)) ∧ Once l 16 (A.tmps[31]? = some (undef)) ∧ Once l 17 (A.tmps[32]? = some (undef)) ∧ Once l 18 (A.tmps[33]? = some (undef)) ∧ Once l 19 (A.tmps[34]? = some (undef)) ∧ Once l 20 (A.tmps[35]? = some (undef)) ∧ Once l 21 (A.tmps[36]? = some (undef)) ∧ Once l 22 (A.tmps[37]? = some (undef)) ∧ Once l 23 (A.tmps[38]? = some (undef)) ∧ Once l 24 (A.tmps[39]? = some (undef)) ∧ Once l 25 (A.tmps[40]? = some (undef)) ∧ Once l 26 (A.tmps[41]? = some (undef)) ∧ Once l 27 (A.tmps[42]? = some (undef)) ∧ Once l 28 (A.tmps[43]? = some (.bool false)) ∧ Once l 29 (A.tmps[44]? = some (.bool false)) ∧ Kept 0 0 (wr.alloc (.cells #[iv (Pl.ck us k).f, iv (Pl.ck us k).t, .slice b1 (Pl.ck us k).n cb1, iv (Pl.ck us k).u] 101)) W) (by kernel_rfl) (by kernel_rfl) ?start ?fin ?step
            case start => exact ⟨FR.refl _ _, once_start (by decide), once_start (by decide), once_start (by decide), once_start (by decide), once_start (by decide), once_start (by decide), once_start (by decide), once_start (by decide), once_start (by decide), once_start (by decide), once_start (by decide), once_start (by decide), once_start (by decide), once_start (by decide), once_start (by decide), once_start (by decide), once_start (by decide), once_start (by decide), once_start (by decide), once_start (by decide), once_start (by decide), once_start (by decide), once_start (by decide), once_start (by decide), once_start (by decide), once_start (by decide), once_start (by decide), once_start (by decide), once_start (by decide), once_start (by decide), kept_drew (Kept.refl _ _ _)⟩
            case fin =>
              intro l A W h hl
              obtain ⟨hFR, o0, o1, o2, o3, o4, o5, o6, o7, o8, o9, o10, o11, o12, o13, o14, o15, o16, o17, o18, o19, o20, o21, o22, o23, o24, o25, o26, o27, o28, o29, hK⟩ := h
              have g29 := o29 (hl 29 (by decide))
              have QQ := hide hK
              have hc9 := hFR.chain
              simp only [List.foldl] at hc9
              rw [getD_of g29] at hc9
              clear hl hK hFR g29 o0 o1 o2 o3 o4 o5 o6 o7 o8 o9 o10 o11 o12 o13 o14 o15 o16 o17 o18 o19 o20 o21 o22 o23 o24 o25 o26 o27 o28 o29
              generalize A.tmps.getD 15 undef = s15 at hc9
              generalize A.tmps.getD 16 undef = s16 at hc9
              generalize A.tmps.getD 17 undef = s17 at hc9
              generalize A.tmps.getD 18 undef = s18 at hc9
              generalize A.tmps.getD 19 undef = s19 at hc9
              generalize A.tmps.getD 20 undef = s20 at hc9
              generalize A.tmps.getD 21 undef = s21 at hc9
              generalize A.tmps.getD 22 undef = s22 at hc9
              generalize A.tmps.getD 23 undef = s23 at hc9
              generalize A.tmps.getD 24 undef = s24 at hc9
              generalize A.tmps.getD 25 undef = s25 at hc9
              generalize A.tmps.getD 26 undef = s26 at hc9
              generalize A.tmps.getD 27 undef = s27 at hc9
              generalize A.tmps.getD 28 undef = s28 at hc9
              generalize A.tmps.getD 29 undef = s29 at hc9
              generalize A.tmps.getD 30 undef = s30 at hc9
              generalize A.tmps.getD 31 undef = s31 at hc9
              generalize A.tmps.getD 32 undef = s32 at hc9
              generalize A.tmps.getD 33 undef = s33 at hc9
              generalize A.tmps.getD 34 undef = s34 at hc9
              generalize A.tmps.getD 35 undef = s35 at hc9
              generalize A.tmps.getD 36 undef = s36 at hc9
              generalize A.tmps.getD 37 undef = s37 at hc9
              generalize A.tmps.getD 38 undef = s38 at hc9
              generalize A.tmps.getD 39 undef = s39 at hc9
              generalize A.tmps.getD 40 undef = s40 at hc9
              generalize A.tmps.getD 41 undef = s41 at hc9
              generalize A.tmps.getD 42 undef = s42 at hc9
              generalize A.tmps.getD 43 undef = s43 at hc9
              subst hc9
              go_simp
              have BX5 := hide (BX.out.kept0 QQ.out)
              have BS5 := hide (BS.out.kept0 QQ.out)
              have x5 := BX5.out.all
              have y5 := BS5.out.all
              have hk1 : (0 : Int) ≤ ((k : Nat) : Int) := by omega
              have hk2 : ((k : Nat) : Int) ≤ (ca : Int) := by omega
              have hk3 : k ≤ ca := by omega
              go_wp2
              go_loopw [50] (fun v wy => ∃ j : Nat, j ≤ k ∧ v = .int .i64 j ∧ (∀ i, i < j → (Pl.ck us i).u ≠ (Pl.ck us k).u) ∧ Kept 0 0 W wy) (fun v _ => k - (intOf v).toNat)
              case atStart => exact ⟨0, Nat.zero_le _, rfl, fun i hi => absurd hi (Nat.not_lt_zero i), Kept.refl _ _ _⟩
              case round =>
                obtain ⟨j, hj, rfl, hne, hky⟩ := hrel
                have HNE := hide hne
                have HY := hide ((HKX.out.trans QQ.out).trans hky)
                have HY2 := hide hky
                have HY3 := hide ((HKY.out.trans QQ.out).trans hky)
                clear hne x5 y5
                by_cases hlj : j < k
                · obtain ⟨g8, of8, b2, cb2, e8, q0, q1, q2, q3, qm⟩ := (HA.out.keptS HY.out).at4 (k := j) (by omega)
                  cases e8
                  have BX6 := hide ((BX5.out.kept0 hky).alloc (.cells #[iv (Pl.ck us j).f, iv (Pl.ck us j).t, .slice b2 (Pl.ck us j).n cb2, iv (Pl.ck us j).u] 101))
                  have x6 := BX6.out.all
                  clear hky qm
                  cases hu : ((Pl.ck us j).u == (Pl.ck us k).u)
                  · go_wp2_with fail
                    go_roundw
                    case rel => exact ⟨j + 1, by omega, by go_num, snoc_all HNE.out (by simpa using hu), kept_new HY2.out _⟩
                    case measure => simp [intOf]; omega
                  · have E : Hid (Pl.goodS r c us = false) := hide (Pl.goodS_no fun h => by have h2 := (h.ok (k) hlu).2.2 j hlj; simp at hu; exact h2 hu)
                    go_wp2_with fail
                    go_ret
                    exact ⟨rB E.out.symm, kept_new HY.out _⟩
                · have HNE2 : Hid (∀ i, i < k → (Pl.ck us i).u ≠ (Pl.ck us k).u) := hide (fun i hi => HNE.out i (by omega))
                  clear hky
                  go_wp2_with fail
                  go_roundw
                  case rel => exact ⟨k + 1, by omega, by go_num, snoc_all HL.out ⟨by unfold Pl.goodC; rw [hG, hI]; rfl, fun q => absurd q (by have := hk0.out; omega), HNE2.out⟩, HY3.out⟩
                  case measure => simp [intOf]; omega
            case step =>
              intro l A W i hI hm
              obtain ⟨hFR, o0, o1, o2, o3, o4, o5, o6, o7, o8, o9, o10, o11, o12, o13, o14, o15, o16, o17, o18, o19, o20, o21, o22, o23, o24, o25, o26, o27, o28, o29, hK⟩ := hI
              obtain ⟨hi1, hi2⟩ := ready_new hm
              have hsz : Hid (44 < A.tmps.size) := hide (by rw [hFR.size]; simp)
              have m1 : A.tmps[1]? = some (.pointer (some ⟨w.heap.size, 0, none⟩)) := (hFR.out 1 (by decide)).trans rfl
              have m3 : A.tmps[3]? = some (.int .i64 ((k : Nat) : Int)) := (hFR.out 3 (by decide)).trans rfl
              have m4 : A.tmps[4]? = some (.pointer (some ⟨wr.heap.size, 0, none⟩)) := (hFR.out 4 (by decide)).trans rfl
              rcases i with _ | _ | _ | _ | _ | _ | _ | _ | _ | _ | _ | _ | _ | _ | _ | _ | _ | _ | _ | _ | _ | _ | _ | _ | _ | _ | _ | _ | _ | _ | i
              · refine wpOp_step rfl (fun KK hK2 => ?_)
                go_simp
                exact hK2 (A.put (some 15) (.pointer (some ⟨wr.heap.size, 0, none⟩))) _ ⟨hFR.put (by decide) _, .now (put_eq (by have hz := hsz.out; omega)), o1.q, o2.q, o3.q, o4.q, o5.q, o6.q, o7.q, o8.q, o9.q, o10.q, o11.q, o12.q, o13.q, o14.q, o15.q, o16.q, o17.q, o18.q, o19.q, o20.q, o21.q, o22.q, o23.q, o24.q, o25.q, o26.q, o27.q, o28.q, o29.q, hK⟩
              · have e0 := o0 (ready_dep hm 0 (by kernel_rfl))
                have BL := BX.out.kept0 hK
                have x0 := BL.all
                clear BL
                refine wpOp_step rfl (fun KK hK2 => ?_)
                go_simp
                exact hK2 (A.put (some 16) (.agg #[iv (Pl.ck us k).f, iv (Pl.ck us k).t, .slice b1 (Pl.ck us k).n cb1])) _ ⟨hFR.put (by decide) _, o0.q, .now (put_eq (by have hz := hsz.out; omega)), o2.q, o3.q, o4.q, o5.q, o6.q, o7.q, o8.q, o9.q, o10.q, o11.q, o12.q, o13.q, o14.q, o15.q, o16.q, o17.q, o18.q, o19.q, o20.q, o21.q, o22.q, o23.q, o24.q, o25.q, o26.q, o27.q, o28.q, o29.q, hK⟩
              · have e1 := o1 (ready_dep hm 1 (by kernel_rfl))
                refine wpOp_step rfl (fun KK hK2 => ?_)
                go_simp
                refine (specGoodUnit _ _ _ _ _ _ _ _ _ (PM.out.keptS hK) ok1.ly bk).mono ?_
                rw [hG]
                rintro e9 W9 ⟨rfl, k9⟩
                go_simp
                exact hK2 (A.put (some 17) (.bool true)) _ ⟨hFR.put (by decide) _, o0.q, o1.q, .now (put_eq (by have hz := hsz.out; omega)), o3.q, o4.q, o5.q, o6.q, o7.q, o8.q, o9.q, o10.q, o11.q, o12.q, o13.q, o14.q, o15.q, o16.q, o17.q, o18.q, o19.q, o20.q, o21.q, o22.q, o23.q, o24.q, o25.q, o26.q, o27.q, o28.q, o29.q, (hK.trans k9)⟩
              · have e2 := o2 (ready_dep hm 2 (by kernel_rfl))
                refine wpOp_step rfl (fun KK hK2 => ?_)
                go_simp
                exact hK2 (A.put (some 18) (.bool false)) _ ⟨hFR.put (by decide) _, o0.q, o1.q, o2.q, .now (put_eq (by have hz := hsz.out; omega)), o4.q, o5.q, o6.q, o7.q, o8.q, o9.q, o10.q, o11.q, o12.q, o13.q, o14.q, o15.q, o16.q, o17.q, o18.q, o19.q, o20.q, o21.q, o22.q, o23.q, o24.q, o25.q, o26.q, o27.q, o28.q, o29.q, hK⟩
              · have e3 := o3 (ready_dep hm 3 (by kernel_rfl))
                refine wpOp_step rfl (fun KK hK2 => ?_)
                go_simp
                exact hK2 (A.put (some 19) (.bool false)) _ ⟨hFR.put (by decide) _, o0.q, o1.q, o2.q, o3.q, .now (put_eq (by have hz := hsz.out; omega)), o5.q, o6.q, o7.q, o8.q, o9.q, o10.q, o11.q, o12.q, o13.q, o14.q, o15.q, o16.q, o17.q, o18.q, o19.q, o20.q, o21.q, o22.q, o23.q, o24.q, o25.q, o26.q, o27.q, o28.q, o29.q, hK⟩
              · have g := o4 (ready_dep hm 4 (by kernel_rfl))
                refine wpOp_on (b := false) rfl rfl rfl g (fun KK hK2 => ?_)
                go_simp
                exact hK2 (A.put (some 20) (.pointer (some ⟨wr.heap.size, 3, none⟩))) _ ⟨hFR.put (by decide) _, o0.q, o1.q, o2.q, o3.q, o4.q, .now (put_eq (by have hz := hsz.out; omega)), o6.q, o7.q, o8.q, o9.q, o10.q, o11.q, o12.q, o13.q, o14.q, o15.q, o16.q, o17.q, o18.q, o19.q, o20.q, o21.q, o22.q, o23.q, o24.q, o25.q, o26.q, o27.q, o28.q, o29.q, hK⟩
              · have e5 := o5 (ready_dep hm 5 (by kernel_rfl))
                have BL := BX.out.kept0 hK
                have x0 := BL.all
                clear BL
                have g := o4 (ready_dep hm 4 (by kernel_rfl))
                refine wpOp_on (b := false) rfl rfl rfl g (fun KK hK2 => ?_)
                go_simp
                exact hK2 (A.put (some 21) (iv (Pl.ck us k).u)) _ ⟨hFR.put (by decide) _, o0.q, o1.q, o2.q, o3.q, o4.q, o5.q, .now (put_eq (by have hz := hsz.out; omega)), o7.q, o8.q, o9.q, o10.q, o11.q, o12.q, o13.q, o14.q, o15.q, o16.q, o17.q, o18.q, o19.q, o20.q, o21.q, o22.q, o23.q, o24.q, o25.q, o26.q, o27.q, o28.q, o29.q, hK⟩
              · have g := o4 (ready_dep hm 4 (by kernel_rfl))
                refine wpOp_on (b := false) rfl rfl rfl g (fun KK hK2 => ?_)
                go_simp
                exact hK2 (A.put (some 22) (.pointer (some ⟨w.heap.size, 1, none⟩))) _ ⟨hFR.put (by decide) _, o0.q, o1.q, o2.q, o3.q, o4.q, o5.q, o6.q, .now (put_eq (by have hz := hsz.out; omega)), o8.q, o9.q, o10.q, o11.q, o12.q, o13.q, o14.q, o15.q, o16.q, o17.q, o18.q, o19.q, o20.q, o21.q, o22.q, o23.q, o24.q, o25.q, o26.q, o27.q, o28.q, o29.q, hK⟩
              · have e7 := o7 (ready_dep hm 7 (by kernel_rfl))
                have BL := BS.out.kept0 hK
                have x0 := BL.all
                clear BL
                have g := o4 (ready_dep hm 4 (by kernel_rfl))
                refine wpOp_on (b := false) rfl rfl rfl g (fun KK hK2 => ?_)
                go_simp
                exact hK2 (A.put (some 23) (iv c)) _ ⟨hFR.put (by decide) _, o0.q, o1.q, o2.q, o3.q, o4.q, o5.q, o6.q, o7.q, .now (put_eq (by have hz := hsz.out; omega)), o9.q, o10.q, o11.q, o12.q, o13.q, o14.q, o15.q, o16.q, o17.q, o18.q, o19.q, o20.q, o21.q, o22.q, o23.q, o24.q, o25.q, o26.q, o27.q, o28.q, o29.q, hK⟩
              · have e6 := o6 (ready_dep hm 6 (by kernel_rfl))
                have e8 := o8 (ready_dep hm 8 (by kernel_rfl))
                have g := o4 (ready_dep hm 4 (by kernel_rfl))
                refine wpOp_on (b := false) rfl rfl rfl g (fun KK hK2 => ?_)
                go_simp
                refine st (l1In _ _ _ _) ?_
                rw [hI]
                go_simp
                exact hK2 (A.put (some 24) (.bool true)) _ ⟨hFR.put (by decide) _, o0.q, o1.q, o2.q, o3.q, o4.q, o5.q, o6.q, o7.q, o8.q, .now (put_eq (by have hz := hsz.out; omega)), o10.q, o11.q, o12.q, o13.q, o14.q, o15.q, o16.q, o17.q, o18.q, o19.q, o20.q, o21.q, o22.q, o23.q, o24.q, o25.q, o26.q, o27.q, o28.q, o29.q, hK⟩
              · have e9 := o9 (ready_dep hm 9 (by kernel_rfl))
                have g := o4 (ready_dep hm 4 (by kernel_rfl))
                refine wpOp_on (b := false) rfl rfl rfl g (fun KK hK2 => ?_)
                go_simp
                exact hK2 (A.put (some 25) (.bool false)) _ ⟨hFR.put (by decide) _, o0.q, o1.q, o2.q, o3.q, o4.q, o5.q, o6.q, o7.q, o8.q, o9.q, .now (put_eq (by have hz := hsz.out; omega)), o11.q, o12.q, o13.q, o14.q, o15.q, o16.q, o17.q, o18.q, o19.q, o20.q, o21.q, o22.q, o23.q, o24.q, o25.q, o26.q, o27.q, o28.q, o29.q, hK⟩
              · have e4 := o4 (ready_dep hm 4 (by kernel_rfl))
                have e10 := o10 (ready_dep hm 10 (by kernel_rfl))
                refine wpOp_step rfl (fun KK hK2 => ?_)
                go_simp
                exact hK2 (A.put (some 26) (.bool false)) _ ⟨hFR.put (by decide) _, o0.q, o1.q, o2.q, o3.q, o4.q, o5.q, o6.q, o7.q, o8.q, o9.q, o10.q, .now (put_eq (by have hz := hsz.out; omega)), o12.q, o13.q, o14.q, o15.q, o16.q, o17.q, o18.q, o19.q, o20.q, o21.q, o22.q, o23.q, o24.q, o25.q, o26.q, o27.q, o28.q, o29.q, hK⟩
              · have e11 := o11 (ready_dep hm 11 (by kernel_rfl))
                refine wpOp_step rfl (fun KK hK2 => ?_)
                go_simp
                exact hK2 (A.put (some 27) (.bool false)) _ ⟨hFR.put (by decide) _, o0.q, o1.q, o2.q, o3.q, o4.q, o5.q, o6.q, o7.q, o8.q, o9.q, o10.q, o11.q, .now (put_eq (by have hz := hsz.out; omega)), o13.q, o14.q, o15.q, o16.q, o17.q, o18.q, o19.q, o20.q, o21.q, o22.q, o23.q, o24.q, o25.q, o26.q, o27.q, o28.q, o29.q, hK⟩
              · have g := o12 (ready_dep hm 12 (by kernel_rfl))
                refine wpOp_on (b := false) rfl rfl rfl g (fun KK hK2 => ?_)
                go_simp
                exact hK2 (A.put (some 28) (iv ((k : Nat) : Int))) _ ⟨hFR.put (by decide) _, o0.q, o1.q, o2.q, o3.q, o4.q, o5.q, o6.q, o7.q, o8.q, o9.q, o10.q, o11.q, o12.q, .now (put_eq (by have hz := hsz.out; omega)), o14.q, o15.q, o16.q, o17.q, o18.q, o19.q, o20.q, o21.q, o22.q, o23.q, o24.q, o25.q, o26.q, o27.q, o28.q, o29.q, hK⟩
              · have e13 := o13 (ready_dep hm 13 (by kernel_rfl))
                have g := o12 (ready_dep hm 12 (by kernel_rfl))
                refine wpOp_on (b := false) rfl rfl rfl g (fun KK hK2 => ?_)
                go_simp
                try rw [hz]
                exact hK2 (A.put (some 29) (.bool false)) _ ⟨hFR.put (by decide) _, o0.q, o1.q, o2.q, o3.q, o4.q, o5.q, o6.q, o7.q, o8.q, o9.q, o10.q, o11.q, o12.q, o13.q, .now (put_eq (by have hz := hsz.out; omega)), o15.q, o16.q, o17.q, o18.q, o19.q, o20.q, o21.q, o22.q, o23.q, o24.q, o25.q, o26.q, o27.q, o28.q, o29.q, hK⟩
              · have e14 := o14 (ready_dep hm 14 (by kernel_rfl))
                have g := o12 (ready_dep hm 12 (by kernel_rfl))
                refine wpOp_on (b := false) rfl rfl rfl g (fun KK hK2 => ?_)
                go_simp
                exact hK2 (A.put (some 30) (.bool false)) _ ⟨hFR.put (by decide) _, o0.q, o1.q, o2.q, o3.q, o4.q, o5.q, o6.q, o7.q, o8.q, o9.q, o10.q, o11.q, o12.q, o13.q, o14.q, .now (put_eq (by have hz := hsz.out; omega)), o16.q, o17.q, o18.q, o19.q, o20.q, o21.q, o22.q, o23.q, o24.q, o25.q, o26.q, o27.q, o28.q, o29.q, hK⟩
              · have g := o15 (ready_dep hm 15 (by kernel_rfl))
                refine wpOp_off (b := true) (c := false) rfl rfl rfl g (by decide) ?_
                exact ⟨hFR.put (by decide) _, o0.q, o1.q, o2.q, o3.q, o4.q, o5.q, o6.q, o7.q, o8.q, o9.q, o10.q, o11.q, o12.q, o13.q, o14.q, o15.q, .now (put_eq (by have hz := hsz.out; omega)), o17.q, o18.q, o19.q, o20.q, o21.q, o22.q, o23.q, o24.q, o25.q, o26.q, o27.q, o28.q, o29.q, hK⟩
              · have e16 := o16 (ready_dep hm 16 (by kernel_rfl))
                have g := o15 (ready_dep hm 15 (by kernel_rfl))
                refine wpOp_off (b := true) (c := false) rfl rfl rfl g (by decide) ?_
                exact ⟨hFR.put (by decide) _, o0.q, o1.q, o2.q, o3.q, o4.q, o5.q, o6.q, o7.q, o8.q, o9.q, o10.q, o11.q, o12.q, o13.q, o14.q, o15.q, o16.q, .now (put_eq (by have hz := hsz.out; omega)), o18.q, o19.q, o20.q, o21.q, o22.q, o23.q, o24.q, o25.q, o26.q, o27.q, o28.q, o29.q, hK⟩
              · have g := o15 (ready_dep hm 15 (by kernel_rfl))
                refine wpOp_off (b := true) (c := false) rfl rfl rfl g (by decide) ?_
                exact ⟨hFR.put (by decide) _, o0.q, o1.q, o2.q, o3.q, o4.q, o5.q, o6.q, o7.q, o8.q, o9.q, o10.q, o11.q, o12.q, o13.q, o14.q, o15.q, o16.q, o17.q, .now (put_eq (by have hz := hsz.out; omega)), o19.q, o20.q, o21.q, o22.q, o23.q, o24.q, o25.q, o26.q, o27.q, o28.q, o29.q, hK⟩
              · have e18 := o18 (ready_dep hm 18 (by kernel_rfl))
                have g := o15 (ready_dep hm 15 (by kernel_rfl))
                refine wpOp_off (b := true) (c := false) rfl rfl rfl g (by decide) ?_
                exact ⟨hFR.put (by decide) _, o0.q, o1.q, o2.q, o3.q, o4.q, o5.q, o6.q, o7.q, o8.q, o9.q, o10.q, o11.q, o12.q, o13.q, o14.q, o15.q, o16.q, o17.q, o18.q, .now (put_eq (by have hz := hsz.out; omega)), o20.q, o21.q, o22.q, o23.q, o24.q, o25.q, o26.q, o27.q, o28.q, o29.q, hK⟩
              · have e17 := o17 (ready_dep hm 17 (by kernel_rfl))
                have e19 := o19 (ready_dep hm 19 (by kernel_rfl))
                have g := o15 (ready_dep hm 15 (by kernel_rfl))
                refine wpOp_off (b := true) (c := false) rfl rfl rfl g (by decide) ?_
                exact ⟨hFR.put (by decide) _, o0.q, o1.q, o2.q, o3.q, o4.q, o5.q, o6.q, o7.q, o8.q, o9.q, o10.q, o11.q, o12.q, o13.q, o14.q, o15.q, o16.q, o17.q, o18.q, o19.q, .now (put_eq (by have hz := hsz.out; omega)), o21.q, o22.q, o23.q, o24.q, o25.q, o26.q, o27.q, o28.q, o29.q, hK⟩
              · have e20 := o20 (ready_dep hm 20 (by kernel_rfl))
                have g := o15 (ready_dep hm 15 (by kernel_rfl))
                refine wpOp_off (b := true) (c := false) rfl rfl rfl g (by decide) ?_
                exact ⟨hFR.put (by decide) _, o0.q, o1.q, o2.q, o3.q, o4.q, o5.q, o6.q, o7.q, o8.q, o9.q, o10.q, o11.q, o12.q, o13.q, o14.q, o15.q, o16.q, o17.q, o18.q, o19.q, o20.q, .now (put_eq (by have hz := hsz.out; omega)), o22.q, o23.q, o24.q, o25.q, o26.q, o27.q, o28.q, o29.q, hK⟩
              · have e21 := o21 (ready_dep hm 21 (by kernel_rfl))
                have g := o15 (ready_dep hm 15 (by kernel_rfl))
                refine wpOp_off (b := true) (c := false) rfl rfl rfl g (by decide) ?_
                exact ⟨hFR.put (by decide) _, o0.q, o1.q, o2.q, o3.q, o4.q, o5.q, o6.q, o7.q, o8.q, o9.q, o10.q, o11.q, o12.q, o13.q, o14.q, o15.q, o16.q, o17.q, o18.q, o19.q, o20.q, o21.q, .now (put_eq (by have hz := hsz.out; omega)), o23.q, o24.q, o25.q, o26.q, o27.q, o28.q, o29.q, hK⟩
              · have e22 := o22 (ready_dep hm 22 (by kernel_rfl))
                have g := o15 (ready_dep hm 15 (by kernel_rfl))
                refine wpOp_off (b := true) (c := false) rfl rfl rfl g (by decide) ?_
                exact ⟨hFR.put (by decide) _, o0.q, o1.q, o2.q, o3.q, o4.q, o5.q, o6.q, o7.q, o8.q, o9.q, o10.q, o11.q, o12.q, o13.q, o14.q, o15.q, o16.q, o17.q, o18.q, o19.q, o20.q, o21.q, o22.q, .now (put_eq (by have hz := hsz.out; omega)), o24.q, o25.q, o26.q, o27.q, o28.q, o29.q, hK⟩
              · have g := o15 (ready_dep hm 15 (by kernel_rfl))
                refine wpOp_off (b := true) (c := false) rfl rfl rfl g (by decide) ?_
                exact ⟨hFR.put (by decide) _, o0.q, o1.q, o2.q, o3.q, o4.q, o5.q, o6.q, o7.q, o8.q, o9.q, o10.q, o11.q, o12.q, o13.q, o14.q, o15.q, o16.q, o17.q, o18.q, o19.q, o20.q, o21.q, o22.q, o23.q, .now (put_eq (by have hz := hsz.out; omega)), o25.q, o26.q, o27.q, o28.q, o29.q, hK⟩
              · have e24 := o24 (ready_dep hm 24 (by kernel_rfl))
                have g := o15 (ready_dep hm 15 (by kernel_rfl))
                refine wpOp_off (b := true) (c := false) rfl rfl rfl g (by decide) ?_
                exact ⟨hFR.put (by decide) _, o0.q, o1.q, o2.q, o3.q, o4.q, o5.q, o6.q, o7.q, o8.q, o9.q, o10.q, o11.q, o12.q, o13.q, o14.q, o15.q, o16.q, o17.q, o18.q, o19.q, o20.q, o21.q, o22.q, o23.q, o24.q, .now (put_eq (by have hz := hsz.out; omega)), o26.q, o27.q, o28.q, o29.q, hK⟩
              · have e25 := o25 (ready_dep hm 25 (by kernel_rfl))
                have g := o15 (ready_dep hm 15 (by kernel_rfl))
                refine wpOp_off (b := true) (c := false) rfl rfl rfl g (by decide) ?_
                exact ⟨hFR.put (by decide) _, o0.q, o1.q, o2.q, o3.q, o4.q, o5.q, o6.q, o7.q, o8.q, o9.q, o10.q, o11.q, o12.q, o13.q, o14.q, o15.q, o16.q, o17.q, o18.q, o19.q, o20.q, o21.q, o22.q, o23.q, o24.q, o25.q, .now (put_eq (by have hz := hsz.out; omega)), o27.q, o28.q, o29.q, hK⟩
              · have e23 := o23 (ready_dep hm 23 (by kernel_rfl))
                have e26 := o26 (ready_dep hm 26 (by kernel_rfl))
                have g := o15 (ready_dep hm 15 (by kernel_rfl))
                refine wpOp_off (b := true) (c := false) rfl rfl rfl g (by decide) ?_
                exact ⟨hFR.put (by decide) _, o0.q, o1.q, o2.q, o3.q, o4.q, o5.q, o6.q, o7.q, o8.q, o9.q, o10.q, o11.q, o12.q, o13.q, o14.q, o15.q, o16.q, o17.q, o18.q, o19.q, o20.q, o21.q, o22.q, o23.q, o24.q, o25.q, o26.q, .now (put_eq (by have hz := hsz.out; omega)), o28.q, o29.q, hK⟩
              · have e15 := o15 (ready_dep hm 15 (by kernel_rfl))
                have g := o12 (ready_dep hm 12 (by kernel_rfl))
                refine wpOp_on (b := false) rfl rfl rfl g (fun KK hK2 => ?_)
                go_simp
                exact hK2 (A.put (some 43) (.bool false)) _ ⟨hFR.put (by decide) _, o0.q, o1.q, o2.q, o3.q, o4.q, o5.q, o6.q, o7.q, o8.q, o9.q, o10.q, o11.q, o12.q, o13.q, o14.q, o15.q, o16.q, o17.q, o18.q, o19.q, o20.q, o21.q, o22.q, o23.q, o24.q, o25.q, o26.q, o27.q, .now (put_eq (by have hz := hsz.out; omega)), o29.q, hK⟩
              · have e12 := o12 (ready_dep hm 12 (by kernel_rfl))
                have e28 := o28 (ready_dep hm 28 (by kernel_rfl))
                refine wpOp_step rfl (fun KK hK2 => ?_)
                go_simp
                exact hK2 (A.put (some 44) (.bool false)) _ ⟨hFR.put (by decide) _, o0.q, o1.q, o2.q, o3.q, o4.q, o5.q, o6.q, o7.q, o8.q, o9.q, o10.q, o11.q, o12.q, o13.q, o14.q, o15.q, o16.q, o17.q, o18.q, o19.q, o20.q, o21.q, o22.q, o23.q, o24.q, o25.q, o26.q, o27.q, o28.q, .now (put_eq (by have hz := hsz.out; omega)), hK⟩
              · simp at hi1
                omega
          · obtain ⟨m, rfl⟩ : ∃ m, k = m + 1 := ⟨k - 1, by simp at hz; omega⟩
            have ew2 : IntKind.i64.wrap (m : Int) = (m : Int) := by rw [IntKind.wrap_i64]; omega
            cases hF : decide ((Pl.ck us (m + 1)).f ≤ (Pl.ck us m).f)
            · skip
              refine wp_region_inv2 (fun A0 l A W => FR [15, 16, 17, 18, 19, 20, 21, 22, 23, 24, 25, 26, 27, 28, 29, 30, 31, 32, 33, 34, 35, 36, 37, 38, 39, 40, 41, 42, 43, 44] A0 A ∧ Once l 0 (A.tmps[15]? = some (.pointer (some ⟨wr.heap.size, 0, none⟩))) ∧ Once l 1 (A.tmps[16]? = some (.agg #[iv (Pl.ck us (m + 1)).f, iv (Pl.ck us (m + 1)).t, .slice b1 (Pl.ck us (m + 1)).n cb1])) ∧ Once l 2 (A.tmps[17]? = some (.bool true)) ∧ Once l 3 (A.tmps[18]? = some (.bool false)) ∧ Once l 4 (A.tmps[19]? = some (.bool false)) ∧ Once l 5 (A.tmps[20]? = some (.pointer (some ⟨wr.heap.size, 3, none⟩))) ∧ Once l 6 (A.tmps[21]? = some (iv (Pl.ck us (m + 1)).u)) ∧ Once l 7 (A.tmps[22]? = some (.pointer (some ⟨w.heap.size, 1, none⟩))) ∧ Once l 8 (A.tmps[23]? = some (iv c)) ∧ Once l 9 (A.tmps[24]? = some (.bool true)) ∧ Once l 10 (A.tmps[25]? = some (.bool false)) ∧ Once l 11 (A.tmps[26]? = some (.bool false)) ∧ Once l 12 (A.tmps[27]? = some (.bool false)) ∧ Once l 13 (A.tmps[28]? = some (iv (((m + 1) : Nat) : Int))) ∧ Once l 14 (A.tmps[29]? = some (.bool true)) ∧ Once l 15 (A.tmps[30]? = some (.bool true)) ∧ Once l 16 (A.tmps[31]? = some (.pointer (some ⟨w.heap.size, 2, none⟩))) ∧ Once l 17 (A.tmps[32]? = some (.slice (some ⟨g9, of9, none⟩) n ca)) ∧ Once l 18 (A.tmps[33]? = some (iv ((m + 1 : Nat) : Int))) ∧ Once l 19 (A.tmps[34]? = some (iv (m : Int))) ∧ Once l 20 (A.tmps[35]? = some (.pointer (some ⟨g9, of9 + m * 4, none⟩))) ∧ Once l 21 (A.tmps[36]? = some (.pointer (some ⟨g9, of9 + m * 4, none⟩))) ∧ Once l 22 (A.tmps[37]? = some (.pointer (some ⟨g9, of9 + m * 4, none⟩))) ∧ Once l 23 (A.tmps[38]? = some (iv (Pl.ck us m).f)) ∧ Once l 24 (A.tmps[39]? = some (.pointer (some ⟨wr.heap.size, 0, none⟩))) ∧ Once l 25 (A.tmps[40]? = some (.pointer (some ⟨wr.heap.size, 0, none⟩))) ∧ Once l 26 (A.tmps[41]? = some (iv (Pl.ck us (m + 1)).f)) ∧ Once l 27 (A.tmps[42]? = some (.bool false)) ∧ Once l 28 (A.tmps[43]? = some (.bool false)) ∧ Once l 29 (A.tmps[44]? = some (.bool false)) ∧ Kept 0 0 (wr.alloc (.cells #[iv (Pl.ck us (m + 1)).f, iv (Pl.ck us (m + 1)).t, .slice b1 (Pl.ck us (m + 1)).n cb1, iv (Pl.ck us (m + 1)).u] 101)) W) (by kernel_rfl) (by kernel_rfl) ?start ?fin ?step
              case start => exact ⟨FR.refl _ _, once_start (by decide), once_start (by decide), once_start (by decide), once_start (by decide), once_start (by decide), once_start (by decide), once_start (by decide), once_start (by decide), once_start (by decide), once_start (by decide), once_start (by decide), once_start (by decide), once_start (by decide), once_start (by decide), once_start (by decide), once_start (by decide), once_start (by decide), once_start (by decide), once_start (by decide), once_start (by decide), once_start (by decide), once_start (by decide), once_start (by decide), once_start (by decide), once_start (by decide), once_start (by decide), once_start (by decide), once_start (by decide), once_start (by decide), once_start (by decide), kept_drew (Kept.refl _ _ _)⟩
              case fin =>
                intro l A W h hl
                obtain ⟨hFR, o0, o1, o2, o3, o4, o5, o6, o7, o8, o9, o10, o11, o12, o13, o14, o15, o16, o17, o18, o19, o20, o21, o22, o23, o24, o25, o26, o27, o28, o29, hK⟩ := h
                have g29 := o29 (hl 29 (by decide))
                have QQ := hide hK
                have hc9 := hFR.chain
                simp only [List.foldl] at hc9
                rw [getD_of g29] at hc9
                clear hl hK hFR g29 o0 o1 o2 o3 o4 o5 o6 o7 o8 o9 o10 o11 o12 o13 o14 o15 o16 o17 o18 o19 o20 o21 o22 o23 o24 o25 o26 o27 o28 o29
                generalize A.tmps.getD 15 undef = s15 at hc9
                generalize A.tmps.getD 16 undef = s16 at hc9
                generalize A.tmps.getD 17 undef = s17 at hc9
                generalize A.tmps.getD 18 undef = s18 at hc9
                generalize A.tmps.getD 19 undef = s19 at hc9
                generalize A.tmps.getD 20 undef = s20 at hc9
                generalize A.tmps.getD 21 undef = s21 at hc9
                generalize A.tmps.getD 22 undef = s22 at hc9
                generalize A.tmps.getD 23 undef = s23 at hc9
                generalize A.tmps.getD 24 undef = s24 at hc9
                generalize A.tmps.getD 25 undef = s25 at hc9
                generalize A.tmps.getD 26 undef = s26 at hc9
                generalize A.tmps.getD 27 undef = s27 at hc9
                generalize A.tmps.getD 28 undef = s28 at hc9
                generalize A.tmps.getD 29 undef = s29 at hc9
                generalize A.tmps.getD 30 undef = s30 at hc9
                generalize A.tmps.getD 31 undef = s31 at hc9
                generalize A.tmps.getD 32 undef = s32 at hc9
                generalize A.tmps.getD 33 undef = s33 at hc9
                generalize A.tmps.getD 34 undef = s34 at hc9
                generalize A.tmps.getD 35 undef = s35 at hc9
                generalize A.tmps.getD 36 undef = s36 at hc9
                generalize A.tmps.getD 37 undef = s37 at hc9
                generalize A.tmps.getD 38 undef = s38 at hc9
                generalize A.tmps.getD 39 undef = s39 at hc9
                generalize A.tmps.getD 40 undef = s40 at hc9
                generalize A.tmps.getD 41 undef = s41 at hc9
                generalize A.tmps.getD 42 undef = s42 at hc9
                generalize A.tmps.getD 43 undef = s43 at hc9
                subst hc9
                go_simp
                have BX5 := hide (BX.out.kept0 QQ.out)
                have BS5 := hide (BS.out.kept0 QQ.out)
                have x5 := BX5.out.all
                have y5 := BS5.out.all
                have hk1 : (0 : Int) ≤ (((m + 1) : Nat) : Int) := by omega
                have hk2 : (((m + 1) : Nat) : Int) ≤ (ca : Int) := by omega
                have hk3 : (m + 1) ≤ ca := by omega
                go_wp2
                go_loopw [50] (fun v wy => ∃ j : Nat, j ≤ (m + 1) ∧ v = .int .i64 j ∧ (∀ i, i < j → (Pl.ck us i).u ≠ (Pl.ck us (m + 1)).u) ∧ Kept 0 0 W wy) (fun v _ => (m + 1) - (intOf v).toNat)
                case atStart => exact ⟨0, Nat.zero_le _, rfl, fun i hi => absurd hi (Nat.not_lt_zero i), Kept.refl _ _ _⟩
                case round =>
                  obtain ⟨j, hj, rfl, hne, hky⟩ := hrel
                  have HNE := hide hne
                  have HY := hide ((HKX.out.trans QQ.out).trans hky)
                  have HY2 := hide hky
                  have HY3 := hide ((HKY.out.trans QQ.out).trans hky)
                  clear hne x5 y5
                  by_cases hlj : j < (m + 1)
                  · obtain ⟨g8, of8, b2, cb2, e8, q0, q1, q2, q3, qm⟩ := (HA.out.keptS HY.out).at4 (k := j) (by omega)
                    cases e8
                    have BX6 := hide ((BX5.out.kept0 hky).alloc (.cells #[iv (Pl.ck us j).f, iv (Pl.ck us j).t, .slice b2 (Pl.ck us j).n cb2, iv (Pl.ck us j).u] 101))
                    have x6 := BX6.out.all
                    clear hky qm
                    cases hu : ((Pl.ck us j).u == (Pl.ck us (m + 1)).u)
                    · go_wp2_with fail
                      go_roundw
                      case rel => exact ⟨j + 1, by omega, by go_num, snoc_all HNE.out (by simpa using hu), kept_new HY2.out _⟩
                      case measure => simp [intOf]; omega
                    · have E : Hid (Pl.goodS r c us = false) := hide (Pl.goodS_no fun h => by have h2 := (h.ok ((m + 1)) hlu).2.2 j hlj; simp at hu; exact h2 hu)
                      go_wp2_with fail
                      go_ret
                      exact ⟨rB E.out.symm, kept_new HY.out _⟩
                  · have HNE2 : Hid (∀ i, i < (m + 1) → (Pl.ck us i).u ≠ (Pl.ck us (m + 1)).u) := hide (fun i hi => HNE.out i (by omega))
                    clear hky
                    go_wp2_with fail
                    go_roundw
                    case rel => exact ⟨(m + 1) + 1, by omega, by go_num, snoc_all HL.out ⟨by unfold Pl.goodC; rw [hG, hI]; rfl, fun _ => by simp at hF; exact hF, HNE2.out⟩, HY3.out⟩
                    case measure => simp [intOf]; omega
              case step =>
                intro l A W i hI hm
                obtain ⟨hFR, o0, o1, o2, o3, o4, o5, o6, o7, o8, o9, o10, o11, o12, o13, o14, o15, o16, o17, o18, o19, o20, o21, o22, o23, o24, o25, o26, o27, o28, o29, hK⟩ := hI
                obtain ⟨hi1, hi2⟩ := ready_new hm
                have hsz : Hid (44 < A.tmps.size) := hide (by rw [hFR.size]; simp)
                have m1 : A.tmps[1]? = some (.pointer (some ⟨w.heap.size, 0, none⟩)) := (hFR.out 1 (by decide)).trans rfl
                have m3 : A.tmps[3]? = some (.int .i64 (((m + 1) : Nat) : Int)) := (hFR.out 3 (by decide)).trans rfl
                have m4 : A.tmps[4]? = some (.pointer (some ⟨wr.heap.size, 0, none⟩)) := (hFR.out 4 (by decide)).trans rfl
                rcases i with _ | _ | _ | _ | _ | _ | _ | _ | _ | _ | _ | _ | _ | _ | _ | _ | _ | _ | _ | _ | _ | _ | _ | _ | _ | _ | _ | _ | _ | _ | i
                · refine wpOp_step rfl (fun KK hK2 => ?_)
                  go_simp
                  exact hK2 (A.put (some 15) (.pointer (some ⟨wr.heap.size, 0, none⟩))) _ ⟨hFR.put (by decide) _, .now (put_eq (by have hz := hsz.out; omega)), o1.q, o2.q, o3.q, o4.q, o5.q, o6.q, o7.q, o8.q, o9.q, o10.q, o11.q, o12.q, o13.q, o14.q, o15.q, o16.q, o17.q, o18.q, o19.q, o20.q, o21.q, o22.q, o23.q, o24.q, o25.q, o26.q, o27.q, o28.q, o29.q, hK⟩
                · have e0 := o0 (ready_dep hm 0 (by kernel_rfl))
                  have BL := BX.out.kept0 hK
                  have x0 := BL.all
                  clear BL
                  refine wpOp_step rfl (fun KK hK2 => ?_)
                  go_simp
                  exact hK2 (A.put (some 16) (.agg #[iv (Pl.ck us (m + 1)).f, iv (Pl.ck us (m + 1)).t, .slice b1 (Pl.ck us (m + 1)).n cb1])) _ ⟨hFR.put (by decide) _, o0.q, .now (put_eq (by have hz := hsz.out; omega)), o2.q, o3.q, o4.q, o5.q, o6.q, o7.q, o8.q, o9.q, o10.q, o11.q, o12.q, o13.q, o14.q, o15.q, o16.q, o17.q, o18.q, o19.q, o20.q, o21.q, o22.q, o23.q, o24.q, o25.q, o26.q, o27.q, o28.q, o29.q, hK⟩
                · have e1 := o1 (ready_dep hm 1 (by kernel_rfl))
                  refine wpOp_step rfl (fun KK hK2 => ?_)
                  go_simp
                  refine (specGoodUnit _ _ _ _ _ _ _ _ _ (PM.out.keptS hK) ok1.ly bk).mono ?_
                  rw [hG]
                  rintro e9 W9 ⟨rfl, k9⟩
                  go_simp
                  exact hK2 (A.put (some 17) (.bool true)) _ ⟨hFR.put (by decide) _, o0.q, o1.q, .now (put_eq (by have hz := hsz.out; omega)), o3.q, o4.q, o5.q, o6.q, o7.q, o8.q, o9.q, o10.q, o11.q, o12.q, o13.q, o14.q, o15.q, o16.q, o17.q, o18.q, o19.q, o20.q, o21.q, o22.q, o23.q, o24.q, o25.q, o26.q, o27.q, o28.q, o29.q, (hK.trans k9)⟩
                · have e2 := o2 (ready_dep hm 2 (by kernel_rfl))
                  refine wpOp_step rfl (fun KK hK2 => ?_)
                  go_simp
                  exact hK2 (A.put (some 18) (.bool false)) _ ⟨hFR.put (by decide) _, o0.q, o1.q, o2.q, .now (put_eq (by have hz := hsz.out; omega)), o4.q, o5.q, o6.q, o7.q, o8.q, o9.q, o10.q, o11.q, o12.q, o13.q, o14.q, o15.q, o16.q, o17.q, o18.q, o19.q, o20.q, o21.q, o22.q, o23.q, o24.q, o25.q, o26.q, o27.q, o28.q, o29.q, hK⟩
                · have e3 := o3 (ready_dep hm 3 (by kernel_rfl))
                  refine wpOp_step rfl (fun KK hK2 => ?_)
                  go_simp
                  exact hK2 (A.put (some 19) (.bool false)) _ ⟨hFR.put (by decide) _, o0.q, o1.q, o2.q, o3.q, .now (put_eq (by have hz := hsz.out; omega)), o5.q, o6.q, o7.q, o8.q, o9.q, o10.q, o11.q, o12.q, o13.q, o14.q, o15.q, o16.q, o17.q, o18.q, o19.q, o20.q, o21.q, o22.q, o23.q, o24.q, o25.q, o26.q, o27.q, o28.q, o29.q, hK⟩
                · have g := o4 (ready_dep hm 4 (by kernel_rfl))
                  refine wpOp_on (b := false) rfl rfl rfl g (fun KK hK2 => ?_)
                  go_simp
                  exact hK2 (A.put (some 20) (.pointer (some ⟨wr.heap.size, 3, none⟩))) _ ⟨hFR.put (by decide) _, o0.q, o1.q, o2.q, o3.q, o4.q, .now (put_eq (by have hz := hsz.out; omega)), o6.q, o7.q, o8.q, o9.q, o10.q, o11.q, o12.q, o13.q, o14.q, o15.q, o16.q, o17.q, o18.q, o19.q, o20.q, o21.q, o22.q, o23.q, o24.q, o25.q, o26.q, o27.q, o28.q, o29.q, hK⟩
                · have e5 := o5 (ready_dep hm 5 (by kernel_rfl))
                  have BL := BX.out.kept0 hK
                  have x0 := BL.all
                  clear BL
                  have g := o4 (ready_dep hm 4 (by kernel_rfl))
                  refine wpOp_on (b := false) rfl rfl rfl g (fun KK hK2 => ?_)
                  go_simp
                  exact hK2 (A.put (some 21) (iv (Pl.ck us (m + 1)).u)) _ ⟨hFR.put (by decide) _, o0.q, o1.q, o2.q, o3.q, o4.q, o5.q, .now (put_eq (by have hz := hsz.out; omega)), o7.q, o8.q, o9.q, o10.q, o11.q, o12.q, o13.q, o14.q, o15.q, o16.q, o17.q, o18.q, o19.q, o20.q, o21.q, o22.q, o23.q, o24.q, o25.q, o26.q, o27.q, o28.q, o29.q, hK⟩
                · have g := o4 (ready_dep hm 4 (by kernel_rfl))
                  refine wpOp_on (b := false) rfl rfl rfl g (fun KK hK2 => ?_)
                  go_simp
                  exact hK2 (A.put (some 22) (.pointer (some ⟨w.heap.size, 1, none⟩))) _ ⟨hFR.put (by decide) _, o0.q, o1.q, o2.q, o3.q, o4.q, o5.q, o6.q, .now (put_eq (by have hz := hsz.out; omega)), o8.q, o9.q, o10.q, o11.q, o12.q, o13.q, o14.q, o15.q, o16.q, o17.q, o18.q, o19.q, o20.q, o21.q, o22.q, o23.q, o24.q, o25.q, o26.q, o27.q, o28.q, o29.q, hK⟩
                · have e7 := o7 (ready_dep hm 7 (by kernel_rfl))
                  have BL := BS.out.kept0 hK
                  have x0 := BL.all
                  clear BL
                  have g := o4 (ready_dep hm 4 (by kernel_rfl))
                  refine wpOp_on (b := false) rfl rfl rfl g (fun KK hK2 => ?_)
                  go_simp
                  exact hK2 (A.put (some 23) (iv c)) _ ⟨hFR.put (by decide) _, o0.q, o1.q, o2.q, o3.q, o4.q, o5.q, o6.q, o7.q, .now (put_eq (by have hz := hsz.out; omega)), o9.q, o10.q, o11.q, o12.q, o13.q, o14.q, o15.q, o16.q, o17.q, o18.q, o19.q, o20.q, o21.q, o22.q, o23.q, o24.q, o25.q, o26.q, o27.q, o28.q, o29.q, hK⟩
                · have e6 := o6 (ready_dep hm 6 (by kernel_rfl))
                  have e8 := o8 (ready_dep hm 8 (by kernel_rfl))
                  have g := o4 (ready_dep hm 4 (by kernel_rfl))
                  refine wpOp_on (b := false) rfl rfl rfl g (fun KK hK2 => ?_)
                  go_simp
                  refine st (l1In _ _ _ _) ?_
                  rw [hI]
                  go_simp
                  exact hK2 (A.put (some 24) (.bool true)) _ ⟨hFR.put (by decide) _, o0.q, o1.q, o2.q, o3.q, o4.q, o5.q, o6.q, o7.q, o8.q, .now (put_eq (by have hz := hsz.out; omega)), o10.q, o11.q, o12.q, o13.q, o14.q, o15.q, o16.q, o17.q, o18.q, o19.q, o20.q, o21.q, o22.q, o23.q, o24.q, o25.q, o26.q, o27.q, o28.q, o29.q, hK⟩
                · have e9 := o9 (ready_dep hm 9 (by kernel_rfl))
                  have g := o4 (ready_dep hm 4 (by kernel_rfl))
                  refine wpOp_on (b := false) rfl rfl rfl g (fun KK hK2 => ?_)
                  go_simp
                  exact hK2 (A.put (some 25) (.bool false)) _ ⟨hFR.put (by decide) _, o0.q, o1.q, o2.q, o3.q, o4.q, o5.q, o6.q, o7.q, o8.q, o9.q, .now (put_eq (by have hz := hsz.out; omega)), o11.q, o12.q, o13.q, o14.q, o15.q, o16.q, o17.q, o18.q, o19.q, o20.q, o21.q, o22.q, o23.q, o24.q, o25.q, o26.q, o27.q, o28.q, o29.q, hK⟩
                · have e4 := o4 (ready_dep hm 4 (by kernel_rfl))
                  have e10 := o10 (ready_dep hm 10 (by kernel_rfl))
                  refine wpOp_step rfl (fun KK hK2 => ?_)
                  go_simp
                  exact hK2 (A.put (some 26) (.bool false)) _ ⟨hFR.put (by decide) _, o0.q, o1.q, o2.q, o3.q, o4.q, o5.q, o6.q, o7.q, o8.q, o9.q, o10.q, .now (put_eq (by have hz := hsz.out; omega)), o12.q, o13.q, o14.q, o15.q, o16.q, o17.q, o18.q, o19.q, o20.q, o21.q, o22.q, o23.q, o24.q, o25.q, o26.q, o27.q, o28.q, o29.q, hK⟩
                · have e11 := o11 (ready_dep hm 11 (by kernel_rfl))
                  refine wpOp_step rfl (fun KK hK2 => ?_)
                  go_simp
                  exact hK2 (A.put (some 27) (.bool false)) _ ⟨hFR.put (by decide) _, o0.q, o1.q, o2.q, o3.q, o4.q, o5.q, o6.q, o7.q, o8.q, o9.q, o10.q, o11.q, .now (put_eq (by have hz := hsz.out; omega)), o13.q, o14.q, o15.q, o16.q, o17.q, o18.q, o19.q, o20.q, o21.q, o22.q, o23.q, o24.q, o25.q, o26.q, o27.q, o28.q, o29.q, hK⟩
                · have g := o12 (ready_dep hm 12 (by kernel_rfl))
                  refine wpOp_on (b := false) rfl rfl rfl g (fun KK hK2 => ?_)
                  go_simp
                  exact hK2 (A.put (some 28) (iv (((m + 1) : Nat) : Int))) _ ⟨hFR.put (by decide) _, o0.q, o1.q, o2.q, o3.q, o4.q, o5.q, o6.q, o7.q, o8.q, o9.q, o10.q, o11.q, o12.q, .now (put_eq (by have hz := hsz.out; omega)), o14.q, o15.q, o16.q, o17.q, o18.q, o19.q, o20.q, o21.q, o22.q, o23.q, o24.q, o25.q, o26.q, o27.q, o28.q, o29.q, hK⟩
                · have e13 := o13 (ready_dep hm 13 (by kernel_rfl))
                  have g := o12 (ready_dep hm 12 (by kernel_rfl))
                  refine wpOp_on (b := false) rfl rfl rfl g (fun KK hK2 => ?_)
                  go_simp
                  try rw [hz]
                  exact hK2 (A.put (some 29) (.bool true)) _ ⟨hFR.put (by decide) _, o0.q, o1.q, o2.q, o3.q, o4.q, o5.q, o6.q, o7.q, o8.q, o9.q, o10.q, o11.q, o12.q, o13.q, .now (put_eq (by have hz := hsz.out; omega)), o15.q, o16.q, o17.q, o18.q, o19.q, o20.q, o21.q, o22.q, o23.q, o24.q, o25.q, o26.q, o27.q, o28.q, o29.q, hK⟩
                · have e14 := o14 (ready_dep hm 14 (by kernel_rfl))
                  have g := o12 (ready_dep hm 12 (by kernel_rfl))
                  refine wpOp_on (b := false) rfl rfl rfl g (fun KK hK2 => ?_)
                  go_simp
                  exact hK2 (A.put (some 30) (.bool true)) _ ⟨hFR.put (by decide) _, o0.q, o1.q, o2.q, o3.q, o4.q, o5.q, o6.q, o7.q, o8.q, o9.q, o10.q, o11.q, o12.q, o13.q, o14.q, .now (put_eq (by have hz := hsz.out; omega)), o16.q, o17.q, o18.q, o19.q, o20.q, o21.q, o22.q, o23.q, o24.q, o25.q, o26.q, o27.q, o28.q, o29.q, hK⟩
                · have g := o15 (ready_dep hm 15 (by kernel_rfl))
                  refine wpOp_on (b := true) rfl rfl rfl g (fun KK hK2 => ?_)
                  go_simp
                  exact hK2 (A.put (some 31) (.pointer (some ⟨w.heap.size, 2, none⟩))) _ ⟨hFR.put (by decide) _, o0.q, o1.q, o2.q, o3.q, o4.q, o5.q, o6.q, o7.q, o8.q, o9.q, o10.q, o11.q, o12.q, o13.q, o14.q, o15.q, .now (put_eq (by have hz := hsz.out; omega)), o17.q, o18.q, o19.q, o20.q, o21.q, o22.q, o23.q, o24.q, o25.q, o26.q, o27.q, o28.q, o29.q, hK⟩
                · have e16 := o16 (ready_dep hm 16 (by kernel_rfl))
                  have BL := BS.out.kept0 hK
                  have x0 := BL.all
                  clear BL
                  have g := o15 (ready_dep hm 15 (by kernel_rfl))
                  refine wpOp_on (b := true) rfl rfl rfl g (fun KK hK2 => ?_)
                  go_simp
                  exact hK2 (A.put (some 32) (.slice (some ⟨g9, of9, none⟩) n ca)) _ ⟨hFR.put (by decide) _, o0.q, o1.q, o2.q, o3.q, o4.q, o5.q, o6.q, o7.q, o8.q, o9.q, o10.q, o11.q, o12.q, o13.q, o14.q, o15.q, o16.q, .now (put_eq (by have hz := hsz.out; omega)), o18.q, o19.q, o20.q, o21.q, o22.q, o23.q, o24.q, o25.q, o26.q, o27.q, o28.q, o29.q, hK⟩
                · have g := o15 (ready_dep hm 15 (by kernel_rfl))
                  refine wpOp_on (b := true) rfl rfl rfl g (fun KK hK2 => ?_)
                  go_simp
                  exact hK2 (A.put (some 33) (iv ((m + 1 : Nat) : Int))) _ ⟨hFR.put (by decide) _, o0.q, o1.q, o2.q, o3.q, o4.q, o5.q, o6.q, o7.q, o8.q, o9.q, o10.q, o11.q, o12.q, o13.q, o14.q, o15.q, o16.q, o17.q, .now (put_eq (by have hz := hsz.out; omega)), o19.q, o20.q, o21.q, o22.q, o23.q, o24.q, o25.q, o26.q, o27.q, o28.q, o29.q, hK⟩
                · have e18 := o18 (ready_dep hm 18 (by kernel_rfl))
                  have g := o15 (ready_dep hm 15 (by kernel_rfl))
                  refine wpOp_on (b := true) rfl rfl rfl g (fun KK hK2 => ?_)
                  go_simp
                  try rw [ew2]
                  exact hK2 (A.put (some 34) (iv (m : Int))) _ ⟨hFR.put (by decide) _, o0.q, o1.q, o2.q, o3.q, o4.q, o5.q, o6.q, o7.q, o8.q, o9.q, o10.q, o11.q, o12.q, o13.q, o14.q, o15.q, o16.q, o17.q, o18.q, .now (put_eq (by have hz := hsz.out; omega)), o20.q, o21.q, o22.q, o23.q, o24.q, o25.q, o26.q, o27.q, o28.q, o29.q, hK⟩
                · have e17 := o17 (ready_dep hm 17 (by kernel_rfl))
                  have e19 := o19 (ready_dep hm 19 (by kernel_rfl))
                  have g := o15 (ready_dep hm 15 (by kernel_rfl))
                  refine wpOp_on (b := true) rfl rfl rfl g (fun KK hK2 => ?_)
                  go_simp
                  try rw [if_pos (show m < n by omega)]
                  try go_simp
                  exact hK2 (A.put (some 35) (.pointer (some ⟨g9, of9 + m * 4, none⟩))) _ ⟨hFR.put (by decide) _, o0.q, o1.q, o2.q, o3.q, o4.q, o5.q, o6.q, o7.q, o8.q, o9.q, o10.q, o11.q, o12.q, o13.q, o14.q, o15.q, o16.q, o17.q, o18.q, o19.q, .now (put_eq (by have hz := hsz.out; omega)), o21.q, o22.q, o23.q, o24.q, o25.q, o26.q, o27.q, o28.q, o29.q, hK⟩
                · have e20 := o20 (ready_dep hm 20 (by kernel_rfl))
                  have g := o15 (ready_dep hm 15 (by kernel_rfl))
                  refine wpOp_on (b := true) rfl rfl rfl g (fun KK hK2 => ?_)
                  go_simp
                  exact hK2 (A.put (some 36) (.pointer (some ⟨g9, of9 + m * 4, none⟩))) _ ⟨hFR.put (by decide) _, o0.q, o1.q, o2.q, o3.q, o4.q, o5.q, o6.q, o7.q, o8.q, o9.q, o10.q, o11.q, o12.q, o13.q, o14.q, o15.q, o16.q, o17.q, o18.q, o19.q, o20.q, .now (put_eq (by have hz := hsz.out; omega)), o22.q, o23.q, o24.q, o25.q, o26.q, o27.q, o28.q, o29.q, hK⟩
                · have e21 := o21 (ready_dep hm 21 (by kernel_rfl))
                  have g := o15 (ready_dep hm 15 (by kernel_rfl))
                  refine wpOp_on (b := true) rfl rfl rfl g (fun KK hK2 => ?_)
                  go_simp
                  exact hK2 (A.put (some 37) (.pointer (some ⟨g9, of9 + m * 4, none⟩))) _ ⟨hFR.put (by decide) _, o0.q, o1.q, o2.q, o3.q, o4.q, o5.q, o6.q, o7.q, o8.q, o9.q, o10.q, o11.q, o12.q, o13.q, o14.q, o15.q, o16.q, o17.q, o18.q, o19.q, o20.q, o21.q, .now (put_eq (by have hz := hsz.out; omega)), o23.q, o24.q, o25.q, o26.q, o27.q, o28.q, o29.q, hK⟩
                · have e22 := o22 (ready_dep hm 22 (by kernel_rfl))
                  obtain ⟨g8, of8, b8, cb8, e8, q0, q1, q2, q3, q4⟩ := (HA.out.keptS (HKX.out.trans hK)).at4 (k := m) (by rw [← HN.out]; omega)
                  cases e8
                  have g := o15 (ready_dep hm 15 (by kernel_rfl))
                  refine wpOp_on (b := true) rfl rfl rfl g (fun KK hK2 => ?_)
                  go_simp
                  exact hK2 (A.put (some 38) (iv (Pl.ck us m).f)) _ ⟨hFR.put (by decide) _, o0.q, o1.q, o2.q, o3.q, o4.q, o5.q, o6.q, o7.q, o8.q, o9.q, o10.q, o11.q, o12.q, o13.q, o14.q, o15.q, o16.q, o17.q, o18.q, o19.q, o20.q, o21.q, o22.q, .now (put_eq (by have hz := hsz.out; omega)), o24.q, o25.q, o26.q, o27.q, o28.q, o29.q, hK⟩
                · have g := o15 (ready_dep hm 15 (by kernel_rfl))
                  refine wpOp_on (b := true) rfl rfl rfl g (fun KK hK2 => ?_)
                  go_simp
                  exact hK2 (A.put (some 39) (.pointer (some ⟨wr.heap.size, 0, none⟩))) _ ⟨hFR.put (by decide) _, o0.q, o1.q, o2.q, o3.q, o4.q, o5.q, o6.q, o7.q, o8.q, o9.q, o10.q, o11.q, o12.q, o13.q, o14.q, o15.q, o16.q, o17.q, o18.q, o19.q, o20.q, o21.q, o22.q, o23.q, .now (put_eq (by have hz := hsz.out; omega)), o25.q, o26.q, o27.q, o28.q, o29.q, hK⟩
                · have e24 := o24 (ready_dep hm 24 (by kernel_rfl))
                  have g := o15 (ready_dep hm 15 (by kernel_rfl))
                  refine wpOp_on (b := true) rfl rfl rfl g (fun KK hK2 => ?_)
                  go_simp
                  exact hK2 (A.put (some 40) (.pointer (some ⟨wr.heap.size, 0, none⟩))) _ ⟨hFR.put (by decide) _, o0.q, o1.q, o2.q, o3.q, o4.q, o5.q, o6.q, o7.q, o8.q, o9.q, o10.q, o11.q, o12.q, o13.q, o14.q, o15.q, o16.q, o17.q, o18.q, o19.q, o20.q, o21.q, o22.q, o23.q, o24.q, .now (put_eq (by have hz := hsz.out; omega)), o26.q, o27.q, o28.q, o29.q, hK⟩
                · have e25 := o25 (ready_dep hm 25 (by kernel_rfl))
                  have BL := BX.out.kept0 hK
                  have x0 := BL.all
                  clear BL
                  have g := o15 (ready_dep hm 15 (by kernel_rfl))
                  refine wpOp_on (b := true) rfl rfl rfl g (fun KK hK2 => ?_)
                  go_simp
                  exact hK2 (A.put (some 41) (iv (Pl.ck us (m + 1)).f)) _ ⟨hFR.put (by decide) _, o0.q, o1.q, o2.q, o3.q, o4.q, o5.q, o6.q, o7.q, o8.q, o9.q, o10.q, o11.q, o12.q, o13.q, o14.q, o15.q, o16.q, o17.q, o18.q, o19.q, o20.q, o21.q, o22.q, o23.q, o24.q, o25.q, .now (put_eq (by have hz := hsz.out; omega)), o27.q, o28.q, o29.q, hK⟩
                · have e23 := o23 (ready_dep hm 23 (by kernel_rfl))
                  have e26 := o26 (ready_dep hm 26 (by kernel_rfl))
                  have g := o15 (ready_dep hm 15 (by kernel_rfl))
                  refine wpOp_on (b := true) rfl rfl rfl g (fun KK hK2 => ?_)
                  go_simp
                  try rw [hF]
                  exact hK2 (A.put (some 42) (.bool false)) _ ⟨hFR.put (by decide) _, o0.q, o1.q, o2.q, o3.q, o4.q, o5.q, o6.q, o7.q, o8.q, o9.q, o10.q, o11.q, o12.q, o13.q, o14.q, o15.q, o16.q, o17.q, o18.q, o19.q, o20.q, o21.q, o22.q, o23.q, o24.q, o25.q, o26.q, .now (put_eq (by have hz := hsz.out; omega)), o28.q, o29.q, hK⟩
                · have e15 := o15 (ready_dep hm 15 (by kernel_rfl))
                  have e27 := o27 (ready_dep hm 27 (by kernel_rfl))
                  have g := o12 (ready_dep hm 12 (by kernel_rfl))
                  refine wpOp_on (b := false) rfl rfl rfl g (fun KK hK2 => ?_)
                  go_simp
                  exact hK2 (A.put (some 43) (.bool false)) _ ⟨hFR.put (by decide) _, o0.q, o1.q, o2.q, o3.q, o4.q, o5.q, o6.q, o7.q, o8.q, o9.q, o10.q, o11.q, o12.q, o13.q, o14.q, o15.q, o16.q, o17.q, o18.q, o19.q, o20.q, o21.q, o22.q, o23.q, o24.q, o25.q, o26.q, o27.q, .now (put_eq (by have hz := hsz.out; omega)), o29.q, hK⟩
                · have e12 := o12 (ready_dep hm 12 (by kernel_rfl))
                  have e28 := o28 (ready_dep hm 28 (by kernel_rfl))
                  refine wpOp_step rfl (fun KK hK2 => ?_)
                  go_simp
                  exact hK2 (A.put (some 44) (.bool false)) _ ⟨hFR.put (by decide) _, o0.q, o1.q, o2.q, o3.q, o4.q, o5.q, o6.q, o7.q, o8.q, o9.q, o10.q, o11.q, o12.q, o13.q, o14.q, o15.q, o16.q, o17.q, o18.q, o19.q, o20.q, o21.q, o22.q, o23.q, o24.q, o25.q, o26.q, o27.q, o28.q, .now (put_eq (by have hz := hsz.out; omega)), hK⟩
                · simp at hi1
                  omega
            · have E : Hid (Pl.goodS r c us = false) := hide (Pl.goodS_no fun h => by have h2 := h.ok (m + 1) hlu; unfold Pl.okK at h2; have h3 := h2.2.1 (by omega); simp at hF h3; omega)
              refine wp_region_inv2 (fun A0 l A W => FR [15, 16, 17, 18, 19, 20, 21, 22, 23, 24, 25, 26, 27, 28, 29, 30, 31, 32, 33, 34, 35, 36, 37, 38, 39, 40, 41, 42, 43, 44] A0 A ∧ Once l 0 (A.tmps[15]? = some (.pointer (some ⟨wr.heap.size, 0, none⟩))) ∧ Once l 1 (A.tmps[16]? = some (.agg #[iv (Pl.ck us (m + 1)).f, iv (Pl.ck us (m + 1)).t, .slice b1 (Pl.ck us (m + 1)).n cb1])) ∧ Once l 2 (A.tmps[17]? = some (.bool true)) ∧ Once l 3 (A.tmps[18]? = some (.bool false)) ∧ Once l 4 (A.tmps[19]? = some (.bool false)) ∧ Once l 5 (A.tmps[20]? = some (.pointer (some ⟨wr.heap.size, 3, none⟩))) ∧ Once l 6 (A.tmps[21]? = some (iv (Pl.ck us (m + 1)).u)) ∧ Once l 7 (A.tmps[22]? = some (.pointer (some ⟨w.heap.size, 1, none⟩))) ∧ Once l 8 (A.tmps[23]? = some (iv c)) ∧ Once l 9 (A.tmps[24]? = some (.bool true)) ∧ Once l 10 (A.tmps[25]? = some (.bool false)) ∧ Once l 11 (A.tmps[26]? = some (.bool false)) ∧ Once l 12 (A.tmps[27]? = some (.bool false)) ∧ Once l 13 (A.tmps[28]? = some (iv (((m + 1) : Nat) : Int))) ∧ Once l 14 (A.tmps[29]? = some (.bool true)) ∧ Once l 15 (A.tmps[30]? = some (.bool true)) ∧ Once l 16 (A.tmps[31]? = some (.pointer (some ⟨w.heap.size, 2, none⟩))) ∧ Once l 17 (A.tmps[32]? = some (.slice (some ⟨g9, of9, none⟩) n ca)) ∧ Once l 18 (A.tmps[33]? = some (iv ((m + 1 : Nat) : Int))) ∧ Once l 19 (A.tmps[34]? = some (iv (m : Int))) ∧ Once l 20 (A.tmps[35]? = some (.pointer (some ⟨g9, of9 + m * 4, none⟩))) ∧ Once l 21 (A.tmps[36]? = some (.pointer (some ⟨g9, of9 + m * 4, none⟩))) ∧ Once l 22 (A.tmps[37]? = some (.pointer (some ⟨g9, of9 + m * 4, none⟩))) ∧ Once l 23 (A.tmps[38]? = some (iv (Pl.ck us m).f)) ∧ Once l 24 (A.tmps[39]? = some (.pointer (some ⟨wr.heap.size, 0, none⟩))) ∧ Once l 25 (A.tmps[40]? = some (.pointer (some ⟨wr.heap.size, 0, none⟩))) ∧ Once l 26 (A.tmps[41]? = some (iv (Pl.ck us (m + 1)).f)) ∧ Once l 27 (A.tmps[42]? = some (.bool true)) ∧ Once l 28 (A.tmps[43]? = some (.bool true)) ∧ Once l 29 (A.tmps[44]? = some (.bool true)) ∧ Kept 0 0 (wr.alloc (.cells #[iv (Pl.ck us (m + 1)).f, iv (Pl.ck us (m + 1)).t, .slice b1 (Pl.ck us (m + 1)).n cb1, iv (Pl.ck us (m + 1)).u] 101)) W) (by kernel_rfl) (by kernel_rfl) ?start ?fin ?step
              case start => exact ⟨FR.refl _ _, once_start (by decide), once_start (by decide), once_start (by decide), once_start (by decide), once_start (by decide), once_start (by decide), once_start (by decide), once_start (by decide), once_start (by decide), once_start (by decide), once_start (by decide), once_start (by decide), once_start (by decide), once_start (by decide), once_start (by decide), once_start (by decide), once_start (by decide), once_start (by decide), once_start (by decide), once_start (by decide), once_start (by decide), once_start (by decide), once_start (by decide), once_start (by decide), once_start (by decide), once_start (by decide), once_start (by decide), once_start (by decide), once_start (by decide), once_start (by decide), kept_drew (Kept.refl _ _ _)⟩
              case fin =>
                intro l A W h hl
                obtain ⟨hFR, o0, o1, o2, o3, o4, o5, o6, o7, o8, o9, o10, o11, o12, o13, o14, o15, o16, o17, o18, o19, o20, o21, o22, o23, o24, o25, o26, o27, o28, o29, hK⟩ := h
                have g29 := o29 (hl 29 (by decide))
                have QQ := hide hK
                have hc9 := hFR.chain
                simp only [List.foldl] at hc9
                rw [getD_of g29] at hc9
                clear hl hK hFR g29 o0 o1 o2 o3 o4 o5 o6 o7 o8 o9 o10 o11 o12 o13 o14 o15 o16 o17 o18 o19 o20 o21 o22 o23 o24 o25 o26 o27 o28 o29
                generalize A.tmps.getD 15 undef = s15 at hc9
                generalize A.tmps.getD 16 undef = s16 at hc9
                generalize A.tmps.getD 17 undef = s17 at hc9
                generalize A.tmps.getD 18 undef = s18 at hc9
                generalize A.tmps.getD 19 undef = s19 at hc9
                generalize A.tmps.getD 20 undef = s20 at hc9
                generalize A.tmps.getD 21 undef = s21 at hc9
                generalize A.tmps.getD 22 undef = s22 at hc9
                generalize A.tmps.getD 23 undef = s23 at hc9
                generalize A.tmps.getD 24 undef = s24 at hc9
                generalize A.tmps.getD 25 undef = s25 at hc9
                generalize A.tmps.getD 26 undef = s26 at hc9
                generalize A.tmps.getD 27 undef = s27 at hc9
                generalize A.tmps.getD 28 undef = s28 at hc9
                generalize A.tmps.getD 29 undef = s29 at hc9
                generalize A.tmps.getD 30 undef = s30 at hc9
                generalize A.tmps.getD 31 undef = s31 at hc9
                generalize A.tmps.getD 32 undef = s32 at hc9
                generalize A.tmps.getD 33 undef = s33 at hc9
                generalize A.tmps.getD 34 undef = s34 at hc9
                generalize A.tmps.getD 35 undef = s35 at hc9
                generalize A.tmps.getD 36 undef = s36 at hc9
                generalize A.tmps.getD 37 undef = s37 at hc9
                generalize A.tmps.getD 38 undef = s38 at hc9
                generalize A.tmps.getD 39 undef = s39 at hc9
                generalize A.tmps.getD 40 undef = s40 at hc9
                generalize A.tmps.getD 41 undef = s41 at hc9
                generalize A.tmps.getD 42 undef = s42 at hc9
                generalize A.tmps.getD 43 undef = s43 at hc9
                subst hc9
                go_simp
                go_wp2_with fail
                go_ret
                exact ⟨rB E.out.symm, HKX.out.trans QQ.out⟩
              case step =>
                intro l A W i hI hm
                obtain ⟨hFR, o0, o1, o2, o3, o4, o5, o6, o7, o8, o9, o10, o11, o12, o13, o14, o15, o16, o17, o18, o19, o20, o21, o22, o23, o24, o25, o26, o27, o28, o29, hK⟩ := hI
                obtain ⟨hi1, hi2⟩ := ready_new hm
                have hsz : Hid (44 < A.tmps.size) := hide (by rw [hFR.size]; simp)
                have m1 : A.tmps[1]? = some (.pointer (some ⟨w.heap.size, 0, none⟩)) := (hFR.out 1 (by decide)).trans rfl
                have m3 : A.tmps[3]? = some (.int .i64 (((m + 1) : Nat) : Int)) := (hFR.out 3 (by decide)).trans rfl
                have m4 : A.tmps[4]? = some (.pointer (some ⟨wr.heap.size, 0, none⟩)) := (hFR.out 4 (by decide)).trans rfl
                rcases i with _ | _ | _ | _ | _ | _ | _ | _ | _ | _ | _ | _ | _ | _ | _ | _ | _ | _ | _ | _ | _ | _ | _ | _ | _ | _ | _ | _ | _ | _ | i
                · refine wpOp_step rfl (fun KK hK2 => ?_)
                  go_simp
                  exact hK2 (A.put (some 15) (.pointer (some ⟨wr.heap.size, 0, none⟩))) _ ⟨hFR.put (by decide) _, .now (put_eq (by have hz := hsz.out; omega)), o1.q, o2.q, o3.q, o4.q, o5.q, o6.q, o7.q, o8.q, o9.q, o10.q, o11.q, o12.q, o13.q, o14.q, o15.q, o16.q, o17.q, o18.q, o19.q, o20.q, o21.q, o22.q, o23.q, o24.q, o25.q, o26.q, o27.q, o28.q, o29.q, hK⟩
                · have e0 := o0 (ready_dep hm 0 (by kernel_rfl))
                  have BL := BX.out.kept0 hK
                  have x0 := BL.all
                  clear BL
                  refine wpOp_step rfl (fun KK hK2 => ?_)
                  go_simp
                  exact hK2 (A.put (some 16) (.agg #[iv (Pl.ck us (m + 1)).f, iv (Pl.ck us (m + 1)).t, .slice b1 (Pl.ck us (m + 1)).n cb1])) _ ⟨hFR.put (by decide) _, o0.q, .now (put_eq (by have hz := hsz.out; omega)), o2.q, o3.q, o4.q, o5.q, o6.q, o7.q, o8.q, o9.q, o10.q, o11.q, o12.q, o13.q, o14.q, o15.q, o16.q, o17.q, o18.q, o19.q, o20.q, o21.q, o22.q, o23.q, o24.q, o25.q, o26.q, o27.q, o28.q, o29.q, hK⟩
                · have e1 := o1 (ready_dep hm 1 (by kernel_rfl))
                  refine wpOp_step rfl (fun KK hK2 => ?_)
                  go_simp
                  refine (specGoodUnit _ _ _ _ _ _ _ _ _ (PM.out.keptS hK) ok1.ly bk).mono ?_
                  rw [hG]
                  rintro e9 W9 ⟨rfl, k9⟩
                  go_simp
                  exact hK2 (A.put (some 17) (.bool true)) _ ⟨hFR.put (by decide) _, o0.q, o1.q, .now (put_eq (by have hz := hsz.out; omega)), o3.q, o4.q, o5.q, o6.q, o7.q, o8.q, o9.q, o10.q, o11.q, o12.q, o13.q, o14.q, o15.q, o16.q, o17.q, o18.q, o19.q, o20.q, o21.q, o22.q, o23.q, o24.q, o25.q, o26.q, o27.q, o28.q, o29.q, (hK.trans k9)⟩
                · have e2 := o2 (ready_dep hm 2 (by kernel_rfl))
                  refine wpOp_step rfl (fun KK hK2 => ?_)
                  go_simp
                  exact hK2 (A.put (some 18) (.bool false)) _ ⟨hFR.put (by decide) _, o0.q, o1.q, o2.q, .now (put_eq (by have hz := hsz.out; omega)), o4.q, o5.q, o6.q, o7.q, o8.q, o9.q, o10.q, o11.q, o12.q, o13.q, o14.q, o15.q, o16.q, o17.q, o18.q, o19.q, o20.q, o21.q, o22.q, o23.q, o24.q, o25.q, o26.q, o27.q, o28.q, o29.q, hK⟩
                · have e3 := o3 (ready_dep hm 3 (by kernel_rfl))
                  refine wpOp_step rfl (fun KK hK2 => ?_)
                  go_simp
                  exact hK2 (A.put (some 19) (.bool false)) _ ⟨hFR.put (by decide) _, o0.q, o1.q, o2.q, o3.q, .now (put_eq (by have hz := hsz.out; omega)), o5.q, o6.q, o7.q, o8.q, o9.q, o10.q, o11.q, o12.q, o13.q, o14.q, o15.q, o16.q, o17.q, o18.q, o19.q, o20.q, o21.q, o22.q, o23.q, o24.q, o25.q, o26.q, o27.q, o28.q, o29.q, hK⟩
                · have g := o4 (ready_dep hm 4 (by kernel_rfl))
                  refine wpOp_on (b := false) rfl rfl rfl g (fun KK hK2 => ?_)
                  go_simp
                  exact hK2 (A.put (some 20) (.pointer (some ⟨wr.heap.size, 3, none⟩))) _ ⟨hFR.put (by decide) _, o0.q, o1.q, o2.q, o3.q, o4.q, .now (put_eq (by have hz := hsz.out; omega)), o6.q, o7.q, o8.q, o9.q, o10.q, o11.q, o12.q, o13.q, o14.q, o15.q, o16.q, o17.q, o18.q, o19.q, o20.q, o21.q, o22.q, o23.q, o24.q, o25.q, o26.q, o27.q, o28.q, o29.q, hK⟩
                · have e5 := o5 (ready_dep hm 5 (by kernel_rfl))
                  have BL := BX.out.kept0 hK
                  have x0 := BL.all
                  clear BL
                  have g := o4 (ready_dep hm 4 (by kernel_rfl))
                  refine wpOp_on (b := false) rfl rfl rfl g (fun KK hK2 => ?_)
                  go_simp
                  exact hK2 (A.put (some 21) (iv (Pl.ck us (m + 1)).u)) _ ⟨hFR.put (by decide) _, o0.q, o1.q, o2.q, o3.q, o4.q, o5.q, .now (put_eq (by have hz := hsz.out; omega)), o7.q, o8.q, o9.q, o10.q, o11.q, o12.q, o13.q, o14.q, o15.q, o16.q, o17.q, o18.q, o19.q, o20.q, o21.q, o22.q, o23.q, o24.q, o25.q, o26.q, o27.q, o28.q, o29.q, hK⟩
                · have g := o4 (ready_dep hm 4 (by kernel_rfl))
                  refine wpOp_on (b := false) rfl rfl rfl g (fun KK hK2 => ?_)
                  go_simp
                  exact hK2 (A.put (some 22) (.pointer (some ⟨w.heap.size, 1, none⟩))) _ ⟨hFR.put (by decide) _, o0.q, o1.q, o2.q, o3.q, o4.q, o5.q, o6.q, .now (put_eq (by have hz := hsz.out; omega)), o8.q, o9.q, o10.q, o11.q, o12.q, o13.q, o14.q, o15.q, o16.q, o17.q, o18.q, o19.q, o20.q, o21.q, o22.q, o23.q, o24.q, o25.q, o26.q, o27.q, o28.q, o29.q, hK⟩
                · have e7 := o7 (ready_dep hm 7 (by kernel_rfl))
                  have BL := BS.out.kept0 hK
                  have x0 := BL.all
                  clear BL
                  have g := o4 (ready_dep hm 4 (by kernel_rfl))
                  refine wpOp_on (b := false) rfl rfl rfl g (fun KK hK2 => ?_)
                  go_simp
                  exact hK2 (A.put (some 23) (iv c)) _ ⟨hFR.put (by decide) _, o0.q, o1.q, o2.q, o3.q, o4.q, o5.q, o6.q, o7.q, .now (put_eq (by have hz := hsz.out; omega)), o9.q, o10.q, o11.q, o12.q, o13.q, o14.q, o15.q, o16.q, o17.q, o18.q, o19.q, o20.q, o21.q, o22.q, o23.q, o24.q, o25.q, o26.q, o27.q, o28.q, o29.q, hK⟩
                · have e6 := o6 (ready_dep hm 6 (by kernel_rfl))
                  have e8 := o8 (ready_dep hm 8 (by kernel_rfl))
                  have g := o4 (ready_dep hm 4 (by kernel_rfl))
                  refine wpOp_on (b := false) rfl rfl rfl g (fun KK hK2 => ?_)
                  go_simp
                  refine st (l1In _ _ _ _) ?_
                  rw [hI]
                  go_simp
                  exact hK2 (A.put (some 24) (.bool true)) _ ⟨hFR.put (by decide) _, o0.q, o1.q, o2.q, o3.q, o4.q, o5.q, o6.q, o7.q, o8.q, .now (put_eq (by have hz := hsz.out; omega)), o10.q, o11.q, o12.q, o13.q, o14.q, o15.q, o16.q, o17.q, o18.q, o19.q, o20.q, o21.q, o22.q, o23.q, o24.q, o25.q, o26.q, o27.q, o28.q, o29.q, hK⟩
                · have e9 := o9 (ready_dep hm 9 (by kernel_rfl))
                  have g := o4 (ready_dep hm 4 (by kernel_rfl))
                  refine wpOp_on (b := false) rfl rfl rfl g (fun KK hK2 => ?_)
                  go_simp
                  exact hK2 (A.put (some 25) (.bool false)) _ ⟨hFR.put (by decide) _, o0.q, o1.q, o2.q, o3.q, o4.q, o5.q, o6.q, o7.q, o8.q, o9.q, .now (put_eq (by have hz := hsz.out; omega)), o11.q, o12.q, o13.q, o14.q, o15.q, o16.q, o17.q, o18.q, o19.q, o20.q, o21.q, o22.q, o23.q, o24.q, o25.q, o26.q, o27.q, o28.q, o29.q, hK⟩
                · have e4 := o4 (ready_dep hm 4 (by kernel_rfl))
                  have e10 := o10 (ready_dep hm 10 (by kernel_rfl))
                  refine wpOp_step rfl (fun KK hK2 => ?_)
                  go_simp
                  exact hK2 (A.put (some 26) (.bool false)) _ ⟨hFR.put (by decide) _, o0.q, o1.q, o2.q, o3.q, o4.q, o5.q, o6.q, o7.q, o8.q, o9.q, o10.q, .now (put_eq (by have hz := hsz.out; omega)), o12.q, o13.q, o14.q, o15.q, o16.q, o17.q, o18.q, o19.q, o20.q, o21.q, o22.q, o23.q, o24.q, o25.q, o26.q, o27.q, o28.q, o29.q, hK⟩
                · have e11 := o11 (ready_dep hm 11 (by kernel_rfl))
                  refine wpOp_step rfl (fun KK hK2 => ?_)
                  go_simp
                  exact hK2 (A.put (some 27) (.bool false)) _ ⟨hFR.put (by decide) _, o0.q, o1.q, o2.q, o3.q, o4.q, o5.q, o6.q, o7.q, o8.q, o9.q, o10.q, o11.q, .now (put_eq (by have hz := hsz.out; omega)), o13.q, o14.q, o15.q, o16.q, o17.q, o18.q, o19.q, o20.q, o21.q, o22.q, o23.q, o24.q, o25.q, o26.q, o27.q, o28.q, o29.q, hK⟩
                · have g := o12 (ready_dep hm 12 (by kernel_rfl))
                  refine wpOp_on (b := false) rfl rfl rfl g (fun KK hK2 => ?_)
                  go_simp
                  exact hK2 (A.put (some 28) (iv (((m + 1) : Nat) : Int))) _ ⟨hFR.put (by decide) _, o0.q, o1.q, o2.q, o3.q, o4.q, o5.q, o6.q, o7.q, o8.q, o9.q, o10.q, o11.q, o12.q, .now (put_eq (by have hz := hsz.out; omega)), o14.q, o15.q, o16.q, o17.q, o18.q, o19.q, o20.q, o21.q, o22.q, o23.q, o24.q, o25.q, o26.q, o27.q, o28.q, o29.q, hK⟩
                · have e13 := o13 (ready_dep hm 13 (by kernel_rfl))
                  have g := o12 (ready_dep hm 12 (by kernel_rfl))
                  refine wpOp_on (b := false) rfl rfl rfl g (fun KK hK2 => ?_)
                  go_simp
                  try rw [hz]
                  exact hK2 (A.put (some 29) (.bool true)) _ ⟨hFR.put (by decide) _, o0.q, o1.q, o2.q, o3.q, o4.q, o5.q, o6.q, o7.q, o8.q, o9.q, o10.q, o11.q, o12.q, o13.q, .now (put_eq (by have hz := hsz.out; omega)), o15.q, o16.q, o17.q, o18.q, o19.q, o20.q, o21.q, o22.q, o23.q, o24.q, o25.q, o26.q, o27.q, o28.q, o29.q, hK⟩
                · have e14 := o14 (ready_dep hm 14 (by kernel_rfl))
                  have g := o12 (ready_dep hm 12 (by kernel_rfl))
                  refine wpOp_on (b := false) rfl rfl rfl g (fun KK hK2 => ?_)
                  go_simp
                  exact hK2 (A.put (some 30) (.bool true)) _ ⟨hFR.put (by decide) _, o0.q, o1.q, o2.q, o3.q, o4.q, o5.q, o6.q, o7.q, o8.q, o9.q, o10.q, o11.q, o12.q, o13.q, o14.q, .now (put_eq (by have hz := hsz.out; omega)), o16.q, o17.q, o18.q, o19.q, o20.q, o21.q, o22.q, o23.q, o24.q, o25.q, o26.q, o27.q, o28.q, o29.q, hK⟩
                · have g := o15 (ready_dep hm 15 (by kernel_rfl))
                  refine wpOp_on (b := true) rfl rfl rfl g (fun KK hK2 => ?_)
                  go_simp
                  exact hK2 (A.put (some 31) (.pointer (some ⟨w.heap.size, 2, none⟩))) _ ⟨hFR.put (by decide) _, o0.q, o1.q, o2.q, o3.q, o4.q, o5.q, o6.q, o7.q, o8.q, o9.q, o10.q, o11.q, o12.q, o13.q, o14.q, o15.q, .now (put_eq (by have hz := hsz.out; omega)), o17.q, o18.q, o19.q, o20.q, o21.q, o22.q, o23.q, o24.q, o25.q, o26.q, o27.q, o28.q, o29.q, hK⟩
                · have e16 := o16 (ready_dep hm 16 (by kernel_rfl))
                  have BL := BS.out.kept0 hK
                  have x0 := BL.all
                  clear BL
                  have g := o15 (ready_dep hm 15 (by kernel_rfl))
                  refine wpOp_on (b := true) rfl rfl rfl g (fun KK hK2 => ?_)
                  go_simp
                  exact hK2 (A.put (some 32) (.slice (some ⟨g9, of9, none⟩) n ca)) _ ⟨hFR.put (by decide) _, o0.q, o1.q, o2.q, o3.q, o4.q, o5.q, o6.q, o7.q, o8.q, o9.q, o10.q, o11.q, o12.q, o13.q, o14.q, o15.q, o16.q, .now (put_eq (by have hz := hsz.out; omega)), o18.q, o19.q, o20.q, o21.q, o22.q, o23.q, o24.q, o25.q, o26.q, o27.q, o28.q, o29.q, hK⟩
                · have g := o15 (ready_dep hm 15 (by kernel_rfl))
                  refine wpOp_on (b := true) rfl rfl rfl g (fun KK hK2 => ?_)
                  go_simp
                  exact hK2 (A.put (some 33) (iv ((m + 1 : Nat) : Int))) _ ⟨hFR.put (by decide) _, o0.q, o1.q, o2.q, o3.q, o4.q, o5.q, o6.q, o7.q, o8.q, o9.q, o10.q, o11.q, o12.q, o13.q, o14.q, o15.q, o16.q, o17.q, .now (put_eq (by have hz := hsz.out; omega)), o19.q, o20.q, o21.q, o22.q, o23.q, o24.q, o25.q, o26.q, o27.q, o28.q, o29.q, hK⟩
                · have e18 := o18 (ready_dep hm 18 (by kernel_rfl))
                  have g := o15 (ready_dep hm 15 (by kernel_rfl))
                  refine wpOp_on (b := true) rfl rfl rfl g (fun KK hK2 => ?_)
                  go_simp
                  try rw [ew2]
                  exact hK2 (A.put (some 34) (iv (m : Int))) _ ⟨hFR.put (by decide) _, o0.q, o1.q, o2.q, o3.q, o4.q, o5.q, o6.q, o7.q, o8.q, o9.q, o10.q, o11.q, o12.q, o13.q, o14.q, o15.q, o16.q, o17.q, o18.q, .now (put_eq (by have hz := hsz.out; omega)), o20.q, o21.q, o22.q, o23.q, o24.q, o25.q, o26.q, o27.q, o28.q, o29.q, hK⟩
                · have e17 := o17 (ready_dep hm 17 (by kernel_rfl))
                  have e19 := o19 (ready_dep hm 19 (by kernel_rfl))
                  have g := o15 (ready_dep hm 15 (by kernel_rfl))
                  refine wpOp_on (b := true) rfl rfl rfl g (fun KK hK2 => ?_)
                  go_simp
                  try rw [if_pos (show m < n by omega)]
                  try go_simp
                  exact hK2 (A.put (some 35) (.pointer (some ⟨g9, of9 + m * 4, none⟩))) _ ⟨hFR.put (by decide) _, o0.q, o1.q, o2.q, o3.q, o4.q, o5.q, o6.q, o7.q, o8.q, o9.q, o10.q, o11.q, o12.q, o13.q, o14.q, o15.q, o16.q, o17.q, o18.q, o19.q, .now (put_eq (by have hz := hsz.out; omega)), o21.q, o22.q, o23.q, o24.q, o25.q, o26.q, o27.q, o28.q, o29.q, hK⟩
                · have e20 := o20 (ready_dep hm 20 (by kernel_rfl))
                  have g := o15 (ready_dep hm 15 (by kernel_rfl))
                  refine wpOp_on (b := true) rfl rfl rfl g (fun KK hK2 => ?_)
                  go_simp
                  exact hK2 (A.put (some 36) (.pointer (some ⟨g9, of9 + m * 4, none⟩))) _ ⟨hFR.put (by decide) _, o0.q, o1.q, o2.q, o3.q, o4.q, o5.q, o6.q, o7.q, o8.q, o9.q, o10.q, o11.q, o12.q, o13.q, o14.q, o15.q, o16.q, o17.q, o18.q, o19.q, o20.q, .now (put_eq (by have hz := hsz.out; omega)), o22.q, o23.q, o24.q, o25.q, o26.q, o27.q, o28.q, o29.q, hK⟩
                · have e21 := o21 (ready_dep hm 21 (by kernel_rfl))
                  have g := o15 (ready_dep hm 15 (by kernel_rfl))
                  refine wpOp_on (b := true) rfl rfl rfl g (fun KK hK2 => ?_)
                  go_simp
                  exact hK2 (A.put (some 37) (.pointer (some ⟨g9, of9 + m * 4, none⟩))) _ ⟨hFR.put (by decide) _, o0.q, o1.q, o2.q, o3.q, o4.q, o5.q, o6.q, o7.q, o8.q, o9.q, o10.q, o11.q, o12.q, o13.q, o14.q, o15.q, o16.q, o17.q, o18.q, o19.q, o20.q, o21.q, .now (put_eq (by have hz := hsz.out; omega)), o23.q, o24.q, o25.q, o26.q, o27.q, o28.q, o29.q, hK⟩
                · have e22 := o22 (ready_dep hm 22 (by kernel_rfl))
                  obtain ⟨g8, of8, b8, cb8, e8, q0, q1, q2, q3, q4⟩ := (HA.out.keptS (HKX.out.trans hK)).at4 (k := m) (by rw [← HN.out]; omega)
                  cases e8
                  have g := o15 (ready_dep hm 15 (by kernel_rfl))
                  refine wpOp_on (b := true) rfl rfl rfl g (fun KK hK2 => ?_)
                  go_simp
                  exact hK2 (A.put (some 38) (iv (Pl.ck us m).f)) _ ⟨hFR.put (by decide) _, o0.q, o1.q, o2.q, o3.q, o4.q, o5.q, o6.q, o7.q, o8.q, o9.q, o10.q, o11.q, o12.q, o13.q, o14.q, o15.q, o16.q, o17.q, o18.q, o19.q, o20.q, o21.q, o22.q, .now (put_eq (by have hz := hsz.out; omega)), o24.q, o25.q, o26.q, o27.q, o28.q, o29.q, hK⟩
                · have g := o15 (ready_dep hm 15 (by kernel_rfl))
                  refine wpOp_on (b := true) rfl rfl rfl g (fun KK hK2 => ?_)
                  go_simp
                  exact hK2 (A.put (some 39) (.pointer (some ⟨wr.heap.size, 0, none⟩))) _ ⟨hFR.put (by decide) _, o0.q, o1.q, o2.q, o3.q, o4.q, o5.q, o6.q, o7.q, o8.q, o9.q, o10.q, o11.q, o12.q, o13.q, o14.q, o15.q, o16.q, o17.q, o18.q, o19.q, o20.q, o21.q, o22.q, o23.q, .now (put_eq (by have hz := hsz.out; omega)), o25.q, o26.q, o27.q, o28.q, o29.q, hK⟩
                · have e24 := o24 (ready_dep hm 24 (by kernel_rfl))
                  have g := o15 (ready_dep hm 15 (by kernel_rfl))
                  refine wpOp_on (b := true) rfl rfl rfl g (fun KK hK2 => ?_)
                  go_simp
                  exact hK2 (A.put (some 40) (.pointer (some ⟨wr.heap.size, 0, none⟩))) _ ⟨hFR.put (by decide) _, o0.q, o1.q, o2.q, o3.q, o4.q, o5.q, o6.q, o7.q, o8.q, o9.q, o10.q, o11.q, o12.q, o13.q, o14.q, o15.q, o16.q, o17.q, o18.q, o19.q, o20.q, o21.q, o22.q, o23.q, o24.q, .now (put_eq (by have hz := hsz.out; omega)), o26.q, o27.q, o28.q, o29.q, hK⟩
                · have e25 := o25 (ready_dep hm 25 (by kernel_rfl))
                  have BL := BX.out.kept0 hK
                  have x0 := BL.all
                  clear BL
                  have g := o15 (ready_dep hm 15 (by kernel_rfl))
                  refine wpOp_on (b := true) rfl rfl rfl g (fun KK hK2 => ?_)
                  go_simp
                  exact hK2 (A.put (some 41) (iv (Pl.ck us (m + 1)).f)) _ ⟨hFR.put (by decide) _, o0.q, o1.q, o2.q, o3.q, o4.q, o5.q, o6.q, o7.q, o8.q, o9.q, o10.q, o11.q, o12.q, o13.q, o14.q, o15.q, o16.q, o17.q, o18.q, o19.q, o20.q, o21.q, o22.q, o23.q, o24.q, o25.q, .now (put_eq (by have hz := hsz.out; omega)), o27.q, o28.q, o29.q, hK⟩
                · have e23 := o23 (ready_dep hm 23 (by kernel_rfl))
                  have e26 := o26 (ready_dep hm 26 (by kernel_rfl))
                  have g := o15 (ready_dep hm 15 (by kernel_rfl))
                  refine wpOp_on (b := true) rfl rfl rfl g (fun KK hK2 => ?_)
                  go_simp
                  try rw [hF]
                  exact hK2 (A.put (some 42) (.bool true)) _ ⟨hFR.put (by decide) _, o0.q, o1.q, o2.q, o3.q, o4.q, o5.q, o6.q, o7.q, o8.q, o9.q, o10.q, o11.q, o12.q, o13.q, o14.q, o15.q, o16.q, o17.q, o18.q, o19.q, o20.q, o21.q, o22.q, o23.q, o24.q, o25.q, o26.q, .now (put_eq (by have hz := hsz.out; omega)), o28.q, o29.q, hK⟩
                · have e15 := o15 (ready_dep hm 15 (by kernel_rfl))
                  have e27 := o27 (ready_dep hm 27 (by kernel_rfl))
                  have g := o12 (ready_dep hm 12 (by kernel_rfl))
                  refine wpOp_on (b := false) rfl rfl rfl g (fun KK hK2 => ?_)
                  go_simp
                  exact hK2 (A.put (some 43) (.bool true)) _ ⟨hFR.put (by decide) _, o0.q, o1.q, o2.q, o3.q, o4.q, o5.q, o6.q, o7.q, o8.q, o9.q, o10.q, o11.q, o12.q, o13.q, o14.q, o15.q, o16.q, o17.q, o18.q, o19.q, o20.q, o21.q, o22.q, o23.q, o24.q, o25.q, o26.q, o27.q, .now (put_eq (by have hz := hsz.out; omega)), o29.q, hK⟩
                · have e12 := o12 (ready_dep hm 12 (by kernel_rfl))
                  have e28 := o28 (ready_dep hm 28 (by kernel_rfl))
                  refine wpOp_step rfl (fun KK hK2 => ?_)
                  go_simp
                  exact hK2 (A.put (some 44) (.bool true)) _ ⟨hFR.put (by decide) _, o0.q, o1.q, o2.q, o3.q, o4.q, o5.q, o6.q, o7.q, o8.q, o9.q, o10.q, o11.q, o12.q, o13.q, o14.q, o15.q, o16.q, o17.q, o18.q, o19.q, o20.q, o21.q, o22.q, o23.q, o24.q, o25.q, o26.q, o27.q, o28.q, .now (put_eq (by have hz := hsz.out; omega)), hK⟩
                · simp at hi1
                  omega
    · have hkn : k = n := by omega
      have p9 := BP.out.all
      cases h1 : (decide ((1 : Int) ≤ r) && decide (r ≤ 8))
      · have E : Hid (Pl.goodS r c us = false) := hide (Pl.goodS_no fun h => by have := h.r1; have := h.r8; simp at h1; omega)
        go_wp2_with (first | (go_at_call 41; refine st (l1In _ _ _ _) ?_; first | rw [h1] | rw [h2]))
        go_ret
        exact ⟨rB E.out.symm, HK.out⟩
      · cases h2 : (decide ((0 : Int) ≤ c) && decide (c ≤ 1000000))
        · have E : Hid (Pl.goodS r c us = false) := hide (Pl.goodS_no fun h => by have := h.c0; have := h.c1; simp at h2; omega)
          go_wp2_with (first | (go_at_call 41; refine st (l1In _ _ _ _) ?_; first | rw [h1] | rw [h2]))
          go_ret
          exact ⟨rB E.out.symm, HK.out⟩
        · cases h3 : decide ((n : Int) ≤ r)
          · have E : Hid (Pl.goodS r c us = false) := hide (Pl.goodS_no fun h => by have := h.lr; have h4 := HN.out; simp at h3; omega)
            go_wp2_with (first | (go_at_call 41; refine st (l1In _ _ _ _) ?_; first | rw [h1] | rw [h2]))
            go_ret
            exact ⟨rB E.out.symm, HK.out⟩
          · have E : Hid (Pl.goodS r c us = true) := hide (Pl.goodS_yes ⟨by simp at h1; omega, by simp at h1; omega, by simp at h2; omega, by simp at h2; omega, by have h4 := HN.out; simp at h3; omega, fun i hi => HL.out i (by have h4 := HN.out; omega)⟩)
            go_wp2_with (first | (go_at_call 41; refine st (l1In _ _ _ _) ?_; first | rw [h1] | rw [h2]))
            go_ret
            exact ⟨rB E.out.symm, HK.out⟩
end Go.Proofs.YtflnodadeajmcaaGreat

