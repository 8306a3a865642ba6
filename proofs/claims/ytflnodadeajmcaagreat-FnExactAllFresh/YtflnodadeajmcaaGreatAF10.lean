/- Whether the program takes two units for the same, and a unit for a good one. The words of a unit, of both sides. -/
import Derived.Test.YtflnodadeajmcaaGreatAF9
import Derived.Test.YtflnodadeajmcaaGreatAF4
import Derived.Deep.RegionHeld3
import Derived.Test.YtflnodadeajmcaaGreatAF8
import Derived.Test.YtflnodadeajmcaaGreatAF7
namespace Go.Proofs.YtflnodadeajmcaaGreat
open Go.RowKit
set_option linter.unusedVariables false
set_option linter.unusedSimpArgs false
theorem Pl.blockOk_out {ys : List Int} {n : Nat} (h : Pl.blockOk ys n = true) : 1 ≤ n ∧ n ≤ 8 ∧ (∀ k, k < n → Pl.inOk (Pl.inAt ys k) = true) ∧ (∀ k, k + 1 < n → Pl.straight (Pl.inAt ys k) = true) ∧ Pl.rowS ys (Pl.headN ys n) = true := by
  unfold Pl.blockOk at h
  simp only [Bool.and_eq_true, decide_eq_true_eq] at h
  obtain ⟨h1, h8, hl, hr⟩ := h
  have q := Pl.rowS_out hr
  have hn : n - 1 ≤ Pl.headN ys n := by unfold Pl.headN; split <;> omega
  refine ⟨h1, h8, fun k hk => ?_, fun k hk => (q k (by omega)).2, hr⟩
  by_cases e : k = n - 1
  · rw [e]; exact hl
  · exact (q k (by omega)).1
theorem Pl.GU.block {f t : Int} {n : Nat} {ys ts : List Int} {sk : List Bool} (h : Pl.GU f t n ys ts sk) : Pl.blockOk ys n = true := by
  unfold Pl.blockOk
  have h1 := h.n1
  rw [h.ok _ (by omega), h.head]
  simp [h.n1, h.n8]
/-- two lists of micros of the same instructions -/
def Pl.meq (n : Nat) (ts us : List Int) (sk tk : List Bool) : Bool := (List.range n).all fun k => (el ts k == el us k) && (bl sk k == bl tk k)
theorem Pl.meq_no {n k : Nat} {ts us : List Int} {sk tk : List Bool} (hk : k < n) (h : ((el ts k == el us k) && (bl sk k == bl tk k)) = false) : Pl.meq n ts us sk tk = false := by
  rw [Bool.eq_false_iff]
  intro q
  have := List.all_eq_true.1 q k (List.mem_range.2 hk)
  rw [h] at this
  cases this
theorem Pl.meq_yes {n : Nat} {ts us : List Int} {sk tk : List Bool} (h : ∀ k, k < n → ((el ts k == el us k) && (bl sk k == bl tk k)) = true) : Pl.meq n ts us sk tk = true :=
  List.all_eq_true.2 fun k hk => h k (List.mem_range.1 hk)
theorem Pl.goodU_same {f t : Int} {n : Nat} {ys ts us : List Int} {sk : List Bool} (h : Pl.blockOk ys n = true) (f0 : 0 ≤ f) (f1 : f ≤ 512) (fe : f % 2 = 0) (t1 : t ≤ 512) (hu : ∀ k, k < n → el us k = Pl.placeB ys f k) :
    Pl.goodU f t n ys ts sk = ((f == f) && ((t == Pl.placeB ys f n) && Pl.meq n ts us sk (Pl.skV ys n))) := by
  obtain ⟨n1, n8, ok, st, _⟩ := Pl.blockOk_out h
  rw [Bool.eq_iff_iff]
  constructor
  · intro q
    have g := Pl.goodU_out q
    rw [Pl.meq_yes fun k hk => by rw [g.pl k hk, hu k hk, g.sk k hk]; simp]
    simp [g.tw]
  · intro q
    simp only [Bool.and_eq_true, beq_iff_eq] at q
    obtain ⟨_, q1, q2⟩ := q
    have q3 : ∀ k, k < n → el ts k = el us k ∧ bl sk k = bl (Pl.skV ys n) k := fun k hk => by
      have := List.all_eq_true.1 q2 k (List.mem_range.2 hk)
      simpa using this
    exact Pl.goodU_yes ⟨n1, n8, f0, f1, fe, ok, fun k hk => (q3 k hk).1.trans (hu k hk), q1, t1, st, fun k hk => (q3 k hk).2⟩
theorem neMi (op z r m k e s t u : Int) (b c : Bool) (w : World) : (binOp .neq 126 (.agg #[iv op, iv z, iv r, iv m, iv k, iv e, iv s, iv t, .bool b]) (.agg #[iv op, iv z, iv r, iv m, iv k, iv e, iv s, iv u, .bool c])).run Tryz.prog w = .ok (.bool (!((t == u) && (b == c)))) w := by
  go_simp
  by_cases h : t = u <;> cases b <;> cases c <;> simp [h]
set_option maxRecDepth 20000 in
set_option maxHeartbeats 4000000 in
theorem implEqual (w : World) (a b : Option Addr) (ca cb n : Nat) (ys ts us : List Int) (sk tk : List Bool) (ha : MRow w a n ys ts sk) (hb : MRow w b n ys us tk) (bx : n ≤ 2000000) :
    Calls Tryz.prog 176 #[.slice a n ca, .slice b n cb] w fun e w' => e = .returned (.bool (Pl.meq n ts us sk tk)) ∧ Kept 0 0 w w' := by
  have HA := hide ha
  have HB := hide hb
  clear ha hb
  go_enter Tryz.func176, Tryz.ntmps176
  go_wp2_with fail
  go_loopw [13] (fun j wr => ∃ k : Nat, k ≤ n ∧ j = .int .i64 k ∧ (∀ i, i < k → ((el ts i == el us i) && (bl sk i == bl tk i)) = true) ∧ Kept 0 0 w wr) (fun j _ => n - (intOf j).toNat)
  case atStart => exact ⟨0, Nat.zero_le _, rfl, fun i hi => absurd hi (Nat.not_lt_zero i), Kept.refl _ _ _⟩
  case round =>
    obtain ⟨k, hk, rfl, hall, hkept⟩ := hrel
    have HK := hide hkept
    have HL := hide hall
    clear hkept hall
    by_cases hlt : k < n
    · obtain ⟨g1, off1, rfl, p0, p1, p2, p3, p4, p5, p6, p7, p8⟩ := (HA.out.keptS HK.out).at9 hlt
      obtain ⟨g2, off2, rfl, q0, q1, q2, q3, q4, q5, q6, q7, q8⟩ := (HB.out.keptS HK.out).at9 hlt
      cases hx : ((el ts k == el us k) && (bl sk k == bl tk k))
      · have hne : ∀ w, (binOp .neq 126 (.agg #[iv (el ys (k * 7)), iv (el ys (k * 7 + 1)), iv (el ys (k * 7 + 2)), iv (el ys (k * 7 + 3)), iv (el ys (k * 7 + 4)), iv (el ys (k * 7 + 5)), iv (el ys (k * 7 + 6)), iv (el ts k), .bool (bl sk k)]) (.agg #[iv (el ys (k * 7)), iv (el ys (k * 7 + 1)), iv (el ys (k * 7 + 2)), iv (el ys (k * 7 + 3)), iv (el ys (k * 7 + 4)), iv (el ys (k * 7 + 5)), iv (el ys (k * 7 + 6)), iv (el us k), .bool (bl tk k)])).run Tryz.prog w = .ok (.bool true) w := fun w => by rw [neMi, hx]; rfl
        have E := hide (Pl.meq_no hlt hx)
        go_wp2_with fail
        go_region_with fail
        all_goals
          go_wp2_with fail
          go_ret
          exact ⟨rB E.out.symm, kept_drew HK.out⟩
      · have hne : ∀ w, (binOp .neq 126 (.agg #[iv (el ys (k * 7)), iv (el ys (k * 7 + 1)), iv (el ys (k * 7 + 2)), iv (el ys (k * 7 + 3)), iv (el ys (k * 7 + 4)), iv (el ys (k * 7 + 5)), iv (el ys (k * 7 + 6)), iv (el ts k), .bool (bl sk k)]) (.agg #[iv (el ys (k * 7)), iv (el ys (k * 7 + 1)), iv (el ys (k * 7 + 2)), iv (el ys (k * 7 + 3)), iv (el ys (k * 7 + 4)), iv (el ys (k * 7 + 5)), iv (el ys (k * 7 + 6)), iv (el us k), .bool (bl tk k)])).run Tryz.prog w = .ok (.bool false) w := fun w => by rw [neMi, hx]; rfl
        go_wp2_with fail
        go_region_with fail
        all_goals
          go_wp2_with fail
          go_roundw
          case rel => exact ⟨k + 1, by omega, by go_num, snoc_all HL.out hx, kept_drew HK.out⟩
          case measure => simp [intOf]; omega
    · obtain rfl : k = n := by omega
      have E := hide (Pl.meq_yes HL.out)
      go_wp2_with fail
      go_ret
      exact ⟨rB E.out.symm, HK.out⟩
theorem implSame (w : World) (f t f' t' : Int) (a b : Option Addr) (ca cb n : Nat) (ys ts us : List Int) (sk tk : List Bool) (ha : MRow w a n ys ts sk) (hb : MRow w b n ys us tk) (bx : n ≤ 2000000) :
    Calls Tryz.prog 152 #[.agg #[iv f, iv t, .slice a n ca], .agg #[iv f', iv t', .slice b n cb]] w fun e w' => e = .returned (.bool ((f == f') && ((t == t') && Pl.meq n ts us sk tk))) ∧ Kept 0 0 w w' := by
  have K0 := hide (kept_new (kept_alloc w (.cells #[iv f, iv t, .slice a n ca] 46)) (.cells #[iv f', iv t', .slice b n cb] 46))
  have HA := hide (ha.keptS K0.out)
  have HB := hide (hb.keptS K0.out)
  clear ha hb
  obtain ⟨R, hR⟩ : ∃ R, R = Pl.meq n ts us sk tk := ⟨_, rfl⟩
  rw [← hR]
  have HR := hide hR
  clear hR
  cases h1 : (f == f')
  · go_enter Tryz.func152, Tryz.ntmps152
    go_wp2_with fail
    go_ret
    exact ⟨rB (by simp), K0.out⟩
  · cases h2 : (t == t')
    · go_enter Tryz.func152, Tryz.ntmps152
      go_wp2_with fail
      go_ret
      exact ⟨rB (by simp), K0.out⟩
    · go_enter Tryz.func152, Tryz.ntmps152
      go_wp2_with (first | (go_at_call 176; refine (implEqual _ a b ca cb n ys ts us sk tk HA.out HB.out bx).mono ?_; rw [← HR.out]; rintro e9 w2 ⟨rfl, k2⟩; have K2 := hide (K0.out.trans k2); clear k2))
      go_ret
      exact ⟨rB (by simp), K2.out⟩
set_option maxRecDepth 100000 in
set_option maxHeartbeats 16000000 in
theorem implGoodUnit (w : World) (f t : Int) (a : Option Addr) (ca n : Nat) (ys ts : List Int) (sk : List Bool) (ha : MRow w a n ys ts sk) (ly : ys.length = 7 * n) (wy : Wide ys) (bx : n ≤ 2000000) :
    Calls Tryz.prog 126 #[.agg #[iv f, iv t, .slice a n ca]] w fun e w' => e = .returned (.bool (Pl.goodU f t n ys ts sk)) ∧ Kept 0 0 w w' := by
  have K0 := hide (kept_alloc w (.cells #[iv f, iv t, .slice a n ca] 46))
  have B0 := hide (Blk.new w #[iv f, iv t, .slice a n ca] 46)
  have e1 : (w.alloc (.cells #[iv f, iv t, .slice a n ca] 46)).heap.size = w.heap.size + 1 := by simp
  have HA := hide ha
  have HY := hide ly
  have HW := hide wy
  clear ha ly wy
  cases hA : decide (0 ≤ f) && (decide (f ≤ 512) && (f % 2 == 0))
  · have E : Hid (Pl.goodU f t n ys ts sk = false) := hide (Pl.goodU_no fun h => by have h1 := h.f0; have h8 := h.f1; have h9 := h.fe; simp at hA; omega)
    go_enter Tryz.func126, Tryz.ntmps126
    go_wp2_with (go_at_call 150; refine (instrOf _ f t a ca n ys ts sk (HA.out.keptS K0.out) HY.out bx).mono ?_; rintro e9 w2 ⟨rfl, o2, s2, k2⟩; rw [e1]; rw [e1] at o2; have B2 := hide (B0.out.kept0 k2); have K2 := hide (K0.out.trans k2); have O2 := hide o2; have p2 := B2.out.all; clear k2 o2 s2)
    refine wp_region_inv2 (fun A0 l A W => FR [6, 7, 8, 9, 10, 11, 12, 13, 14, 15, 16, 17, 18, 19, 20, 21, 22, 23, 24, 25, 2] A0 A ∧ Once l 0 (A.tmps[6]? = some (.pointer (some ⟨w.heap.size, 0, none⟩))) ∧ Once l 1 (A.tmps[7]? = some (iv f)) ∧ Once l 2 (A.tmps[8]? = some (.bool false)) ∧ Once l 3 (A.tmps[9]? = some (.bool false)) ∧ Once l 4 (A.tmps[10]? = some (undef)) ∧ Once l 5 (A.tmps[11]? = some (undef)) ∧ Once l 6 (A.tmps[12]? = some (undef)) ∧ Once l 7 (A.tmps[13]? = some (.bool false)) ∧ Once l 8 (A.tmps[14]? = some (.bool false)) ∧ Once l 9 (A.tmps[15]? = some (undef)) ∧ Once l 10 (A.tmps[16]? = some (undef)) ∧ Once l 11 (A.tmps[17]? = some (.bool false)) ∧ Once l 12 (A.tmps[18]? = some (.bool false)) ∧ Once l 13 (A.tmps[19]? = some (undef)) ∧ Once l 14 (A.tmps[20]? = some (undef)) ∧ Once l 15 (A.tmps[21]? = some (undef)) ∧ Once l 16 (A.tmps[22]? = some (undef)) ∧ Once l 17 (A.tmps[23]? = some (undef)) ∧ Once l 18 (A.tmps[24]? = some (undef)) ∧ Once l 19 (A.tmps[25]? = some (.bool false)) ∧ Once l 20 (A.tmps[2]? = some (.bool false)) ∧ Kept 0 0 w2 W) (by kernel_rfl) (by kernel_rfl) ?start ?fin ?step
    case start => exact ⟨FR.refl _ _, once_start (by decide), once_start (by decide), once_start (by decide), once_start (by decide), once_start (by decide), once_start (by decide), once_start (by decide), once_start (by decide), once_start (by decide), once_start (by decide), once_start (by decide), once_start (by decide), once_start (by decide), once_start (by decide), once_start (by decide), once_start (by decide), once_start (by decide), once_start (by decide), once_start (by decide), once_start (by decide), once_start (by decide), kept_drew (Kept.refl _ _ _)⟩
    case fin =>
      intro l A W h hl
      obtain ⟨hFR, o0, o1, o2, o3, o4, o5, o6, o7, o8, o9, o10, o11, o12, o13, o14, o15, o16, o17, o18, o19, o20, hK⟩ := h
      have g20 := o20 (hl 20 (by decide))
      have QQ := hide hK
      have hc9 := hFR.chain
      simp only [List.foldl] at hc9
      rw [getD_of g20] at hc9
      clear hl hK hFR g20 o0 o1 o2 o3 o4 o5 o6 o7 o8 o9 o10 o11 o12 o13 o14 o15 o16 o17 o18 o19 o20
      generalize A.tmps.getD 6 undef = s6 at hc9
      generalize A.tmps.getD 7 undef = s7 at hc9
      generalize A.tmps.getD 8 undef = s8 at hc9
      generalize A.tmps.getD 9 undef = s9 at hc9
      generalize A.tmps.getD 10 undef = s10 at hc9
      generalize A.tmps.getD 11 undef = s11 at hc9
      generalize A.tmps.getD 12 undef = s12 at hc9
      generalize A.tmps.getD 13 undef = s13 at hc9
      generalize A.tmps.getD 14 undef = s14 at hc9
      generalize A.tmps.getD 15 undef = s15 at hc9
      generalize A.tmps.getD 16 undef = s16 at hc9
      generalize A.tmps.getD 17 undef = s17 at hc9
      generalize A.tmps.getD 18 undef = s18 at hc9
      generalize A.tmps.getD 19 undef = s19 at hc9
      generalize A.tmps.getD 20 undef = s20 at hc9
      generalize A.tmps.getD 21 undef = s21 at hc9
      generalize A.tmps.getD 22 undef = s22 at hc9
      generalize A.tmps.getD 23 undef = s23 at hc9
      generalize A.tmps.getD 24 undef = s24 at hc9
      generalize A.tmps.getD 25 undef = s25 at hc9
      subst hc9
      go_simp
      go_wp2_with fail
      go_ret
      exact ⟨rB E.out.symm, K2.out.trans QQ.out⟩
    case step =>
      intro l A W i hI hm
      obtain ⟨hFR, o0, o1, o2, o3, o4, o5, o6, o7, o8, o9, o10, o11, o12, o13, o14, o15, o16, o17, o18, o19, o20, hK⟩ := hI
      obtain ⟨hi1, hi2⟩ := ready_new hm
      have hsz : Hid (25 < A.tmps.size) := hide (by rw [hFR.size]; simp)
      have m1 : A.tmps[1]? = some (.pointer (some ⟨w.heap.size, 0, none⟩)) := (hFR.out 1 (by decide)).trans rfl
      have m3 : A.tmps[3]? = some (.slice (some ⟨w.heap.size + 1 + 1, 0, none⟩) n n) := (hFR.out 3 (by decide)).trans rfl
      rcases i with _ | _ | _ | _ | _ | _ | _ | _ | _ | _ | _ | _ | _ | _ | _ | _ | _ | _ | _ | _ | _ | i
      · refine wpOp_step rfl (fun KK hK2 => ?_)
        go_simp
        exact hK2 (A.put (some 6) (.pointer (some ⟨w.heap.size, 0, none⟩))) _ ⟨hFR.put (by decide) _, .now (put_eq (by have hz := hsz.out; omega)), o1.q, o2.q, o3.q, o4.q, o5.q, o6.q, o7.q, o8.q, o9.q, o10.q, o11.q, o12.q, o13.q, o14.q, o15.q, o16.q, o17.q, o18.q, o19.q, o20.q, hK⟩
      · have e0 := o0 (ready_dep hm 0 (by kernel_rfl))
        have BL := B2.out.kept0 hK
        have x0 := BL.all
        clear BL
        refine wpOp_step rfl (fun KK hK2 => ?_)
        go_simp
        exact hK2 (A.put (some 7) (iv f)) _ ⟨hFR.put (by decide) _, o0.q, .now (put_eq (by have hz := hsz.out; omega)), o2.q, o3.q, o4.q, o5.q, o6.q, o7.q, o8.q, o9.q, o10.q, o11.q, o12.q, o13.q, o14.q, o15.q, o16.q, o17.q, o18.q, o19.q, o20.q, hK⟩
      · have e1 := o1 (ready_dep hm 1 (by kernel_rfl))
        refine wpOp_step rfl (fun KK hK2 => ?_)
        go_simp
        refine st (isCodePlace _ _) ?_
        rw [hA]
        go_simp
        exact hK2 (A.put (some 8) (.bool false)) _ ⟨hFR.put (by decide) _, o0.q, o1.q, .now (put_eq (by have hz := hsz.out; omega)), o3.q, o4.q, o5.q, o6.q, o7.q, o8.q, o9.q, o10.q, o11.q, o12.q, o13.q, o14.q, o15.q, o16.q, o17.q, o18.q, o19.q, o20.q, hK⟩
      · have e2 := o2 (ready_dep hm 2 (by kernel_rfl))
        refine wpOp_step rfl (fun KK hK2 => ?_)
        go_simp
        exact hK2 (A.put (some 9) (.bool false)) _ ⟨hFR.put (by decide) _, o0.q, o1.q, o2.q, .now (put_eq (by have hz := hsz.out; omega)), o4.q, o5.q, o6.q, o7.q, o8.q, o9.q, o10.q, o11.q, o12.q, o13.q, o14.q, o15.q, o16.q, o17.q, o18.q, o19.q, o20.q, hK⟩
      · have g := o3 (ready_dep hm 3 (by kernel_rfl))
        refine wpOp_off (b := true) (c := false) rfl rfl rfl g (by decide) ?_
        exact ⟨hFR.put (by decide) _, o0.q, o1.q, o2.q, o3.q, .now (put_eq (by have hz := hsz.out; omega)), o5.q, o6.q, o7.q, o8.q, o9.q, o10.q, o11.q, o12.q, o13.q, o14.q, o15.q, o16.q, o17.q, o18.q, o19.q, o20.q, hK⟩
      · have e4 := o4 (ready_dep hm 4 (by kernel_rfl))
        have g := o3 (ready_dep hm 3 (by kernel_rfl))
        refine wpOp_off (b := true) (c := false) rfl rfl rfl g (by decide) ?_
        exact ⟨hFR.put (by decide) _, o0.q, o1.q, o2.q, o3.q, o4.q, .now (put_eq (by have hz := hsz.out; omega)), o6.q, o7.q, o8.q, o9.q, o10.q, o11.q, o12.q, o13.q, o14.q, o15.q, o16.q, o17.q, o18.q, o19.q, o20.q, hK⟩
      · have e5 := o5 (ready_dep hm 5 (by kernel_rfl))
        have g := o3 (ready_dep hm 3 (by kernel_rfl))
        refine wpOp_off (b := true) (c := false) rfl rfl rfl g (by decide) ?_
        exact ⟨hFR.put (by decide) _, o0.q, o1.q, o2.q, o3.q, o4.q, o5.q, .now (put_eq (by have hz := hsz.out; omega)), o7.q, o8.q, o9.q, o10.q, o11.q, o12.q, o13.q, o14.q, o15.q, o16.q, o17.q, o18.q, o19.q, o20.q, hK⟩
      · have e3 := o3 (ready_dep hm 3 (by kernel_rfl))
        have e6 := o6 (ready_dep hm 6 (by kernel_rfl))
        refine wpOp_step rfl (fun KK hK2 => ?_)
        go_simp
        exact hK2 (A.put (some 13) (.bool false)) _ ⟨hFR.put (by decide) _, o0.q, o1.q, o2.q, o3.q, o4.q, o5.q, o6.q, .now (put_eq (by have hz := hsz.out; omega)), o8.q, o9.q, o10.q, o11.q, o12.q, o13.q, o14.q, o15.q, o16.q, o17.q, o18.q, o19.q, o20.q, hK⟩
      · have e7 := o7 (ready_dep hm 7 (by kernel_rfl))
        refine wpOp_step rfl (fun KK hK2 => ?_)
        go_simp
        exact hK2 (A.put (some 14) (.bool false)) _ ⟨hFR.put (by decide) _, o0.q, o1.q, o2.q, o3.q, o4.q, o5.q, o6.q, o7.q, .now (put_eq (by have hz := hsz.out; omega)), o9.q, o10.q, o11.q, o12.q, o13.q, o14.q, o15.q, o16.q, o17.q, o18.q, o19.q, o20.q, hK⟩
      · have g := o8 (ready_dep hm 8 (by kernel_rfl))
        refine wpOp_off (b := true) (c := false) rfl rfl rfl g (by decide) ?_
        exact ⟨hFR.put (by decide) _, o0.q, o1.q, o2.q, o3.q, o4.q, o5.q, o6.q, o7.q, o8.q, .now (put_eq (by have hz := hsz.out; omega)), o10.q, o11.q, o12.q, o13.q, o14.q, o15.q, o16.q, o17.q, o18.q, o19.q, o20.q, hK⟩
      · have e9 := o9 (ready_dep hm 9 (by kernel_rfl))
        have g := o8 (ready_dep hm 8 (by kernel_rfl))
        refine wpOp_off (b := true) (c := false) rfl rfl rfl g (by decide) ?_
        exact ⟨hFR.put (by decide) _, o0.q, o1.q, o2.q, o3.q, o4.q, o5.q, o6.q, o7.q, o8.q, o9.q, .now (put_eq (by have hz := hsz.out; omega)), o11.q, o12.q, o13.q, o14.q, o15.q, o16.q, o17.q, o18.q, o19.q, o20.q, hK⟩
      · have e8 := o8 (ready_dep hm 8 (by kernel_rfl))
        have e10 := o10 (ready_dep hm 10 (by kernel_rfl))
        refine wpOp_step rfl (fun KK hK2 => ?_)
        go_simp
        exact hK2 (A.put (some 17) (.bool false)) _ ⟨hFR.put (by decide) _, o0.q, o1.q, o2.q, o3.q, o4.q, o5.q, o6.q, o7.q, o8.q, o9.q, o10.q, .now (put_eq (by have hz := hsz.out; omega)), o12.q, o13.q, o14.q, o15.q, o16.q, o17.q, o18.q, o19.q, o20.q, hK⟩
      · have e11 := o11 (ready_dep hm 11 (by kernel_rfl))
        refine wpOp_step rfl (fun KK hK2 => ?_)
        go_simp
        exact hK2 (A.put (some 18) (.bool false)) _ ⟨hFR.put (by decide) _, o0.q, o1.q, o2.q, o3.q, o4.q, o5.q, o6.q, o7.q, o8.q, o9.q, o10.q, o11.q, .now (put_eq (by have hz := hsz.out; omega)), o13.q, o14.q, o15.q, o16.q, o17.q, o18.q, o19.q, o20.q, hK⟩
      · have g := o12 (ready_dep hm 12 (by kernel_rfl))
        refine wpOp_off (b := true) (c := false) rfl rfl rfl g (by decide) ?_
        exact ⟨hFR.put (by decide) _, o0.q, o1.q, o2.q, o3.q, o4.q, o5.q, o6.q, o7.q, o8.q, o9.q, o10.q, o11.q, o12.q, .now (put_eq (by have hz := hsz.out; omega)), o14.q, o15.q, o16.q, o17.q, o18.q, o19.q, o20.q, hK⟩
      · have g := o12 (ready_dep hm 12 (by kernel_rfl))
        refine wpOp_off (b := true) (c := false) rfl rfl rfl g (by decide) ?_
        exact ⟨hFR.put (by decide) _, o0.q, o1.q, o2.q, o3.q, o4.q, o5.q, o6.q, o7.q, o8.q, o9.q, o10.q, o11.q, o12.q, o13.q, .now (put_eq (by have hz := hsz.out; omega)), o15.q, o16.q, o17.q, o18.q, o19.q, o20.q, hK⟩
      · have e14 := o14 (ready_dep hm 14 (by kernel_rfl))
        have g := o12 (ready_dep hm 12 (by kernel_rfl))
        refine wpOp_off (b := true) (c := false) rfl rfl rfl g (by decide) ?_
        exact ⟨hFR.put (by decide) _, o0.q, o1.q, o2.q, o3.q, o4.q, o5.q, o6.q, o7.q, o8.q, o9.q, o10.q, o11.q, o12.q, o13.q, o14.q, .now (put_eq (by have hz := hsz.out; omega)), o16.q, o17.q, o18.q, o19.q, o20.q, hK⟩
      · have g := o12 (ready_dep hm 12 (by kernel_rfl))
        refine wpOp_off (b := true) (c := false) rfl rfl rfl g (by decide) ?_
        exact ⟨hFR.put (by decide) _, o0.q, o1.q, o2.q, o3.q, o4.q, o5.q, o6.q, o7.q, o8.q, o9.q, o10.q, o11.q, o12.q, o13.q, o14.q, o15.q, .now (put_eq (by have hz := hsz.out; omega)), o17.q, o18.q, o19.q, o20.q, hK⟩
      · have e15 := o15 (ready_dep hm 15 (by kernel_rfl))
        have e16 := o16 (ready_dep hm 16 (by kernel_rfl))
        have g := o12 (ready_dep hm 12 (by kernel_rfl))
        refine wpOp_off (b := true) (c := false) rfl rfl rfl g (by decide) ?_
        exact ⟨hFR.put (by decide) _, o0.q, o1.q, o2.q, o3.q, o4.q, o5.q, o6.q, o7.q, o8.q, o9.q, o10.q, o11.q, o12.q, o13.q, o14.q, o15.q, o16.q, .now (put_eq (by have hz := hsz.out; omega)), o18.q, o19.q, o20.q, hK⟩
      · have e13 := o13 (ready_dep hm 13 (by kernel_rfl))
        have e17 := o17 (ready_dep hm 17 (by kernel_rfl))
        have g := o12 (ready_dep hm 12 (by kernel_rfl))
        refine wpOp_off (b := true) (c := false) rfl rfl rfl g (by decide) ?_
        exact ⟨hFR.put (by decide) _, o0.q, o1.q, o2.q, o3.q, o4.q, o5.q, o6.q, o7.q, o8.q, o9.q, o10.q, o11.q, o12.q, o13.q, o14.q, o15.q, o16.q, o17.q, .now (put_eq (by have hz := hsz.out; omega)), o19.q, o20.q, hK⟩
      · have e12 := o12 (ready_dep hm 12 (by kernel_rfl))
        have e18 := o18 (ready_dep hm 18 (by kernel_rfl))
        refine wpOp_step rfl (fun KK hK2 => ?_)
        go_simp
        exact hK2 (A.put (some 25) (.bool false)) _ ⟨hFR.put (by decide) _, o0.q, o1.q, o2.q, o3.q, o4.q, o5.q, o6.q, o7.q, o8.q, o9.q, o10.q, o11.q, o12.q, o13.q, o14.q, o15.q, o16.q, o17.q, o18.q, .now (put_eq (by have hz := hsz.out; omega)), o20.q, hK⟩
      · have e19 := o19 (ready_dep hm 19 (by kernel_rfl))
        refine wpOp_step rfl (fun KK hK2 => ?_)
        go_simp
        exact hK2 (A.put (some 2) (.bool false)) _ ⟨hFR.put (by decide) _, o0.q, o1.q, o2.q, o3.q, o4.q, o5.q, o6.q, o7.q, o8.q, o9.q, o10.q, o11.q, o12.q, o13.q, o14.q, o15.q, o16.q, o17.q, o18.q, o19.q, .now (put_eq (by have hz := hsz.out; omega)), hK⟩
      · simp at hi1
        omega
  · have hf : 0 ≤ f ∧ f ≤ 512 ∧ f % 2 = 0 := by simpa using hA
    obtain ⟨f0, f1, fe⟩ := hf
    cases hB : decide (t ≤ 512)
    · have E : Hid (Pl.goodU f t n ys ts sk = false) := hide (Pl.goodU_no fun h => by have h1 := h.t1; simp at hB; omega)
      go_enter Tryz.func126, Tryz.ntmps126
      go_wp2_with (go_at_call 150; refine (instrOf _ f t a ca n ys ts sk (HA.out.keptS K0.out) HY.out bx).mono ?_; rintro e9 w2 ⟨rfl, o2, s2, k2⟩; rw [e1]; rw [e1] at o2; have B2 := hide (B0.out.kept0 k2); have K2 := hide (K0.out.trans k2); have O2 := hide o2; have p2 := B2.out.all; clear k2 o2 s2)
      refine wp_region_inv2 (fun A0 l A W => FR [6, 7, 8, 9, 10, 11, 12, 13, 14, 15, 16, 17, 18, 19, 20, 21, 22, 23, 24, 25, 2] A0 A ∧ Once l 0 (A.tmps[6]? = some (.pointer (some ⟨w.heap.size, 0, none⟩))) ∧ Once l 1 (A.tmps[7]? = some (iv f)) ∧ Once l 2 (A.tmps[8]? = some (.bool true)) ∧ Once l 3 (A.tmps[9]? = some (.bool true)) ∧ Once l 4 (A.tmps[10]? = some (.pointer (some ⟨w.heap.size, 1, none⟩))) ∧ Once l 5 (A.tmps[11]? = some (iv t)) ∧ Once l 6 (A.tmps[12]? = some (.bool false)) ∧ Once l 7 (A.tmps[13]? = some (.bool false)) ∧ Once l 8 (A.tmps[14]? = some (.bool false)) ∧ Once l 9 (A.tmps[15]? = some (undef)) ∧ Once l 10 (A.tmps[16]? = some (undef)) ∧ Once l 11 (A.tmps[17]? = some (.bool false)) ∧ Once l 12 (A.tmps[18]? = some (.bool false)) ∧ Once l 13 (A.tmps[19]? = some (undef)) ∧ Once l 14 (A.tmps[20]? = some (undef)) ∧ Once l 15 (A.tmps[21]? = some (undef)) ∧ Once l 16 (A.tmps[22]? = some (undef)) ∧ Once l 17 (A.tmps[23]? = some (undef)) ∧ Once l 18 (A.tmps[24]? = some (undef)) ∧ Once l 19 (A.tmps[25]? = some (.bool false)) ∧ Once l 20 (A.tmps[2]? = some (.bool false)) ∧ Kept 0 0 w2 W) (by kernel_rfl) (by kernel_rfl) ?start ?fin ?step
      case start => exact ⟨FR.refl _ _, once_start (by decide), once_start (by decide), once_start (by decide), once_start (by decide), once_start (by decide), once_start (by decide), once_start (by decide), once_start (by decide), once_start (by decide), once_start (by decide), once_start (by decide), once_start (by decide), once_start (by decide), once_start (by decide), once_start (by decide), once_start (by decide), once_start (by decide), once_start (by decide), once_start (by decide), once_start (by decide), once_start (by decide), kept_drew (Kept.refl _ _ _)⟩
      case fin =>
        intro l A W h hl
        obtain ⟨hFR, o0, o1, o2, o3, o4, o5, o6, o7, o8, o9, o10, o11, o12, o13, o14, o15, o16, o17, o18, o19, o20, hK⟩ := h
        have g20 := o20 (hl 20 (by decide))
        have QQ := hide hK
        have hc9 := hFR.chain
        simp only [List.foldl] at hc9
        rw [getD_of g20] at hc9
        clear hl hK hFR g20 o0 o1 o2 o3 o4 o5 o6 o7 o8 o9 o10 o11 o12 o13 o14 o15 o16 o17 o18 o19 o20
        generalize A.tmps.getD 6 undef = s6 at hc9
        generalize A.tmps.getD 7 undef = s7 at hc9
        generalize A.tmps.getD 8 undef = s8 at hc9
        generalize A.tmps.getD 9 undef = s9 at hc9
        generalize A.tmps.getD 10 undef = s10 at hc9
        generalize A.tmps.getD 11 undef = s11 at hc9
        generalize A.tmps.getD 12 undef = s12 at hc9
        generalize A.tmps.getD 13 undef = s13 at hc9
        generalize A.tmps.getD 14 undef = s14 at hc9
        generalize A.tmps.getD 15 undef = s15 at hc9
        generalize A.tmps.getD 16 undef = s16 at hc9
        generalize A.tmps.getD 17 undef = s17 at hc9
        generalize A.tmps.getD 18 undef = s18 at hc9
        generalize A.tmps.getD 19 undef = s19 at hc9
        generalize A.tmps.getD 20 undef = s20 at hc9
        generalize A.tmps.getD 21 undef = s21 at hc9
        generalize A.tmps.getD 22 undef = s22 at hc9
        generalize A.tmps.getD 23 undef = s23 at hc9
        generalize A.tmps.getD 24 undef = s24 at hc9
        generalize A.tmps.getD 25 undef = s25 at hc9
        subst hc9
        go_simp
        go_wp2_with fail
        go_ret
        exact ⟨rB E.out.symm, K2.out.trans QQ.out⟩
      case step =>
        intro l A W i hI hm
        obtain ⟨hFR, o0, o1, o2, o3, o4, o5, o6, o7, o8, o9, o10, o11, o12, o13, o14, o15, o16, o17, o18, o19, o20, hK⟩ := hI
        obtain ⟨hi1, hi2⟩ := ready_new hm
        have hsz : Hid (25 < A.tmps.size) := hide (by rw [hFR.size]; simp)
        have m1 : A.tmps[1]? = some (.pointer (some ⟨w.heap.size, 0, none⟩)) := (hFR.out 1 (by decide)).trans rfl
        have m3 : A.tmps[3]? = some (.slice (some ⟨w.heap.size + 1 + 1, 0, none⟩) n n) := (hFR.out 3 (by decide)).trans rfl
        rcases i with _ | _ | _ | _ | _ | _ | _ | _ | _ | _ | _ | _ | _ | _ | _ | _ | _ | _ | _ | _ | _ | i
        · refine wpOp_step rfl (fun KK hK2 => ?_)
          go_simp
          exact hK2 (A.put (some 6) (.pointer (some ⟨w.heap.size, 0, none⟩))) _ ⟨hFR.put (by decide) _, .now (put_eq (by have hz := hsz.out; omega)), o1.q, o2.q, o3.q, o4.q, o5.q, o6.q, o7.q, o8.q, o9.q, o10.q, o11.q, o12.q, o13.q, o14.q, o15.q, o16.q, o17.q, o18.q, o19.q, o20.q, hK⟩
        · have e0 := o0 (ready_dep hm 0 (by kernel_rfl))
          have BL := B2.out.kept0 hK
          have x0 := BL.all
          clear BL
          refine wpOp_step rfl (fun KK hK2 => ?_)
          go_simp
          exact hK2 (A.put (some 7) (iv f)) _ ⟨hFR.put (by decide) _, o0.q, .now (put_eq (by have hz := hsz.out; omega)), o2.q, o3.q, o4.q, o5.q, o6.q, o7.q, o8.q, o9.q, o10.q, o11.q, o12.q, o13.q, o14.q, o15.q, o16.q, o17.q, o18.q, o19.q, o20.q, hK⟩
        · have e1 := o1 (ready_dep hm 1 (by kernel_rfl))
          refine wpOp_step rfl (fun KK hK2 => ?_)
          go_simp
          refine st (isCodePlace _ _) ?_
          rw [hA]
          go_simp
          exact hK2 (A.put (some 8) (.bool true)) _ ⟨hFR.put (by decide) _, o0.q, o1.q, .now (put_eq (by have hz := hsz.out; omega)), o3.q, o4.q, o5.q, o6.q, o7.q, o8.q, o9.q, o10.q, o11.q, o12.q, o13.q, o14.q, o15.q, o16.q, o17.q, o18.q, o19.q, o20.q, hK⟩
        · have e2 := o2 (ready_dep hm 2 (by kernel_rfl))
          refine wpOp_step rfl (fun KK hK2 => ?_)
          go_simp
          exact hK2 (A.put (some 9) (.bool true)) _ ⟨hFR.put (by decide) _, o0.q, o1.q, o2.q, .now (put_eq (by have hz := hsz.out; omega)), o4.q, o5.q, o6.q, o7.q, o8.q, o9.q, o10.q, o11.q, o12.q, o13.q, o14.q, o15.q, o16.q, o17.q, o18.q, o19.q, o20.q, hK⟩
        · have g := o3 (ready_dep hm 3 (by kernel_rfl))
          refine wpOp_on (b := true) rfl rfl rfl g (fun KK hK2 => ?_)
          go_simp
          exact hK2 (A.put (some 10) (.pointer (some ⟨w.heap.size, 1, none⟩))) _ ⟨hFR.put (by decide) _, o0.q, o1.q, o2.q, o3.q, .now (put_eq (by have hz := hsz.out; omega)), o5.q, o6.q, o7.q, o8.q, o9.q, o10.q, o11.q, o12.q, o13.q, o14.q, o15.q, o16.q, o17.q, o18.q, o19.q, o20.q, hK⟩
        · have e4 := o4 (ready_dep hm 4 (by kernel_rfl))
          have BL := B2.out.kept0 hK
          have x0 := BL.all
          clear BL
          have g := o3 (ready_dep hm 3 (by kernel_rfl))
          refine wpOp_on (b := true) rfl rfl rfl g (fun KK hK2 => ?_)
          go_simp
          exact hK2 (A.put (some 11) (iv t)) _ ⟨hFR.put (by decide) _, o0.q, o1.q, o2.q, o3.q, o4.q, .now (put_eq (by have hz := hsz.out; omega)), o6.q, o7.q, o8.q, o9.q, o10.q, o11.q, o12.q, o13.q, o14.q, o15.q, o16.q, o17.q, o18.q, o19.q, o20.q, hK⟩
        · have e5 := o5 (ready_dep hm 5 (by kernel_rfl))
          have g := o3 (ready_dep hm 3 (by kernel_rfl))
          refine wpOp_on (b := true) rfl rfl rfl g (fun KK hK2 => ?_)
          go_simp
          try rw [hB]
          exact hK2 (A.put (some 12) (.bool false)) _ ⟨hFR.put (by decide) _, o0.q, o1.q, o2.q, o3.q, o4.q, o5.q, .now (put_eq (by have hz := hsz.out; omega)), o7.q, o8.q, o9.q, o10.q, o11.q, o12.q, o13.q, o14.q, o15.q, o16.q, o17.q, o18.q, o19.q, o20.q, hK⟩
        · have e3 := o3 (ready_dep hm 3 (by kernel_rfl))
          have e6 := o6 (ready_dep hm 6 (by kernel_rfl))
          refine wpOp_step rfl (fun KK hK2 => ?_)
          go_simp
          exact hK2 (A.put (some 13) (.bool false)) _ ⟨hFR.put (by decide) _, o0.q, o1.q, o2.q, o3.q, o4.q, o5.q, o6.q, .now (put_eq (by have hz := hsz.out; omega)), o8.q, o9.q, o10.q, o11.q, o12.q, o13.q, o14.q, o15.q, o16.q, o17.q, o18.q, o19.q, o20.q, hK⟩
        · have e7 := o7 (ready_dep hm 7 (by kernel_rfl))
          refine wpOp_step rfl (fun KK hK2 => ?_)
          go_simp
          exact hK2 (A.put (some 14) (.bool false)) _ ⟨hFR.put (by decide) _, o0.q, o1.q, o2.q, o3.q, o4.q, o5.q, o6.q, o7.q, .now (put_eq (by have hz := hsz.out; omega)), o9.q, o10.q, o11.q, o12.q, o13.q, o14.q, o15.q, o16.q, o17.q, o18.q, o19.q, o20.q, hK⟩
        · have g := o8 (ready_dep hm 8 (by kernel_rfl))
          refine wpOp_off (b := true) (c := false) rfl rfl rfl g (by decide) ?_
          exact ⟨hFR.put (by decide) _, o0.q, o1.q, o2.q, o3.q, o4.q, o5.q, o6.q, o7.q, o8.q, .now (put_eq (by have hz := hsz.out; omega)), o10.q, o11.q, o12.q, o13.q, o14.q, o15.q, o16.q, o17.q, o18.q, o19.q, o20.q, hK⟩
        · have e9 := o9 (ready_dep hm 9 (by kernel_rfl))
          have g := o8 (ready_dep hm 8 (by kernel_rfl))
          refine wpOp_off (b := true) (c := false) rfl rfl rfl g (by decide) ?_
          exact ⟨hFR.put (by decide) _, o0.q, o1.q, o2.q, o3.q, o4.q, o5.q, o6.q, o7.q, o8.q, o9.q, .now (put_eq (by have hz := hsz.out; omega)), o11.q, o12.q, o13.q, o14.q, o15.q, o16.q, o17.q, o18.q, o19.q, o20.q, hK⟩
        · have e8 := o8 (ready_dep hm 8 (by kernel_rfl))
          have e10 := o10 (ready_dep hm 10 (by kernel_rfl))
          refine wpOp_step rfl (fun KK hK2 => ?_)
          go_simp
          exact hK2 (A.put (some 17) (.bool false)) _ ⟨hFR.put (by decide) _, o0.q, o1.q, o2.q, o3.q, o4.q, o5.q, o6.q, o7.q, o8.q, o9.q, o10.q, .now (put_eq (by have hz := hsz.out; omega)), o12.q, o13.q, o14.q, o15.q, o16.q, o17.q, o18.q, o19.q, o20.q, hK⟩
        · have e11 := o11 (ready_dep hm 11 (by kernel_rfl))
          refine wpOp_step rfl (fun KK hK2 => ?_)
          go_simp
          exact hK2 (A.put (some 18) (.bool false)) _ ⟨hFR.put (by decide) _, o0.q, o1.q, o2.q, o3.q, o4.q, o5.q, o6.q, o7.q, o8.q, o9.q, o10.q, o11.q, .now (put_eq (by have hz := hsz.out; omega)), o13.q, o14.q, o15.q, o16.q, o17.q, o18.q, o19.q, o20.q, hK⟩
        · have g := o12 (ready_dep hm 12 (by kernel_rfl))
          refine wpOp_off (b := true) (c := false) rfl rfl rfl g (by decide) ?_
          exact ⟨hFR.put (by decide) _, o0.q, o1.q, o2.q, o3.q, o4.q, o5.q, o6.q, o7.q, o8.q, o9.q, o10.q, o11.q, o12.q, .now (put_eq (by have hz := hsz.out; omega)), o14.q, o15.q, o16.q, o17.q, o18.q, o19.q, o20.q, hK⟩
        · have g := o12 (ready_dep hm 12 (by kernel_rfl))
          refine wpOp_off (b := true) (c := false) rfl rfl rfl g (by decide) ?_
          exact ⟨hFR.put (by decide) _, o0.q, o1.q, o2.q, o3.q, o4.q, o5.q, o6.q, o7.q, o8.q, o9.q, o10.q, o11.q, o12.q, o13.q, .now (put_eq (by have hz := hsz.out; omega)), o15.q, o16.q, o17.q, o18.q, o19.q, o20.q, hK⟩
        · have e14 := o14 (ready_dep hm 14 (by kernel_rfl))
          have g := o12 (ready_dep hm 12 (by kernel_rfl))
          refine wpOp_off (b := true) (c := false) rfl rfl rfl g (by decide) ?_
          exact ⟨hFR.put (by decide) _, o0.q, o1.q, o2.q, o3.q, o4.q, o5.q, o6.q, o7.q, o8.q, o9.q, o10.q, o11.q, o12.q, o13.q, o14.q, .now (put_eq (by have hz := hsz.out; omega)), o16.q, o17.q, o18.q, o19.q, o20.q, hK⟩
        · have g := o12 (ready_dep hm 12 (by kernel_rfl))
          refine wpOp_off (b := true) (c := false) rfl rfl rfl g (by decide) ?_
          exact ⟨hFR.put (by decide) _, o0.q, o1.q, o2.q, o3.q, o4.q, o5.q, o6.q, o7.q, o8.q, o9.q, o10.q, o11.q, o12.q, o13.q, o14.q, o15.q, .now (put_eq (by have hz := hsz.out; omega)), o17.q, o18.q, o19.q, o20.q, hK⟩
        · have e15 := o15 (ready_dep hm 15 (by kernel_rfl))
          have e16 := o16 (ready_dep hm 16 (by kernel_rfl))
          have g := o12 (ready_dep hm 12 (by kernel_rfl))
          refine wpOp_off (b := true) (c := false) rfl rfl rfl g (by decide) ?_
          exact ⟨hFR.put (by decide) _, o0.q, o1.q, o2.q, o3.q, o4.q, o5.q, o6.q, o7.q, o8.q, o9.q, o10.q, o11.q, o12.q, o13.q, o14.q, o15.q, o16.q, .now (put_eq (by have hz := hsz.out; omega)), o18.q, o19.q, o20.q, hK⟩
        · have e13 := o13 (ready_dep hm 13 (by kernel_rfl))
          have e17 := o17 (ready_dep hm 17 (by kernel_rfl))
          have g := o12 (ready_dep hm 12 (by kernel_rfl))
          refine wpOp_off (b := true) (c := false) rfl rfl rfl g (by decide) ?_
          exact ⟨hFR.put (by decide) _, o0.q, o1.q, o2.q, o3.q, o4.q, o5.q, o6.q, o7.q, o8.q, o9.q, o10.q, o11.q, o12.q, o13.q, o14.q, o15.q, o16.q, o17.q, .now (put_eq (by have hz := hsz.out; omega)), o19.q, o20.q, hK⟩
        · have e12 := o12 (ready_dep hm 12 (by kernel_rfl))
          have e18 := o18 (ready_dep hm 18 (by kernel_rfl))
          refine wpOp_step rfl (fun KK hK2 => ?_)
          go_simp
          exact hK2 (A.put (some 25) (.bool false)) _ ⟨hFR.put (by decide) _, o0.q, o1.q, o2.q, o3.q, o4.q, o5.q, o6.q, o7.q, o8.q, o9.q, o10.q, o11.q, o12.q, o13.q, o14.q, o15.q, o16.q, o17.q, o18.q, .now (put_eq (by have hz := hsz.out; omega)), o20.q, hK⟩
        · have e19 := o19 (ready_dep hm 19 (by kernel_rfl))
          refine wpOp_step rfl (fun KK hK2 => ?_)
          go_simp
          exact hK2 (A.put (some 2) (.bool false)) _ ⟨hFR.put (by decide) _, o0.q, o1.q, o2.q, o3.q, o4.q, o5.q, o6.q, o7.q, o8.q, o9.q, o10.q, o11.q, o12.q, o13.q, o14.q, o15.q, o16.q, o17.q, o18.q, o19.q, .now (put_eq (by have hz := hsz.out; omega)), hK⟩
        · simp at hi1
          omega
    · have t1 : t ≤ 512 := by simpa using hB
      cases hC : Pl.blockOk ys n
      · have E : Hid (Pl.goodU f t n ys ts sk = false) := hide (Pl.goodU_no fun h => by have h1 := h.block; rw [hC] at h1; cases h1)
        go_enter Tryz.func126, Tryz.ntmps126
        go_wp2_with (go_at_call 150; refine (instrOf _ f t a ca n ys ts sk (HA.out.keptS K0.out) HY.out bx).mono ?_; rintro e9 w2 ⟨rfl, o2, s2, k2⟩; rw [e1]; rw [e1] at o2; have B2 := hide (B0.out.kept0 k2); have K2 := hide (K0.out.trans k2); have O2 := hide o2; have p2 := B2.out.all; clear k2 o2 s2)
        refine wp_region_inv2 (fun A0 l A W => FR [6, 7, 8, 9, 10, 11, 12, 13, 14, 15, 16, 17, 18, 19, 20, 21, 22, 23, 24, 25, 2] A0 A ∧ Once l 0 (A.tmps[6]? = some (.pointer (some ⟨w.heap.size, 0, none⟩))) ∧ Once l 1 (A.tmps[7]? = some (iv f)) ∧ Once l 2 (A.tmps[8]? = some (.bool true)) ∧ Once l 3 (A.tmps[9]? = some (.bool true)) ∧ Once l 4 (A.tmps[10]? = some (.pointer (some ⟨w.heap.size, 1, none⟩))) ∧ Once l 5 (A.tmps[11]? = some (iv t)) ∧ Once l 6 (A.tmps[12]? = some (.bool true)) ∧ Once l 7 (A.tmps[13]? = some (.bool true)) ∧ Once l 8 (A.tmps[14]? = some (.bool true)) ∧ Once l 9 (A.tmps[15]? = some (.slice (some ⟨w.heap.size + 1 + 1, 0, none⟩) n n)) ∧ Once l 10 (A.tmps[16]? = some (.bool false)) ∧ Once l 11 (A.tmps[17]? = some (.bool false)) ∧ Once l 12 (A.tmps[18]? = some (.bool false)) ∧ Once l 13 (A.tmps[19]? = some (undef)) ∧ Once l 14 (A.tmps[20]? = some (undef)) ∧ Once l 15 (A.tmps[21]? = some (undef)) ∧ Once l 16 (A.tmps[22]? = some (undef)) ∧ Once l 17 (A.tmps[23]? = some (undef)) ∧ Once l 18 (A.tmps[24]? = some (undef)) ∧ Once l 19 (A.tmps[25]? = some (.bool false)) ∧ Once l 20 (A.tmps[2]? = some (.bool false)) ∧ Kept 0 0 w2 W) (by kernel_rfl) (by kernel_rfl) ?start ?fin ?step
        case start => exact ⟨FR.refl _ _, once_start (by decide), once_start (by decide), once_start (by decide), once_start (by decide), once_start (by decide), once_start (by decide), once_start (by decide), once_start (by decide), once_start (by decide), once_start (by decide), once_start (by decide), once_start (by decide), once_start (by decide), once_start (by decide), once_start (by decide), once_start (by decide), once_start (by decide), once_start (by decide), once_start (by decide), once_start (by decide), once_start (by decide), kept_drew (Kept.refl _ _ _)⟩
        case fin =>
          intro l A W h hl
          obtain ⟨hFR, o0, o1, o2, o3, o4, o5, o6, o7, o8, o9, o10, o11, o12, o13, o14, o15, o16, o17, o18, o19, o20, hK⟩ := h
          have g20 := o20 (hl 20 (by decide))
          have QQ := hide hK
          have hc9 := hFR.chain
          simp only [List.foldl] at hc9
          rw [getD_of g20] at hc9
          clear hl hK hFR g20 o0 o1 o2 o3 o4 o5 o6 o7 o8 o9 o10 o11 o12 o13 o14 o15 o16 o17 o18 o19 o20
          generalize A.tmps.getD 6 undef = s6 at hc9
          generalize A.tmps.getD 7 undef = s7 at hc9
          generalize A.tmps.getD 8 undef = s8 at hc9
          generalize A.tmps.getD 9 undef = s9 at hc9
          generalize A.tmps.getD 10 undef = s10 at hc9
          generalize A.tmps.getD 11 undef = s11 at hc9
          generalize A.tmps.getD 12 undef = s12 at hc9
          generalize A.tmps.getD 13 undef = s13 at hc9
          generalize A.tmps.getD 14 undef = s14 at hc9
          generalize A.tmps.getD 15 undef = s15 at hc9
          generalize A.tmps.getD 16 undef = s16 at hc9
          generalize A.tmps.getD 17 undef = s17 at hc9
          generalize A.tmps.getD 18 undef = s18 at hc9
          generalize A.tmps.getD 19 undef = s19 at hc9
          generalize A.tmps.getD 20 undef = s20 at hc9
          generalize A.tmps.getD 21 undef = s21 at hc9
          generalize A.tmps.getD 22 undef = s22 at hc9
          generalize A.tmps.getD 23 undef = s23 at hc9
          generalize A.tmps.getD 24 undef = s24 at hc9
          generalize A.tmps.getD 25 undef = s25 at hc9
          subst hc9
          go_simp
          go_wp2_with fail
          go_ret
          exact ⟨rB E.out.symm, K2.out.trans QQ.out⟩
        case step =>
          intro l A W i hI hm
          obtain ⟨hFR, o0, o1, o2, o3, o4, o5, o6, o7, o8, o9, o10, o11, o12, o13, o14, o15, o16, o17, o18, o19, o20, hK⟩ := hI
          obtain ⟨hi1, hi2⟩ := ready_new hm
          have hsz : Hid (25 < A.tmps.size) := hide (by rw [hFR.size]; simp)
          have m1 : A.tmps[1]? = some (.pointer (some ⟨w.heap.size, 0, none⟩)) := (hFR.out 1 (by decide)).trans rfl
          have m3 : A.tmps[3]? = some (.slice (some ⟨w.heap.size + 1 + 1, 0, none⟩) n n) := (hFR.out 3 (by decide)).trans rfl
          rcases i with _ | _ | _ | _ | _ | _ | _ | _ | _ | _ | _ | _ | _ | _ | _ | _ | _ | _ | _ | _ | _ | i
          · refine wpOp_step rfl (fun KK hK2 => ?_)
            go_simp
            exact hK2 (A.put (some 6) (.pointer (some ⟨w.heap.size, 0, none⟩))) _ ⟨hFR.put (by decide) _, .now (put_eq (by have hz := hsz.out; omega)), o1.q, o2.q, o3.q, o4.q, o5.q, o6.q, o7.q, o8.q, o9.q, o10.q, o11.q, o12.q, o13.q, o14.q, o15.q, o16.q, o17.q, o18.q, o19.q, o20.q, hK⟩
          · have e0 := o0 (ready_dep hm 0 (by kernel_rfl))
            have BL := B2.out.kept0 hK
            have x0 := BL.all
            clear BL
            refine wpOp_step rfl (fun KK hK2 => ?_)
            go_simp
            exact hK2 (A.put (some 7) (iv f)) _ ⟨hFR.put (by decide) _, o0.q, .now (put_eq (by have hz := hsz.out; omega)), o2.q, o3.q, o4.q, o5.q, o6.q, o7.q, o8.q, o9.q, o10.q, o11.q, o12.q, o13.q, o14.q, o15.q, o16.q, o17.q, o18.q, o19.q, o20.q, hK⟩
          · have e1 := o1 (ready_dep hm 1 (by kernel_rfl))
            refine wpOp_step rfl (fun KK hK2 => ?_)
            go_simp
            refine st (isCodePlace _ _) ?_
            rw [hA]
            go_simp
            exact hK2 (A.put (some 8) (.bool true)) _ ⟨hFR.put (by decide) _, o0.q, o1.q, .now (put_eq (by have hz := hsz.out; omega)), o3.q, o4.q, o5.q, o6.q, o7.q, o8.q, o9.q, o10.q, o11.q, o12.q, o13.q, o14.q, o15.q, o16.q, o17.q, o18.q, o19.q, o20.q, hK⟩
          · have e2 := o2 (ready_dep hm 2 (by kernel_rfl))
            refine wpOp_step rfl (fun KK hK2 => ?_)
            go_simp
            exact hK2 (A.put (some 9) (.bool true)) _ ⟨hFR.put (by decide) _, o0.q, o1.q, o2.q, .now (put_eq (by have hz := hsz.out; omega)), o4.q, o5.q, o6.q, o7.q, o8.q, o9.q, o10.q, o11.q, o12.q, o13.q, o14.q, o15.q, o16.q, o17.q, o18.q, o19.q, o20.q, hK⟩
          · have g := o3 (ready_dep hm 3 (by kernel_rfl))
            refine wpOp_on (b := true) rfl rfl rfl g (fun KK hK2 => ?_)
            go_simp
            exact hK2 (A.put (some 10) (.pointer (some ⟨w.heap.size, 1, none⟩))) _ ⟨hFR.put (by decide) _, o0.q, o1.q, o2.q, o3.q, .now (put_eq (by have hz := hsz.out; omega)), o5.q, o6.q, o7.q, o8.q, o9.q, o10.q, o11.q, o12.q, o13.q, o14.q, o15.q, o16.q, o17.q, o18.q, o19.q, o20.q, hK⟩
          · have e4 := o4 (ready_dep hm 4 (by kernel_rfl))
            have BL := B2.out.kept0 hK
            have x0 := BL.all
            clear BL
            have g := o3 (ready_dep hm 3 (by kernel_rfl))
            refine wpOp_on (b := true) rfl rfl rfl g (fun KK hK2 => ?_)
            go_simp
            exact hK2 (A.put (some 11) (iv t)) _ ⟨hFR.put (by decide) _, o0.q, o1.q, o2.q, o3.q, o4.q, .now (put_eq (by have hz := hsz.out; omega)), o6.q, o7.q, o8.q, o9.q, o10.q, o11.q, o12.q, o13.q, o14.q, o15.q, o16.q, o17.q, o18.q, o19.q, o20.q, hK⟩
          · have e5 := o5 (ready_dep hm 5 (by kernel_rfl))
            have g := o3 (ready_dep hm 3 (by kernel_rfl))
            refine wpOp_on (b := true) rfl rfl rfl g (fun KK hK2 => ?_)
            go_simp
            try rw [hB]
            exact hK2 (A.put (some 12) (.bool true)) _ ⟨hFR.put (by decide) _, o0.q, o1.q, o2.q, o3.q, o4.q, o5.q, .now (put_eq (by have hz := hsz.out; omega)), o7.q, o8.q, o9.q, o10.q, o11.q, o12.q, o13.q, o14.q, o15.q, o16.q, o17.q, o18.q, o19.q, o20.q, hK⟩
          · have e3 := o3 (ready_dep hm 3 (by kernel_rfl))
            have e6 := o6 (ready_dep hm 6 (by kernel_rfl))
            refine wpOp_step rfl (fun KK hK2 => ?_)
            go_simp
            exact hK2 (A.put (some 13) (.bool true)) _ ⟨hFR.put (by decide) _, o0.q, o1.q, o2.q, o3.q, o4.q, o5.q, o6.q, .now (put_eq (by have hz := hsz.out; omega)), o8.q, o9.q, o10.q, o11.q, o12.q, o13.q, o14.q, o15.q, o16.q, o17.q, o18.q, o19.q, o20.q, hK⟩
          · have e7 := o7 (ready_dep hm 7 (by kernel_rfl))
            refine wpOp_step rfl (fun KK hK2 => ?_)
            go_simp
            exact hK2 (A.put (some 14) (.bool true)) _ ⟨hFR.put (by decide) _, o0.q, o1.q, o2.q, o3.q, o4.q, o5.q, o6.q, o7.q, .now (put_eq (by have hz := hsz.out; omega)), o9.q, o10.q, o11.q, o12.q, o13.q, o14.q, o15.q, o16.q, o17.q, o18.q, o19.q, o20.q, hK⟩
          · have g := o8 (ready_dep hm 8 (by kernel_rfl))
            refine wpOp_on (b := true) rfl rfl rfl g (fun KK hK2 => ?_)
            go_simp
            exact hK2 (A.put (some 15) (.slice (some ⟨w.heap.size + 1 + 1, 0, none⟩) n n)) _ ⟨hFR.put (by decide) _, o0.q, o1.q, o2.q, o3.q, o4.q, o5.q, o6.q, o7.q, o8.q, .now (put_eq (by have hz := hsz.out; omega)), o10.q, o11.q, o12.q, o13.q, o14.q, o15.q, o16.q, o17.q, o18.q, o19.q, o20.q, hK⟩
          · have e9 := o9 (ready_dep hm 9 (by kernel_rfl))
            have g := o8 (ready_dep hm 8 (by kernel_rfl))
            refine wpOp_on (b := true) rfl rfl rfl g (fun KK hK2 => ?_)
            go_simp
            refine (implBlock _ _ n n ys ((O2.out.keptS hK (by omega)).came HW.out) HY.out (by omega) (Nat.le_refl _)).mono ?_
            rw [hC]
            rintro e9 y9 ⟨rfl, kd⟩
            go_simp
            exact hK2 (A.put (some 16) (.bool false)) _ ⟨hFR.put (by decide) _, o0.q, o1.q, o2.q, o3.q, o4.q, o5.q, o6.q, o7.q, o8.q, o9.q, .now (put_eq (by have hz := hsz.out; omega)), o11.q, o12.q, o13.q, o14.q, o15.q, o16.q, o17.q, o18.q, o19.q, o20.q, (hK.trans kd)⟩
          · have e8 := o8 (ready_dep hm 8 (by kernel_rfl))
            have e10 := o10 (ready_dep hm 10 (by kernel_rfl))
            refine wpOp_step rfl (fun KK hK2 => ?_)
            go_simp
            exact hK2 (A.put (some 17) (.bool false)) _ ⟨hFR.put (by decide) _, o0.q, o1.q, o2.q, o3.q, o4.q, o5.q, o6.q, o7.q, o8.q, o9.q, o10.q, .now (put_eq (by have hz := hsz.out; omega)), o12.q, o13.q, o14.q, o15.q, o16.q, o17.q, o18.q, o19.q, o20.q, hK⟩
          · have e11 := o11 (ready_dep hm 11 (by kernel_rfl))
            refine wpOp_step rfl (fun KK hK2 => ?_)
            go_simp
            exact hK2 (A.put (some 18) (.bool false)) _ ⟨hFR.put (by decide) _, o0.q, o1.q, o2.q, o3.q, o4.q, o5.q, o6.q, o7.q, o8.q, o9.q, o10.q, o11.q, .now (put_eq (by have hz := hsz.out; omega)), o13.q, o14.q, o15.q, o16.q, o17.q, o18.q, o19.q, o20.q, hK⟩
          · have g := o12 (ready_dep hm 12 (by kernel_rfl))
            refine wpOp_off (b := true) (c := false) rfl rfl rfl g (by decide) ?_
            exact ⟨hFR.put (by decide) _, o0.q, o1.q, o2.q, o3.q, o4.q, o5.q, o6.q, o7.q, o8.q, o9.q, o10.q, o11.q, o12.q, .now (put_eq (by have hz := hsz.out; omega)), o14.q, o15.q, o16.q, o17.q, o18.q, o19.q, o20.q, hK⟩
          · have g := o12 (ready_dep hm 12 (by kernel_rfl))
            refine wpOp_off (b := true) (c := false) rfl rfl rfl g (by decide) ?_
            exact ⟨hFR.put (by decide) _, o0.q, o1.q, o2.q, o3.q, o4.q, o5.q, o6.q, o7.q, o8.q, o9.q, o10.q, o11.q, o12.q, o13.q, .now (put_eq (by have hz := hsz.out; omega)), o15.q, o16.q, o17.q, o18.q, o19.q, o20.q, hK⟩
          · have e14 := o14 (ready_dep hm 14 (by kernel_rfl))
            have g := o12 (ready_dep hm 12 (by kernel_rfl))
            refine wpOp_off (b := true) (c := false) rfl rfl rfl g (by decide) ?_
            exact ⟨hFR.put (by decide) _, o0.q, o1.q, o2.q, o3.q, o4.q, o5.q, o6.q, o7.q, o8.q, o9.q, o10.q, o11.q, o12.q, o13.q, o14.q, .now (put_eq (by have hz := hsz.out; omega)), o16.q, o17.q, o18.q, o19.q, o20.q, hK⟩
          · have g := o12 (ready_dep hm 12 (by kernel_rfl))
            refine wpOp_off (b := true) (c := false) rfl rfl rfl g (by decide) ?_
            exact ⟨hFR.put (by decide) _, o0.q, o1.q, o2.q, o3.q, o4.q, o5.q, o6.q, o7.q, o8.q, o9.q, o10.q, o11.q, o12.q, o13.q, o14.q, o15.q, .now (put_eq (by have hz := hsz.out; omega)), o17.q, o18.q, o19.q, o20.q, hK⟩
          · have e15 := o15 (ready_dep hm 15 (by kernel_rfl))
            have e16 := o16 (ready_dep hm 16 (by kernel_rfl))
            have g := o12 (ready_dep hm 12 (by kernel_rfl))
            refine wpOp_off (b := true) (c := false) rfl rfl rfl g (by decide) ?_
            exact ⟨hFR.put (by decide) _, o0.q, o1.q, o2.q, o3.q, o4.q, o5.q, o6.q, o7.q, o8.q, o9.q, o10.q, o11.q, o12.q, o13.q, o14.q, o15.q, o16.q, .now (put_eq (by have hz := hsz.out; omega)), o18.q, o19.q, o20.q, hK⟩
          · have e13 := o13 (ready_dep hm 13 (by kernel_rfl))
            have e17 := o17 (ready_dep hm 17 (by kernel_rfl))
            have g := o12 (ready_dep hm 12 (by kernel_rfl))
            refine wpOp_off (b := true) (c := false) rfl rfl rfl g (by decide) ?_
            exact ⟨hFR.put (by decide) _, o0.q, o1.q, o2.q, o3.q, o4.q, o5.q, o6.q, o7.q, o8.q, o9.q, o10.q, o11.q, o12.q, o13.q, o14.q, o15.q, o16.q, o17.q, .now (put_eq (by have hz := hsz.out; omega)), o19.q, o20.q, hK⟩
          · have e12 := o12 (ready_dep hm 12 (by kernel_rfl))
            have e18 := o18 (ready_dep hm 18 (by kernel_rfl))
            refine wpOp_step rfl (fun KK hK2 => ?_)
            go_simp
            exact hK2 (A.put (some 25) (.bool false)) _ ⟨hFR.put (by decide) _, o0.q, o1.q, o2.q, o3.q, o4.q, o5.q, o6.q, o7.q, o8.q, o9.q, o10.q, o11.q, o12.q, o13.q, o14.q, o15.q, o16.q, o17.q, o18.q, .now (put_eq (by have hz := hsz.out; omega)), o20.q, hK⟩
          · have e19 := o19 (ready_dep hm 19 (by kernel_rfl))
            refine wpOp_step rfl (fun KK hK2 => ?_)
            go_simp
            exact hK2 (A.put (some 2) (.bool false)) _ ⟨hFR.put (by decide) _, o0.q, o1.q, o2.q, o3.q, o4.q, o5.q, o6.q, o7.q, o8.q, o9.q, o10.q, o11.q, o12.q, o13.q, o14.q, o15.q, o16.q, o17.q, o18.q, o19.q, .now (put_eq (by have hz := hsz.out; omega)), hK⟩
          · simp at hi1
            omega
      · obtain ⟨us, hu⟩ : ∃ us : List Int, us = (List.range n).map (fun k => Pl.placeB ys f k) := ⟨_, rfl⟩
        have hu2 : ∀ k, k < n → el us k = Pl.placeB ys f k := fun k hk => by rw [hu]; unfold el; rw [List.getElem?_map, List.getElem?_range hk]; rfl
        obtain ⟨n1, n8, ok, st_, hr⟩ := Pl.blockOk_out hC
        have E := hide (Pl.goodU_same (ts := ts) (sk := sk) (t := t) hC f0 f1 fe t1 hu2)
        clear hu
        go_enter Tryz.func126, Tryz.ntmps126
        go_wp2_with (go_at_call 150; refine (instrOf _ f t a ca n ys ts sk (HA.out.keptS K0.out) HY.out bx).mono ?_; rintro e9 w2 ⟨rfl, o2, s2, k2⟩; rw [e1]; rw [e1] at o2; have B2 := hide (B0.out.kept0 k2); have K2 := hide (K0.out.trans k2); have O2 := hide o2; have p2 := B2.out.all; clear k2 o2 s2)
        go_region_held3 (fun w' => ∀ i, w'.cell? ⟨w.heap.size, i, none⟩ = ((#[iv f, iv t, .slice a n ca] : Array Value))[i]?) (first | with_reducible exact B6.out.all | with_reducible exact B5.out.all | with_reducible exact B4.out.all | exact (show Blk _ _ _ _ from B2.out).all) (first | (go_at_call 44; refine st (isCodePlace _ _) ?_; rw [hA]) | (go_at_call 151; refine (implBlock _ _ n n ys ((O2.out.keptS (kept_drew (Kept.refl 0 0 w2)) (by omega)).came HW.out) HY.out (by omega) (Nat.le_refl _)).mono ?_; rw [hC]; rintro e9 w4 ⟨rfl, kd⟩; have k4 := undrewK kd; have B4 := hide (B2.out.kept0 k4); have K4 := hide (K2.out.trans k4); have O4 := hide (O2.out.keptS k4 (by omega)); clear kd k4) | (go_at_call 108; refine (implUnitOf _ f _ n n ys us (O4.out.came HW.out) HY.out n1 n8 (Nat.le_refl _) ok hr f0 f1 hu2).mono ?_; rintro e9 w5 ⟨rfl, m5, s5, k5⟩; have B5 := hide (B4.out.kept0 k5); have K5 := hide (K4.out.trans k5); have M5 := hide m5; clear k5 m5 s5) | (go_at_call 152; refine (implSame _ f t f (Pl.placeB ys f n) a _ ca n n ys ts us sk (Pl.skV ys n) (HA.out.keptS K5.out) M5.out.row bx).mono ?_; rw [← E.out]; rintro e9 w6 ⟨rfl, k6⟩; have B6 := hide (B5.out.kept0 k6); have K6 := hide (K5.out.trans k6); clear k6))
        go_wp2_with fail
        go_ret
        exact ⟨rfl, K6.out⟩
end Go.Proofs.YtflnodadeajmcaaGreat

namespace Go.Proofs.YtflnodadeajmcaaGreat
open Go.RowKit
set_option linter.unusedVariables false
set_option linter.unusedSimpArgs false
set_option maxRecDepth 20000 in
set_option maxHeartbeats 8000000 in
theorem specUWords (w : World) (f t : Int) (a : Option Addr) (ca n : Nat) (ys ts : List Int) (sk : List Bool) (ha : MRow w a n ys ts sk) (hok : ∀ k, k < n → Pl.inOk (Pl.inAt ys k) = true) (bx : n ≤ 2000000) :
    Calls Tryz.prog 91 #[.agg #[iv f, iv t, .slice a n ca]] w fun e w' => ∃ (b : Option Addr) (c : Nat), e = .returned (.slice b (Pl.encTo ys n).length c) ∧ SlotIn w' w.heap.size w'.heap.size b (Pl.encTo ys n) ∧ Kept 0 0 w w' := by
  obtain ⟨i, hi0, hz0, hz1, hz2⟩ := info_parts Tryz.info3
  have K0 := hide (kept_alloc w (.cells #[iv f, iv t, .slice a n ca] 46))
  have HA := hide ha
  have HOK := hide hok
  clear ha hok
  go_enter Tryz.func91, Tryz.ntmps91
  go_wp2_with fail
  go_loopw [3, 9] (fun v j wr => ∃ k : Nat, k ≤ n ∧ j = .int .i64 k ∧ wr.ownsRow w.heap.size 3 1 v (Pl.encTo ys k).length ((Pl.encTo ys k).map (Value.int .i64)) ∧ Kept 0 0 w wr) (fun _ j _ => n - (intOf j).toNat)
  case atStart => exact ⟨0, Nat.zero_le _, rfl, World.ownsRow_nil _ _ _ _, K0.out⟩
  case round =>
    obtain ⟨k, hk, rfl, hown, hkept⟩ := hrel
    have HK := hide hkept
    have HO := hide hown
    have hel := Pl.encTo_len ys k
    have hel2 := Pl.encode_len (Pl.inAt ys k)
    have hks := HK.out.size
    clear hkept hown
    by_cases hlt : k < n
    · obtain ⟨g1, off1, rfl, p0, p1, p2, p3, p4, p5, p6, p7, p8⟩ := (HA.out.keptS HK.out).at9 hlt
      have hb := HOK.out k hlt
      have k9 := hide (kept_alloc wr (.cells #[iv (el ys (k * 7)), iv (el ys (k * 7 + 1)), iv (el ys (k * 7 + 2)), iv (el ys (k * 7 + 3)), iv (el ys (k * 7 + 4)), iv (el ys (k * 7 + 5)), iv (el ys (k * 7 + 6)), iv (el ts k), .bool (bl sk k)] 126))
      have O2 := hide (HO.out.alloc (.cells #[iv (el ys (k * 7)), iv (el ys (k * 7 + 1)), iv (el ys (k * 7 + 2)), iv (el ys (k * 7 + 3)), iv (el ys (k * 7 + 4)), iv (el ys (k * 7 + 5)), iv (el ys (k * 7 + 6)), iv (el ts k), .bool (bl sk k)] 126))
      go_wp2_with (first | (go_at_call 88; refine (specEncode _ (el ys (k * 7)) (el ys (k * 7 + 1)) (el ys (k * 7 + 2)) (el ys (k * 7 + 3)) (el ys (k * 7 + 4)) (el ys (k * 7 + 5)) (el ys (k * 7 + 6)) hb).mono ?_; rintro e9 w3 ⟨g, c, rfl, hg1, hg2, hO, k3⟩; have K3 := hide ((HK.out.trans k9.out).trans k3); have OE := hide hO; have O3 := hide (HO.out.kept (k9.out.trans k3).grown (Classical.em _)); have s3 := K3.out.size; clear hg1 hg2 hO k3) | (at_builtin; refine wpList_append_own _ rfl _ _ 22 rfl w.heap.size 3 i (.int .i64 0) 1 8 Tryz.underlying22 hi0 hz0 hz1 hz2 rfl (by decide) _ _ _ rfl O3.out ⟨g, 0, none⟩ (Pl.encode (Pl.inAt ys k)).length c ((Pl.encode (Pl.inAt ys k)).map (Value.int .i64)) rfl ?c0 ?c1 ?c2 ?c3 ?c4 ?c5 ?_))
      case c0 => simp
      case c1 => exact news_own OE.out
      case c2 => exact news_one
      case c3 => unfold maxLen; omega
      case c4 => omega
      case c5 => omega
      intro v' w4 hown' hgr _
      have HO4 := hide hown'
      have K4 := hide (kept_over K3.out (kept_row (lo := w.heap.size) (hi := w3.heap.size) hgr (fun g hg => O3.out.lt g hg)) (Nat.le_refl _))
      clear hown' hgr
      go_wp2_with fail
      go_roundw
      case rel => exact ⟨k + 1, by omega, by go_num, by unfold Pl.encTo; rw [List.length_append, List.map_append]; exact HO4.out, K4.out⟩
      case measure => simp [intOf]; omega
    · obtain rfl : k = n := by omega
      obtain ⟨b, cb, rfl, hS⟩ := slotIn_row HO.out
      go_wp2_with fail
      go_ret
      exact ⟨b, cb, rfl, hS, HK.out⟩
set_option maxRecDepth 20000 in
set_option maxHeartbeats 8000000 in
theorem implUWords (w : World) (f t : Int) (a : Option Addr) (ca n : Nat) (ys ts : List Int) (sk : List Bool) (ha : MRow w a n ys ts sk) (hok : ∀ k, k < n → Pl.inOk (Pl.inAt ys k) = true) (bx : n ≤ 2000000) :
    Calls Tryz.prog 99 #[.agg #[iv f, iv t, .slice a n ca]] w fun e w' => ∃ (b : Option Addr) (c : Nat), e = .returned (.slice b (Pl.encTo ys n).length c) ∧ SlotIn w' w.heap.size w'.heap.size b (Pl.encTo ys n) ∧ Kept 0 0 w w' := by
  obtain ⟨i, hi0, hz0, hz1, hz2⟩ := info_parts Tryz.info3
  have K0 := hide (kept_alloc w (.cells #[iv f, iv t, .slice a n ca] 46))
  have HA := hide ha
  have HOK := hide hok
  clear ha hok
  go_enter Tryz.func99, Tryz.ntmps99
  go_wp2_with fail
  go_loopw [3, 9] (fun v j wr => ∃ k : Nat, k ≤ n ∧ j = .int .i64 k ∧ wr.ownsRow w.heap.size 3 1 v (Pl.encTo ys k).length ((Pl.encTo ys k).map (Value.int .i64)) ∧ Kept 0 0 w wr) (fun _ j _ => n - (intOf j).toNat)
  case atStart => exact ⟨0, Nat.zero_le _, rfl, World.ownsRow_nil _ _ _ _, K0.out⟩
  case round =>
    obtain ⟨k, hk, rfl, hown, hkept⟩ := hrel
    have HK := hide hkept
    have HO := hide hown
    have hel := Pl.encTo_len ys k
    have hel2 := Pl.encode_len (Pl.inAt ys k)
    have hks := HK.out.size
    clear hkept hown
    by_cases hlt : k < n
    · obtain ⟨g1, off1, rfl, p0, p1, p2, p3, p4, p5, p6, p7, p8⟩ := (HA.out.keptS HK.out).at9 hlt
      have hb := HOK.out k hlt
      have k9 := hide (kept_alloc wr (.cells #[iv (el ys (k * 7)), iv (el ys (k * 7 + 1)), iv (el ys (k * 7 + 2)), iv (el ys (k * 7 + 3)), iv (el ys (k * 7 + 4)), iv (el ys (k * 7 + 5)), iv (el ys (k * 7 + 6)), iv (el ts k), .bool (bl sk k)] 126))
      have O2 := hide (HO.out.alloc (.cells #[iv (el ys (k * 7)), iv (el ys (k * 7 + 1)), iv (el ys (k * 7 + 2)), iv (el ys (k * 7 + 3)), iv (el ys (k * 7 + 4)), iv (el ys (k * 7 + 5)), iv (el ys (k * 7 + 6)), iv (el ts k), .bool (bl sk k)] 126))
      go_wp2_with (first | (go_at_call 129; refine (wordsOf _ (el ys (k * 7)) (el ys (k * 7 + 1)) (el ys (k * 7 + 2)) (el ys (k * 7 + 3)) (el ys (k * 7 + 4)) (el ys (k * 7 + 5)) (el ys (k * 7 + 6)) hb).mono ?_; rintro e9 w3 ⟨g, c, rfl, hg1, hg2, hO, k3⟩; have K3 := hide ((HK.out.trans k9.out).trans k3); have OE := hide hO; have O3 := hide (HO.out.kept (k9.out.trans k3).grown (Classical.em _)); have s3 := K3.out.size; clear hg1 hg2 hO k3) | (at_builtin; refine wpList_append_own _ rfl _ _ 22 rfl w.heap.size 3 i (.int .i64 0) 1 8 Tryz.underlying22 hi0 hz0 hz1 hz2 rfl (by decide) _ _ _ rfl O3.out ⟨g, 0, none⟩ (Pl.encode (Pl.inAt ys k)).length c ((Pl.encode (Pl.inAt ys k)).map (Value.int .i64)) rfl ?c0 ?c1 ?c2 ?c3 ?c4 ?c5 ?_))
      case c0 => simp
      case c1 => exact news_own OE.out
      case c2 => exact news_one
      case c3 => unfold maxLen; omega
      case c4 => omega
      case c5 => omega
      intro v' w4 hown' hgr _
      have HO4 := hide hown'
      have K4 := hide (kept_over K3.out (kept_row (lo := w.heap.size) (hi := w3.heap.size) hgr (fun g hg => O3.out.lt g hg)) (Nat.le_refl _))
      clear hown' hgr
      go_wp2_with fail
      go_roundw
      case rel => exact ⟨k + 1, by omega, by go_num, by unfold Pl.encTo; rw [List.length_append, List.map_append]; exact HO4.out, K4.out⟩
      case measure => simp [intOf]; omega
    · obtain rfl : k = n := by omega
      obtain ⟨b, cb, rfl, hS⟩ := slotIn_row HO.out
      go_wp2_with fail
      go_ret
      exact ⟨b, cb, rfl, hS, HK.out⟩
end Go.Proofs.YtflnodadeajmcaaGreat

