/- What the program's DecodeAll answers, for every list. -/
import Derived.Test.YtlbnllhabdnjjaaDoorGrE
import Derived.Test.YtlbnllhabdnjjaaDoorImplInsH
import Derived.Test.YtlbnllhabdnjjaaDoorSpecIns6
namespace Go.Proofs.YtlbnllhabdnjjaaDoor
open Go.RowKit
set_option linter.unusedVariables false
set_option linter.unusedSimpArgs false
/-- one instruction more: what is read from the front -/
theorem daStep {xs : List Int} {k : Nat} {O : List Pl.In} (h : Pl.daFrom xs k O) (hk : k < xs.length) (v : Int) (hv1 : k + 1 = xs.length → v = -1) (hv2 : k + 1 < xs.length → v = el xs (k + 1)) :
    (Pl.pdecOk (el xs k) v = false → Pl.da xs = none) ∧ (Pl.pdecOk (el xs k) v = true → ∃ L : Nat, Pl.longW (el xs k) = (L : Int) ∧ 1 ≤ L ∧ k + L ≤ xs.length ∧ Pl.daFrom xs (k + L) (O ++ [Pl.decode (el xs k) v])) := by
  cases hw : Pl.wordOk (el xs k)
  · exact ⟨fun _ => Pl.daFrom_word h hk hw, fun q => by unfold Pl.pdecOk at q; rw [hw] at q; cases q⟩
  · have e0 : Pl.pdecOk (el xs k) v = Pl.inOk (Pl.decode (el xs k) v) := by unfold Pl.pdecOk; rw [hw]; rfl
    rcases Pl.long_or (el xs k) with hL | hL
    · have e1 := Pl.decode_short v 0 hL
      have e2 : Pl.decOk (el xs k) 0 = Pl.inOk (Pl.decode (el xs k) 0) := by unfold Pl.decOk; rw [hw, show Pl.wordOk 0 = true from by decide]; rfl
      obtain ⟨q1, q2⟩ := Pl.daFrom_one h hk hw hL
      rw [e0, e1, ← e2]
      exact ⟨q1, fun q => ⟨1, hL, Nat.le_refl _, by omega, q2 q⟩⟩
    · have ee : (Pl.decode (el xs k) v).e = v := by show (if Pl.longW (el xs k) = 2 then v else 0) = v; rw [if_pos hL]
      rcases Nat.lt_or_ge (k + 1) xs.length with hq | hq
      · have ev := hv2 hq
        subst ev
        have e2 : Pl.decOk (el xs k) (el xs (k + 1)) = Pl.inOk (Pl.decode (el xs k) (el xs (k + 1))) := by
          unfold Pl.decOk
          rw [hw]
          cases hi : Pl.inOk (Pl.decode (el xs k) (el xs (k + 1)))
          · simp
          · have hm := Pl.modeR hi
            rw [ee] at hm
            have : Pl.wordOk (el xs (k + 1)) = true := by simp [Pl.wordOk, Pl.within]; omega
            rw [this]; rfl
        obtain ⟨q1, q2⟩ := Pl.daFrom_two h hq hw hL
        rw [e0, ← e2]
        exact ⟨q1, fun q => ⟨2, hL, by omega, by omega, q2 q⟩⟩
      · have hq' : k + 1 = xs.length := by omega
        have ev := hv1 hq'
        refine ⟨fun _ => Pl.daFrom_short h hk hL hq', fun q => ?_⟩
        rw [e0] at q
        have hm := Pl.modeR q
        rw [ee, ev] at hm
        omega
theorem cellK {w w' : World} {g o : Nat} {v : Value} (h : w.cell? ⟨g, o, none⟩ = some v) (k : Kept 0 0 w w') : w'.cell? ⟨g, o, none⟩ = some v := by
  rw [World.cell?_of_block (w := w) (k.block g (World.block_lt_of_cell? _ _ h) (by omega))]
  exact h
set_option maxRecDepth 20000 in
set_option maxHeartbeats 4000000 in
theorem firstOne (w : World) (g off c : Nat) (a0 v : Int) (wf0 : (Lit.int .i64 a0).wf = true) (wfv : (Lit.int .i64 v).wf = true) (hc0 : w.cell? ⟨g, off, none⟩ = some (.int .i64 a0)) (hv : v = -1) : Calls Tryd.prog 24 #[.slice (some ⟨g, off, none⟩) 1 c] w fun e' w' => e' = .returned (.tuple #[.agg #[.int .i64 (Pl.pdec a0 v).op, .int .i64 (Pl.pdec a0 v).z, .int .i64 (Pl.pdec a0 v).r, .int .i64 (Pl.pdec a0 v).m, .int .i64 (Pl.pdec a0 v).k, .int .i64 (Pl.pdec a0 v).e, .int .i64 (Pl.pdec a0 v).s], .int .i64 (Pl.pdecN a0 v), .bool (Pl.pdecOk a0 v)]) ∧ Kept 0 0 w w' := by
  subst hv
  have K0 := hide (kept_alloc w (.cells #[.int .i64 0, .int .i64 0, .int .i64 0, .int .i64 0, .int .i64 0, .int .i64 0, .int .i64 0] 36))
  have R0 := hide (Blk.new w #[.int .i64 0, .int .i64 0, .int .i64 0, .int .i64 0, .int .i64 0, .int .i64 0, .int .i64 0] 36)
  obtain ⟨x, hx⟩ : ∃ x, Pl.pdec a0 (-1) = x := ⟨_, rfl⟩
  obtain ⟨N, hN⟩ : ∃ N, Pl.pdecN a0 (-1) = N := ⟨_, rfl⟩
  obtain ⟨F, hF⟩ : ∃ F, Pl.pdecOk a0 (-1) = F := ⟨_, rfl⟩
  rw [hx, hN, hF]
  have HX := hide hx
  have HN := hide hN
  have HF := hide hF
  have d0 := cellK hc0 K0.out
  clear hx hN hF hc0
  go_enter Tryd.func24, Tryd.ntmps24
  go_wp2_with (go_at_call 53; refine (pDecodeIns _ a0 (-1) wf0 wfv).mono ?_; rw [HX.out, HN.out, HF.out]; rintro e9 w2 ⟨rfl, k2⟩; have R2 := hide (R0.out.kept0 k2); have K2 := hide (K0.out.trans k2); have s2 := R2.out.lt; obtain ⟨y0, y1, y2, y3, y4, y5, y6⟩ := R2.out.c7; have fy0 := R2.out.frozen 0; have fy1 := R2.out.frozen 1; have fy2 := R2.out.frozen 2; have fy3 := R2.out.frozen 3; have fy4 := R2.out.frozen 4; have fy5 := R2.out.frozen 5; have fy6 := R2.out.frozen 6; clear k2)
  have s0 := R0.out.lt
  refine bodyPost_ret (v := .tuple #[.agg #[.int .i64 x.op, .int .i64 x.z, .int .i64 x.r, .int .i64 x.m, .int .i64 x.k, .int .i64 x.e, .int .i64 x.s], .int .i64 N, .bool F]) ?_ rfl ⟨rfl, ?_⟩
  · rw [results_ct2 rfl]; go_simp
  · exact (kept_set (kept_set (kept_set (kept_set (kept_set (kept_set (kept_set K2.out _ _ _ (.inr (by omega))) _ _ _ (.inr (by omega))) _ _ _ (.inr (by omega))) _ _ _ (.inr (by omega))) _ _ _ (.inr (by omega))) _ _ _ (.inr (by omega))) _ _ _ (.inr (by omega)))
set_option maxRecDepth 20000 in
set_option maxHeartbeats 4000000 in
theorem firstTwo (w : World) (g off n c : Nat) (a0 v : Int) (wf0 : (Lit.int .i64 a0).wf = true) (wfv : (Lit.int .i64 v).wf = true) (hc0 : w.cell? ⟨g, off, none⟩ = some (.int .i64 a0)) (hn : 2 ≤ n) (hc1 : w.cell? ⟨g, off + 1, none⟩ = some (.int .i64 v)) : Calls Tryd.prog 24 #[.slice (some ⟨g, off, none⟩) n c] w fun e' w' => e' = .returned (.tuple #[.agg #[.int .i64 (Pl.pdec a0 v).op, .int .i64 (Pl.pdec a0 v).z, .int .i64 (Pl.pdec a0 v).r, .int .i64 (Pl.pdec a0 v).m, .int .i64 (Pl.pdec a0 v).k, .int .i64 (Pl.pdec a0 v).e, .int .i64 (Pl.pdec a0 v).s], .int .i64 (Pl.pdecN a0 v), .bool (Pl.pdecOk a0 v)]) ∧ Kept 0 0 w w' := by
  have K0 := hide (kept_alloc w (.cells #[.int .i64 0, .int .i64 0, .int .i64 0, .int .i64 0, .int .i64 0, .int .i64 0, .int .i64 0] 36))
  have R0 := hide (Blk.new w #[.int .i64 0, .int .i64 0, .int .i64 0, .int .i64 0, .int .i64 0, .int .i64 0, .int .i64 0] 36)
  obtain ⟨x, hx⟩ : ∃ x, Pl.pdec a0 v = x := ⟨_, rfl⟩
  obtain ⟨N, hN⟩ : ∃ N, Pl.pdecN a0 v = N := ⟨_, rfl⟩
  obtain ⟨F, hF⟩ : ∃ F, Pl.pdecOk a0 v = F := ⟨_, rfl⟩
  rw [hx, hN, hF]
  have HX := hide hx
  have HN := hide hN
  have HF := hide hF
  have d0 := hc0
  clear hx hN hF hc0
  have d1 : w.cell? ⟨g, off + 1, none⟩ = some (.int .i64 v) := hc1
  clear hc1
  have hne : ((n : Int) == 1) = false := by simp; omega
  go_enter Tryd.func24, Tryd.ntmps24
  go_wp2_with fail
  refine wp_region_inv2 (fun A0 l A W => FR [15, 16, 17, 18, 19, 20, 21, 22, 23, 24, 3, 4] A0 A ∧ Once l 0 (A.tmps[15]? = some (.slice (some ⟨g, off, none⟩) n c)) ∧ Once l 1 (A.tmps[16]? = some (.pointer (some ⟨g, off, none⟩))) ∧ Once l 2 (A.tmps[17]? = some (.int .i64 a0)) ∧ Once l 3 (A.tmps[18]? = some (.slice (some ⟨g, off, none⟩) n c)) ∧ Once l 4 (A.tmps[19]? = some (.pointer (some ⟨g, off + 1, none⟩))) ∧ Once l 5 (A.tmps[20]? = some (.int .i64 v)) ∧ Once l 6 (A.tmps[21]? = some (.tuple #[.agg #[.int .i64 x.op, .int .i64 x.z, .int .i64 x.r, .int .i64 x.m, .int .i64 x.k, .int .i64 x.e, .int .i64 x.s], .int .i64 N, .bool F])) ∧ Once l 7 (A.tmps[22]? = some (.agg #[.int .i64 x.op, .int .i64 x.z, .int .i64 x.r, .int .i64 x.m, .int .i64 x.k, .int .i64 x.e, .int .i64 x.s])) ∧ Once l 8 (A.tmps[23]? = some (.int .i64 N)) ∧ Once l 9 (A.tmps[24]? = some (.bool F)) ∧ Once l 10 (True) ∧ Once l 11 (A.tmps[3]? = some (.int .i64 N)) ∧ Once l 12 (A.tmps[4]? = some (.bool F)) ∧ Blk W w.heap.size (bif l.getD 10 true then #[.int .i64 x.op, .int .i64 x.z, .int .i64 x.r, .int .i64 x.m, .int .i64 x.k, .int .i64 x.e, .int .i64 x.s] else #[.int .i64 0, .int .i64 0, .int .i64 0, .int .i64 0, .int .i64 0, .int .i64 0, .int .i64 0]) 36 ∧ Kept 0 0 w W) (by kernel_rfl) (by kernel_rfl) ?start ?fin ?step
  case start => exact ⟨FR.refl _ _, once_start (by decide), once_start (by decide), once_start (by decide), once_start (by decide), once_start (by decide), once_start (by decide), once_start (by decide), once_start (by decide), once_start (by decide), once_start (by decide), once_start (by decide), once_start (by decide), once_start (by decide), (by rw [start_at (by decide)]; exact R0.out), kept_drew K0.out⟩
  case fin =>
    intro l A W h hl
    obtain ⟨hFR, o0, o1, o2, o3, o4, o5, o6, o7, o8, o9, o10, o11, o12, oR, hK⟩ := h
    have g11 := o11 (hl 11 (by decide))
    have QR : Hid (Blk W w.heap.size #[.int .i64 x.op, .int .i64 x.z, .int .i64 x.r, .int .i64 x.m, .int .i64 x.k, .int .i64 x.e, .int .i64 x.s] 36) := hide (by rw [hl 10 (by decide)] at oR; exact oR)
    obtain ⟨q0, q1, q2, q3, q4, q5, q6⟩ := QR.out.c7
    have g12 := o12 (hl 12 (by decide))
    have QQ := hide hK
    have hc9 := hFR.chain
    simp only [List.foldl] at hc9
    rw [getD_of g11, getD_of g12] at hc9
    clear oR hl hK hFR g11 g12 o0 o1 o2 o3 o4 o5 o6 o7 o8 o9 o10 o11 o12
    generalize A.tmps.getD 15 undef = s15 at hc9
    generalize A.tmps.getD 16 undef = s16 at hc9
    generalize A.tmps.getD 17 undef = s17 at hc9
    generalize A.tmps.getD 18 undef = s18 at hc9
    generalize A.tmps.getD 19 undef = s19 at hc9
    generalize A.tmps.getD 20 undef = s20 at hc9
    generalize A.tmps.getD 21 undef = s21 at hc9
    generalize A.tmps.getD 22 undef = s22 at hc9
    generalize A.tmps.getD 23 undef = s23 at hc9
    generalize A.tmps.getD 24 undef = s24 at hc9
    subst hc9
    go_simp
    go_wp2_with fail
    refine bodyPost_ret (v := .tuple #[.agg #[.int .i64 x.op, .int .i64 x.z, .int .i64 x.r, .int .i64 x.m, .int .i64 x.k, .int .i64 x.e, .int .i64 x.s], .int .i64 N, .bool F]) ?_ rfl ⟨rfl, QQ.out⟩
    rw [results_ct2 rfl]; go_simp
  case step =>
    intro l A W i hI hm
    obtain ⟨hFR, o0, o1, o2, o3, o4, o5, o6, o7, o8, o9, o10, o11, o12, oR, hK⟩ := hI
    obtain ⟨hi1, hi2⟩ := ready_new hm
    have hsz : Hid (24 < A.tmps.size) := hide (by rw [hFR.size]; simp)
    have m0 : A.tmps[0]? = some (.slice (some ⟨g, off, none⟩) n c) := (hFR.out 0 (by decide)).trans rfl
    have m2 : A.tmps[2]? = some (.pointer (some ⟨w.heap.size, 0, none⟩)) := (hFR.out 2 (by decide)).trans rfl
    rcases i with _ | _ | _ | _ | _ | _ | _ | _ | _ | _ | _ | _ | _ | i
    · refine wpOp_step rfl (fun KK hK2 => ?_)
      go_simp
      exact hK2 (A.put (some 15) (.slice (some ⟨g, off, none⟩) n c)) _ ⟨hFR.put (by decide) _, .now (put_eq (by have hz := hsz.out; omega)), o1.past (by decide) (fun h => (put_ne (by decide)).trans h), o2.past (by decide) (fun h => (put_ne (by decide)).trans h), o3.past (by decide) (fun h => (put_ne (by decide)).trans h), o4.past (by decide) (fun h => (put_ne (by decide)).trans h), o5.past (by decide) (fun h => (put_ne (by decide)).trans h), o6.past (by decide) (fun h => (put_ne (by decide)).trans h), o7.past (by decide) (fun h => (put_ne (by decide)).trans h), o8.past (by decide) (fun h => (put_ne (by decide)).trans h), o9.past (by decide) (fun h => (put_ne (by decide)).trans h), o10.past (by decide) id, o11.past (by decide) (fun h => (put_ne (by decide)).trans h), o12.past (by decide) (fun h => (put_ne (by decide)).trans h), by rw [getD_set_ne (by decide)]; exact oR, hK⟩
    · have e0 := o0 (ready_dep hm 0 (by kernel_rfl))
      have hn0 : 0 < n := by omega
      refine wpOp_step rfl (fun KK hK2 => ?_)
      go_simp
      exact hK2 (A.put (some 16) (.pointer (some ⟨g, off, none⟩))) _ ⟨hFR.put (by decide) _, o0.past (by decide) (fun h => (put_ne (by decide)).trans h), .now (put_eq (by have hz := hsz.out; omega)), o2.past (by decide) (fun h => (put_ne (by decide)).trans h), o3.past (by decide) (fun h => (put_ne (by decide)).trans h), o4.past (by decide) (fun h => (put_ne (by decide)).trans h), o5.past (by decide) (fun h => (put_ne (by decide)).trans h), o6.past (by decide) (fun h => (put_ne (by decide)).trans h), o7.past (by decide) (fun h => (put_ne (by decide)).trans h), o8.past (by decide) (fun h => (put_ne (by decide)).trans h), o9.past (by decide) (fun h => (put_ne (by decide)).trans h), o10.past (by decide) id, o11.past (by decide) (fun h => (put_ne (by decide)).trans h), o12.past (by decide) (fun h => (put_ne (by decide)).trans h), by rw [getD_set_ne (by decide)]; exact oR, hK⟩
    · have e1 := o1 (ready_dep hm 1 (by kernel_rfl))
      have y0 := cellK d0 hK
      refine wpOp_step rfl (fun KK hK2 => ?_)
      go_simp
      exact hK2 (A.put (some 17) (.int .i64 a0)) _ ⟨hFR.put (by decide) _, o0.past (by decide) (fun h => (put_ne (by decide)).trans h), o1.past (by decide) (fun h => (put_ne (by decide)).trans h), .now (put_eq (by have hz := hsz.out; omega)), o3.past (by decide) (fun h => (put_ne (by decide)).trans h), o4.past (by decide) (fun h => (put_ne (by decide)).trans h), o5.past (by decide) (fun h => (put_ne (by decide)).trans h), o6.past (by decide) (fun h => (put_ne (by decide)).trans h), o7.past (by decide) (fun h => (put_ne (by decide)).trans h), o8.past (by decide) (fun h => (put_ne (by decide)).trans h), o9.past (by decide) (fun h => (put_ne (by decide)).trans h), o10.past (by decide) id, o11.past (by decide) (fun h => (put_ne (by decide)).trans h), o12.past (by decide) (fun h => (put_ne (by decide)).trans h), by rw [getD_set_ne (by decide)]; exact oR, hK⟩
    · refine wpOp_step rfl (fun KK hK2 => ?_)
      go_simp
      exact hK2 (A.put (some 18) (.slice (some ⟨g, off, none⟩) n c)) _ ⟨hFR.put (by decide) _, o0.past (by decide) (fun h => (put_ne (by decide)).trans h), o1.past (by decide) (fun h => (put_ne (by decide)).trans h), o2.past (by decide) (fun h => (put_ne (by decide)).trans h), .now (put_eq (by have hz := hsz.out; omega)), o4.past (by decide) (fun h => (put_ne (by decide)).trans h), o5.past (by decide) (fun h => (put_ne (by decide)).trans h), o6.past (by decide) (fun h => (put_ne (by decide)).trans h), o7.past (by decide) (fun h => (put_ne (by decide)).trans h), o8.past (by decide) (fun h => (put_ne (by decide)).trans h), o9.past (by decide) (fun h => (put_ne (by decide)).trans h), o10.past (by decide) id, o11.past (by decide) (fun h => (put_ne (by decide)).trans h), o12.past (by decide) (fun h => (put_ne (by decide)).trans h), by rw [getD_set_ne (by decide)]; exact oR, hK⟩
    · have e3 := o3 (ready_dep hm 3 (by kernel_rfl))
      have hn1 : (1 : Int) < (n : Int) := by omega
      refine wpOp_step rfl (fun KK hK2 => ?_)
      go_simp
      exact hK2 (A.put (some 19) (.pointer (some ⟨g, off + 1, none⟩))) _ ⟨hFR.put (by decide) _, o0.past (by decide) (fun h => (put_ne (by decide)).trans h), o1.past (by decide) (fun h => (put_ne (by decide)).trans h), o2.past (by decide) (fun h => (put_ne (by decide)).trans h), o3.past (by decide) (fun h => (put_ne (by decide)).trans h), .now (put_eq (by have hz := hsz.out; omega)), o5.past (by decide) (fun h => (put_ne (by decide)).trans h), o6.past (by decide) (fun h => (put_ne (by decide)).trans h), o7.past (by decide) (fun h => (put_ne (by decide)).trans h), o8.past (by decide) (fun h => (put_ne (by decide)).trans h), o9.past (by decide) (fun h => (put_ne (by decide)).trans h), o10.past (by decide) id, o11.past (by decide) (fun h => (put_ne (by decide)).trans h), o12.past (by decide) (fun h => (put_ne (by decide)).trans h), by rw [getD_set_ne (by decide)]; exact oR, hK⟩
    · have e4 := o4 (ready_dep hm 4 (by kernel_rfl))
      have y1 := cellK d1 hK
      refine wpOp_step rfl (fun KK hK2 => ?_)
      go_simp
      exact hK2 (A.put (some 20) (.int .i64 v)) _ ⟨hFR.put (by decide) _, o0.past (by decide) (fun h => (put_ne (by decide)).trans h), o1.past (by decide) (fun h => (put_ne (by decide)).trans h), o2.past (by decide) (fun h => (put_ne (by decide)).trans h), o3.past (by decide) (fun h => (put_ne (by decide)).trans h), o4.past (by decide) (fun h => (put_ne (by decide)).trans h), .now (put_eq (by have hz := hsz.out; omega)), o6.past (by decide) (fun h => (put_ne (by decide)).trans h), o7.past (by decide) (fun h => (put_ne (by decide)).trans h), o8.past (by decide) (fun h => (put_ne (by decide)).trans h), o9.past (by decide) (fun h => (put_ne (by decide)).trans h), o10.past (by decide) id, o11.past (by decide) (fun h => (put_ne (by decide)).trans h), o12.past (by decide) (fun h => (put_ne (by decide)).trans h), by rw [getD_set_ne (by decide)]; exact oR, hK⟩
    · have e2 := o2 (ready_dep hm 2 (by kernel_rfl))
      have e5 := o5 (ready_dep hm 5 (by kernel_rfl))
      refine wpOp_step rfl (fun KK hK2 => ?_)
      go_simp
      refine (pDecodeIns W a0 v wf0 wfv).mono ?_
      rw [HX.out, HN.out, HF.out]
      rintro r9 y ⟨rfl, kd⟩
      go_simp
      exact hK2 (A.put (some 21) (.tuple #[.agg #[.int .i64 x.op, .int .i64 x.z, .int .i64 x.r, .int .i64 x.m, .int .i64 x.k, .int .i64 x.e, .int .i64 x.s], .int .i64 N, .bool F])) _ ⟨hFR.put (by decide) _, o0.past (by decide) (fun h => (put_ne (by decide)).trans h), o1.past (by decide) (fun h => (put_ne (by decide)).trans h), o2.past (by decide) (fun h => (put_ne (by decide)).trans h), o3.past (by decide) (fun h => (put_ne (by decide)).trans h), o4.past (by decide) (fun h => (put_ne (by decide)).trans h), o5.past (by decide) (fun h => (put_ne (by decide)).trans h), .now (put_eq (by have hz := hsz.out; omega)), o7.past (by decide) (fun h => (put_ne (by decide)).trans h), o8.past (by decide) (fun h => (put_ne (by decide)).trans h), o9.past (by decide) (fun h => (put_ne (by decide)).trans h), o10.past (by decide) id, o11.past (by decide) (fun h => (put_ne (by decide)).trans h), o12.past (by decide) (fun h => (put_ne (by decide)).trans h), by rw [getD_set_ne (by decide)]; exact oR.kept0 kd, (hK.trans kd)⟩
    · have e6 := o6 (ready_dep hm 6 (by kernel_rfl))
      refine wpOp_step rfl (fun KK hK2 => ?_)
      go_simp
      exact hK2 (A.put (some 22) (.agg #[.int .i64 x.op, .int .i64 x.z, .int .i64 x.r, .int .i64 x.m, .int .i64 x.k, .int .i64 x.e, .int .i64 x.s])) _ ⟨hFR.put (by decide) _, o0.past (by decide) (fun h => (put_ne (by decide)).trans h), o1.past (by decide) (fun h => (put_ne (by decide)).trans h), o2.past (by decide) (fun h => (put_ne (by decide)).trans h), o3.past (by decide) (fun h => (put_ne (by decide)).trans h), o4.past (by decide) (fun h => (put_ne (by decide)).trans h), o5.past (by decide) (fun h => (put_ne (by decide)).trans h), o6.past (by decide) (fun h => (put_ne (by decide)).trans h), .now (put_eq (by have hz := hsz.out; omega)), o8.past (by decide) (fun h => (put_ne (by decide)).trans h), o9.past (by decide) (fun h => (put_ne (by decide)).trans h), o10.past (by decide) id, o11.past (by decide) (fun h => (put_ne (by decide)).trans h), o12.past (by decide) (fun h => (put_ne (by decide)).trans h), by rw [getD_set_ne (by decide)]; exact oR, hK⟩
    · have e6 := o6 (ready_dep hm 6 (by kernel_rfl))
      refine wpOp_step rfl (fun KK hK2 => ?_)
      go_simp
      exact hK2 (A.put (some 23) (.int .i64 N)) _ ⟨hFR.put (by decide) _, o0.past (by decide) (fun h => (put_ne (by decide)).trans h), o1.past (by decide) (fun h => (put_ne (by decide)).trans h), o2.past (by decide) (fun h => (put_ne (by decide)).trans h), o3.past (by decide) (fun h => (put_ne (by decide)).trans h), o4.past (by decide) (fun h => (put_ne (by decide)).trans h), o5.past (by decide) (fun h => (put_ne (by decide)).trans h), o6.past (by decide) (fun h => (put_ne (by decide)).trans h), o7.past (by decide) (fun h => (put_ne (by decide)).trans h), .now (put_eq (by have hz := hsz.out; omega)), o9.past (by decide) (fun h => (put_ne (by decide)).trans h), o10.past (by decide) id, o11.past (by decide) (fun h => (put_ne (by decide)).trans h), o12.past (by decide) (fun h => (put_ne (by decide)).trans h), by rw [getD_set_ne (by decide)]; exact oR, hK⟩
    · have e6 := o6 (ready_dep hm 6 (by kernel_rfl))
      refine wpOp_step rfl (fun KK hK2 => ?_)
      go_simp
      exact hK2 (A.put (some 24) (.bool F)) _ ⟨hFR.put (by decide) _, o0.past (by decide) (fun h => (put_ne (by decide)).trans h), o1.past (by decide) (fun h => (put_ne (by decide)).trans h), o2.past (by decide) (fun h => (put_ne (by decide)).trans h), o3.past (by decide) (fun h => (put_ne (by decide)).trans h), o4.past (by decide) (fun h => (put_ne (by decide)).trans h), o5.past (by decide) (fun h => (put_ne (by decide)).trans h), o6.past (by decide) (fun h => (put_ne (by decide)).trans h), o7.past (by decide) (fun h => (put_ne (by decide)).trans h), o8.past (by decide) (fun h => (put_ne (by decide)).trans h), .now (put_eq (by have hz := hsz.out; omega)), o10.past (by decide) id, o11.past (by decide) (fun h => (put_ne (by decide)).trans h), o12.past (by decide) (fun h => (put_ne (by decide)).trans h), by rw [getD_set_ne (by decide)]; exact oR, hK⟩
    · have e7 := o7 (ready_dep hm 7 (by kernel_rfl))
      have oR2 : Blk W w.heap.size #[.int .i64 0, .int .i64 0, .int .i64 0, .int .i64 0, .int .i64 0, .int .i64 0, .int .i64 0] 36 := by rw [hi2] at oR; exact oR
      have OR := hide oR2
      obtain ⟨q0, q1, q2, q3, q4, q5, q6⟩ := OR.out.c7
      have fq0 := OR.out.frozen 0; have fq1 := OR.out.frozen 1; have fq2 := OR.out.frozen 2; have fq3 := OR.out.frozen 3; have fq4 := OR.out.frozen 4; have fq5 := OR.out.frozen 5; have fq6 := OR.out.frozen 6
      refine wpOp_step rfl (fun KK hK2 => ?_)
      go_simp
      exact hK2 A _ ⟨hFR, o0.past (by decide) id, o1.past (by decide) id, o2.past (by decide) id, o3.past (by decide) id, o4.past (by decide) id, o5.past (by decide) id, o6.past (by decide) id, o7.past (by decide) id, o8.past (by decide) id, o9.past (by decide) id, .now trivial, o11.past (by decide) id, o12.past (by decide) id, by rw [getD_set_eq]; exact (((((((oR2.set 0 (.int .i64 x.op)).set 1 (.int .i64 x.z)).set 2 (.int .i64 x.r)).set 3 (.int .i64 x.m)).set 4 (.int .i64 x.k)).set 5 (.int .i64 x.e)).set 6 (.int .i64 x.s)), (kept_set (kept_set (kept_set (kept_set (kept_set (kept_set (kept_set hK _ _ _ (.inr (Nat.le_refl _))) _ _ _ (.inr (Nat.le_refl _))) _ _ _ (.inr (Nat.le_refl _))) _ _ _ (.inr (Nat.le_refl _))) _ _ _ (.inr (Nat.le_refl _))) _ _ _ (.inr (Nat.le_refl _))) _ _ _ (.inr (Nat.le_refl _)))⟩
    · have e8 := o8 (ready_dep hm 8 (by kernel_rfl))
      refine wpOp_step rfl (fun KK hK2 => ?_)
      go_simp
      exact hK2 (A.put (some 3) (.int .i64 N)) _ ⟨hFR.put (by decide) _, o0.past (by decide) (fun h => (put_ne (by decide)).trans h), o1.past (by decide) (fun h => (put_ne (by decide)).trans h), o2.past (by decide) (fun h => (put_ne (by decide)).trans h), o3.past (by decide) (fun h => (put_ne (by decide)).trans h), o4.past (by decide) (fun h => (put_ne (by decide)).trans h), o5.past (by decide) (fun h => (put_ne (by decide)).trans h), o6.past (by decide) (fun h => (put_ne (by decide)).trans h), o7.past (by decide) (fun h => (put_ne (by decide)).trans h), o8.past (by decide) (fun h => (put_ne (by decide)).trans h), o9.past (by decide) (fun h => (put_ne (by decide)).trans h), o10.past (by decide) id, .now (put_eq (by have hz := hsz.out; omega)), o12.past (by decide) (fun h => (put_ne (by decide)).trans h), by rw [getD_set_ne (by decide)]; exact oR, hK⟩
    · have e9 := o9 (ready_dep hm 9 (by kernel_rfl))
      refine wpOp_step rfl (fun KK hK2 => ?_)
      go_simp
      exact hK2 (A.put (some 4) (.bool F)) _ ⟨hFR.put (by decide) _, o0.past (by decide) (fun h => (put_ne (by decide)).trans h), o1.past (by decide) (fun h => (put_ne (by decide)).trans h), o2.past (by decide) (fun h => (put_ne (by decide)).trans h), o3.past (by decide) (fun h => (put_ne (by decide)).trans h), o4.past (by decide) (fun h => (put_ne (by decide)).trans h), o5.past (by decide) (fun h => (put_ne (by decide)).trans h), o6.past (by decide) (fun h => (put_ne (by decide)).trans h), o7.past (by decide) (fun h => (put_ne (by decide)).trans h), o8.past (by decide) (fun h => (put_ne (by decide)).trans h), o9.past (by decide) (fun h => (put_ne (by decide)).trans h), o10.past (by decide) id, o11.past (by decide) (fun h => (put_ne (by decide)).trans h), .now (put_eq (by have hz := hsz.out; omega)), by rw [getD_set_ne (by decide)]; exact oR, hK⟩
    · simp at hi1
      omega
def sliceLen : Value → Nat
  | .slice _ n _ => n
  | _ => 0
theorem pdec_ok {w v : Int} (h : Pl.pdecOk w v = true) : Pl.pdec w v = Pl.decode w v ∧ Pl.pdecN w v = Pl.longW w := by simp [Pl.pdec, Pl.pdecN, h]
theorem pdec_no {w v : Int} (h : Pl.pdecOk w v = false) : Pl.pdec w v = Pl.inNo ∧ Pl.pdecN w v = 0 := by simp [Pl.pdec, Pl.pdecN, h]
/-- the rest of a list -/
theorem sliceFrom (g o n c L : Nat) (hL : L ≤ n) (w : World) : (Instr.slice 25 (.slice (some ⟨g, o, none⟩) n c) (some (.int .i64 (L : Int))) none none).run Tryd.prog w = .ok (.slice (if c = L then some ⟨g, o, none⟩ else some ⟨g, o + L, none⟩) (n - L) (c - L)) w := by
  have hb : (0 : Int) ≤ (L : Int) ∧ (L : Int) ≤ (n : Int) := by omega
  go_simp
set_option maxRecDepth 20000 in
set_option maxHeartbeats 8000000 in
theorem implDecodeAllC (w : World) (a : Option Addr) (ca : Nat) (xs : List Int) (ha : Came w a xs) (bx : xs.length ≤ 2000000) (hca : xs.length ≤ ca) : Calls Tryd.prog 9 #[.slice a xs.length ca] w fun e' w' => ∃ (b : Option Addr) (c : Nat), e' = .returned (.tuple #[.slice b (Pl.daV xs).length c, .bool (Pl.daOk xs)]) ∧ SlotIn w' w.heap.size w'.heap.size b (Pl.flat (Pl.daV xs)) ∧ Kept 0 0 w w' := by
  have HA := hide ha
  have HC := hide hca
  clear ha hca
  obtain ⟨i, hi, hz0, hz1, hz2⟩ := info_parts Tryd.infoIns
  cases h80 : decide ((80 : Int) < (xs.length : Int))
  · have b80 : xs.length ≤ 80 := by simp at h80; omega
    go_enter Tryd.func9, Tryd.ntmps9
    go_wp2_with fail
    go_loopw [0, 4, 5, 6, 7] (fun lv v _ _ _ wr => ∃ (k n c : Nat) (b : Option Addr) (O : List Pl.In), n + k = xs.length ∧ lv = .slice b n c ∧ n ≤ c ∧ (0 < n → ∃ g o : Nat, a = some ⟨g, o, none⟩ ∧ b = some ⟨g, o + k, none⟩) ∧ O.length ≤ k ∧ Pl.daFrom xs k O ∧ wr.ownsRow w.heap.size 36 7 v O.length ((Pl.flat O).map (Value.int .i64)) ∧ Kept 0 0 w wr) (fun lv _ _ _ _ _ => sliceLen lv)
    case atStart => exact ⟨0, xs.length, ca, a, [], by omega, rfl, HC.out, fun q => by obtain ⟨g, o, e, _⟩ := HA.out.1 0 q; exact ⟨g, o, e, e⟩, Nat.le_refl _, Pl.daFrom_start xs, World.ownsRow_nil _ _ _ _, Kept.refl _ _ _⟩
    case round =>
      obtain ⟨k, n, c, b, O, hn, rfl, hc, hb, hOl, hfrom, hown, hkept⟩ := hrel
      have HK := hide hkept
      have HO := hide hown
      have HF := hide hfrom
      clear hkept hown hfrom
      by_cases hpos : 0 < n
      · obtain ⟨g, o, rfl, rfl⟩ := hb hpos
        have hk : k < xs.length := by omega
        obtain ⟨g1, o1, ea, hc0⟩ := (HA.out.1.keptS HK.out) k hk
        cases ea
        rw [show xs[k]?.getD 0 = el xs k from rfl] at hc0
        have wf0 := wfAt HA.out.2 hk
        obtain ⟨v, wfv, hv1, hv2, hF⟩ : ∃ v : Int, (Lit.int .i64 v).wf = true ∧ (k + 1 = xs.length → v = -1) ∧ (k + 1 < xs.length → v = el xs (k + 1)) ∧ Calls Tryd.prog 24 #[.slice (some ⟨g, o + k, none⟩) n c] wr fun e' w' => e' = .returned (.tuple #[.agg #[.int .i64 (Pl.pdec (el xs k) v).op, .int .i64 (Pl.pdec (el xs k) v).z, .int .i64 (Pl.pdec (el xs k) v).r, .int .i64 (Pl.pdec (el xs k) v).m, .int .i64 (Pl.pdec (el xs k) v).k, .int .i64 (Pl.pdec (el xs k) v).e, .int .i64 (Pl.pdec (el xs k) v).s], .int .i64 (Pl.pdecN (el xs k) v), .bool (Pl.pdecOk (el xs k) v)]) ∧ Kept 0 0 wr w' := by
          by_cases h1 : n = 1
          · subst h1
            exact ⟨-1, wfSm (by decide) (by decide), fun _ => rfl, fun q => by omega, firstOne wr g (o + k) c (el xs k) (-1) wf0 (wfSm (by decide) (by decide)) hc0 rfl⟩
          · have hk2 : k + 1 < xs.length := by omega
            obtain ⟨g2, o2, ea, hc1⟩ := (HA.out.1.keptS HK.out) (k + 1) hk2
            cases ea
            rw [show xs[k + 1]?.getD 0 = el xs (k + 1) from rfl] at hc1
            have wf1 := wfAt HA.out.2 hk2
            exact ⟨el xs (k + 1), wf1, fun q => by omega, fun _ => rfl, firstTwo wr g (o + k) n c (el xs k) (el xs (k + 1)) wf0 wf1 hc0 (by omega) hc1⟩
        obtain ⟨hno, hyes⟩ := daStep HF.out hk v hv1 hv2
        have HCF := hide hF
        clear hF hb hc0 hv1 hv2
        cases hd : Pl.pdecOk (el xs k) v
        · have E : Hid (Pl.daOk xs = false) := hide (by simp [Pl.daOk, hno hd])
          obtain ⟨ex, en⟩ := pdec_no hd
          have EX := hide ex
          have EN := hide en
          clear ex en hno hyes
          go_wp2_with (go_at_call 24; refine HCF.out.mono ?_; rw [EX.out, EN.out, hd]; rintro e9 w2 ⟨rfl, k2⟩; have K2 := hide (HK.out.trans k2); clear k2)
          go_ret2
          exact ⟨none, 0, by simp [Pl.daV, E.out, Pl.flat], .inl ⟨rfl, by simp [Pl.daV, E.out, Pl.flat]⟩, kept_new K2.out _⟩
        · obtain ⟨L, hL, hL1, hL2, hf2⟩ := hyes hd
          obtain ⟨ex, en⟩ := pdec_ok hd
          obtain ⟨X, hX⟩ : ∃ X, Pl.decode (el xs k) v = X := ⟨_, rfl⟩
          rw [hX] at ex hf2
          rw [hL] at en
          have EX := hide ex
          have EN := hide en
          have HF2 := hide hf2
          clear ex en hno hyes hX hL hf2
          obtain ⟨b2, hb2, hsl⟩ : ∃ b2 : Option Addr, Hid (0 < n - L → b2 = some ⟨g, o + (k + L), none⟩) ∧ ∀ w : World, (Instr.slice 25 (.slice (some ⟨g, o + k, none⟩) n c) (some (.int .i64 (L : Int))) none none).run Tryd.prog w = .ok (.slice b2 (n - L) (c - L)) w :=
            ⟨_, hide (fun q => by rw [if_neg (by omega)]; rw [show o + k + L = o + (k + L) by omega]), fun w => sliceFrom g (o + k) n c L (by omega) w⟩
          go_wp2_with (first | (go_at_call 24; refine HCF.out.mono ?_; rw [EX.out, EN.out, hd]; rintro e9 w2 ⟨rfl, k2⟩; have K2 := hide (HK.out.trans k2); have O2 := hide (((HO.out.kept k2.grown (Classical.em _)).alloc (.cells #[.int .i64 X.op, .int .i64 X.z, .int .i64 X.r, .int .i64 X.m, .int .i64 X.k, .int .i64 X.e, .int .i64 X.s] 36)).alloc (.cells #[.int .i64 X.op, .int .i64 X.z, .int .i64 X.r, .int .i64 X.m, .int .i64 X.k, .int .i64 X.e, .int .i64 X.s] 36)); have BN := Blk.new (w2.alloc (.cells #[.int .i64 X.op, .int .i64 X.z, .int .i64 X.r, .int .i64 X.m, .int .i64 X.k, .int .i64 X.e, .int .i64 X.s] 36)) #[.int .i64 X.op, .int .i64 X.z, .int .i64 X.r, .int .i64 X.m, .int .i64 X.k, .int .i64 X.e, .int .i64 X.s] 36; simp only [World.size_alloc] at BN; replace BN := hide BN; have s2 := K2.out.size; clear k2) | (at_builtin; refine wpList_append_own _ rfl _ _ 23 rfl w.heap.size 36 i (.agg #[.int .i64 0, .int .i64 0, .int .i64 0, .int .i64 0, .int .i64 0, .int .i64 0, .int .i64 0]) 7 56 Tryd.underlying23 hi hz0 hz1 hz2 rfl (by decide) _ _ _ rfl O2.out ⟨w2.heap.size + 1, 0, none⟩ 1 1 [.int .i64 X.op, .int .i64 X.z, .int .i64 X.r, .int .i64 X.m, .int .i64 X.k, .int .i64 X.e, .int .i64 X.s] rfl rfl ?c1 ?c2 ?c3 ?c4 ?c5 ?_))
          case c1 => exact World.news_of_block (cs := #[.int .i64 X.op, .int .i64 X.z, .int .i64 X.r, .int .i64 X.m, .int .i64 X.k, .int .i64 X.e, .int .i64 X.s]) (t := 36) (fr := (0, 0)) BN.out
          case c2 => intro u hu; simp at hu; rcases hu with rfl | rfl | rfl | rfl | rfl | rfl | rfl <;> rfl
          case c3 => unfold maxLen; omega
          case c4 => omega
          case c5 => simp; omega
          intro v' w4 hown' hgr _
          have HO4 := hide hown'
          have K4 := hide (kept_over (kept_new (kept_new K2.out (.cells #[.int .i64 X.op, .int .i64 X.z, .int .i64 X.r, .int .i64 X.m, .int .i64 X.k, .int .i64 X.e, .int .i64 X.s] 36)) (.cells #[.int .i64 X.op, .int .i64 X.z, .int .i64 X.r, .int .i64 X.m, .int .i64 X.k, .int .i64 X.e, .int .i64 X.s] 36)) (kept_row (lo := w.heap.size) (hi := w2.heap.size + 1 + 1) hgr (fun g hg => by have q := O2.out.lt g hg; simpa using q)) (Nat.le_refl _))
          clear hown' hgr
          have hsl4 := hsl w4
          go_wp2_with fail
          go_roundw
          case rel => exact ⟨k + L, n - L, c - L, b2, O ++ [X], by omega, rfl, by omega, fun q => ⟨g, o, rfl, hb2.out q⟩, by simp; omega, HF2.out, by rw [Pl.flat_snoc, List.length_append, List.map_append]; exact HO4.out, K4.out⟩
          case measure => simp [sliceLen]; omega
      · obtain rfl : n = 0 := by omega
        obtain rfl : k = xs.length := by omega
        have hda := Pl.daFrom_end HF.out (Nat.le_refl _)
        have E : Hid (Pl.daOk xs = true) := hide (by simp [Pl.daOk, hda]; omega)
        have EV : Hid (Pl.daV xs = O) := hide (by simp [Pl.daV, E.out, hda])
        obtain ⟨b, cb, rfl, hS⟩ := slotIn_row7 HO.out
        clear hda
        go_wp2_with fail
        go_ret2
        exact ⟨b, cb, by rw [EV.out, E.out]; rfl, by rw [EV.out]; exact hS, HK.out⟩
  · have E : Hid (Pl.daOk xs = false) := hide (by simp at h80; simp [Pl.daOk]; omega)
    go_enter Tryd.func9, Tryd.ntmps9
    go_wp2_with fail
    go_ret2
    exact ⟨none, 0, by simp [Pl.daV, E.out, Pl.flat], .inl ⟨rfl, by simp [Pl.daV, E.out, Pl.flat]⟩, Kept.refl _ _ _⟩
end Go.Proofs.YtlbnllhabdnjjaaDoor
