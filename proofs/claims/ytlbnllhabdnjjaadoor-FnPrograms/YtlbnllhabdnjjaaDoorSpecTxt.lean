/- The text of a number, as the model makes it. -/
import Derived.Test.YtlbnllhabdnjjaaDoorNumPl
import Derived.Test.YtlbnllhabdnjjaaDoorRegFrame
import Derived.RegionTactic
namespace Go.Proofs.YtlbnllhabdnjjaaDoor
open Go.RowKit
set_option linter.unusedVariables false
set_option maxRecDepth 20000 in
set_option maxHeartbeats 4000000 in
theorem specNum : ∀ (n : Nat), n ≤ 65535 → ∀ w : World, Calls Tryd.prog 33 #[.int .i64 (n : Int)] w fun e w' => e = .returned (str (Pl.num n)) ∧ Kept 0 0 w w' := by
  intro n
  induction n using Nat.strongRecOn with
  | ind n ih =>
    intro hn w
    replace ih := fun k (hk : k < n) (hk2 : k ≤ 65535) => ih k hk hk2
    by_cases h10 : n < 10
    · have hc := byteStr (w.alloc (.cells #[.int .u8 (48 + (n : Int))] 5)) w.heap.size n h10 (Blk.new w _ _)
      have h8 : IntKind.u8.wrap (48 + (n : Int)) = 48 + (n : Int) := by rw [IntKind.wrap_u8]; omega
      have K0 := hide (kept_alloc w (.cells #[.int .u8 (48 + (n : Int))] 5))
      rw [Pl.num_lt h10]
      have hd : decide ((n : Int) < 10) = true := by simp; omega
      clear ih
      have x1 : IntKind.i64.wrap ((n : Int) / 10) = (n : Int) / 10 := by rw [IntKind.wrap_i64]; omega
      have x2 : IntKind.i64.wrap (48 + (n : Int) % 10) = 48 + (n : Int) % 10 := by rw [IntKind.wrap_i64]; omega
      go_enter Tryd.func33, Tryd.ntmps33
      go_wp2_with fail
      go_ret
      exact ⟨rfl, K0.out⟩
    · have hd : decide ((n : Int) < 10) = false := by simp; omega
      have h8 : IntKind.u8.wrap (48 + (n : Int) % 10) = 48 + (n : Int) % 10 := by rw [IntKind.wrap_u8]; omega
      have hL : (Pl.num (n / 10)).length ≤ 5 := Pl.num_len 4 (by omega)
      have ih2 : ∀ w : World, Calls Tryd.prog 33 #[.int .i64 ((n : Int) / 10)] w fun e w' => e = .returned (str (Pl.num (n / 10))) ∧ Kept 0 0 w w' := fun w => by have q := ih (n / 10) (by omega) (by omega) w; rwa [show ((n / 10 : Nat) : Int) = (n : Int) / 10 from by omega] at q
      clear ih
      have x1 : IntKind.i64.wrap ((n : Int) / 10) = (n : Int) / 10 := by rw [IntKind.wrap_i64]; omega
      have x2 : IntKind.i64.wrap (48 + (n : Int) % 10) = 48 + (n : Int) % 10 := by rw [IntKind.wrap_i64]; omega
      go_enter Tryd.func33, Tryd.ntmps33
      go_wp2_with fail
      refine wp_region_inv2 (fun A0 l A W => ∃ (g : Nat), FR [10, 11, 12, 13, 14, 15, 16, 17, 18, 19, 2] A0 A ∧ Once l 0 (A.tmps[10]? = some (.int .i64 (n : Int))) ∧ Once l 1 (A.tmps[11]? = some (.int .i64 ((n : Int) / 10))) ∧ Once l 2 (A.tmps[12]? = some (str (Pl.num (n / 10)))) ∧ Once l 3 (A.tmps[13]? = some (.int .i64 (n : Int))) ∧ Once l 4 (A.tmps[14]? = some (.int .i64 ((n : Int) % 10))) ∧ Once l 5 (A.tmps[15]? = some (.int .i64 (48 + (n : Int) % 10))) ∧ Once l 6 (A.tmps[16]? = some (.int .u8 (48 + (n : Int) % 10))) ∧ Once l 7 (A.tmps[17]? = some (.slice (some ⟨g, 0, none⟩) 1 1)) ∧ Once l 8 (A.tmps[18]? = some (str [dig (n % 10)])) ∧ Once l 9 (A.tmps[19]? = some (str (Pl.num n))) ∧ Once l 10 (A.tmps[2]? = some (str (Pl.num n))) ∧ (l.getD 7 true = true → Blk W g #[.int .u8 (48 + (n : Int) % 10)] 5) ∧ Kept 0 0 w W) (by kernel_rfl) (by kernel_rfl) ?start ?fin ?step
      case start => exact ⟨0, FR.refl _ _, once_start (by decide), once_start (by decide), once_start (by decide), once_start (by decide), once_start (by decide), once_start (by decide), once_start (by decide), once_start (by decide), once_start (by decide), once_start (by decide), once_start (by decide), (fun e => (by rw [start_at (by decide)] at e; cases e)), kept_drew (Kept.refl _ _ _)⟩
      case fin =>
        intro l A W h hl
        obtain ⟨g, hFR, o0, o1, o2, o3, o4, o5, o6, o7, o8, o9, o10, hB, hK⟩ := h
        have g9 := o10 (hl 10 (by decide))
        have QQ := hide hK
        have hc9 := hFR.chain
        simp only [List.foldl] at hc9
        rw [getD_of g9] at hc9
        clear hl hK hFR g9 hB o0 o1 o2 o3 o4 o5 o6 o7 o8 o9 o10
        generalize A.tmps.getD 10 undef = s10 at hc9
        generalize A.tmps.getD 11 undef = s11 at hc9
        generalize A.tmps.getD 12 undef = s12 at hc9
        generalize A.tmps.getD 13 undef = s13 at hc9
        generalize A.tmps.getD 14 undef = s14 at hc9
        generalize A.tmps.getD 15 undef = s15 at hc9
        generalize A.tmps.getD 16 undef = s16 at hc9
        generalize A.tmps.getD 17 undef = s17 at hc9
        generalize A.tmps.getD 18 undef = s18 at hc9
        generalize A.tmps.getD 19 undef = s19 at hc9
        subst hc9
        go_simp
        go_wp2_with fail
        go_ret
        exact ⟨rfl, QQ.out⟩
      case step =>
        intro l A W i hI hm
        obtain ⟨g, hFR, o0, o1, o2, o3, o4, o5, o6, o7, o8, o9, o10, hB, hK⟩ := hI
        obtain ⟨hi1, hi2⟩ := ready_new hm
        have hsz : Hid (19 < A.tmps.size) := hide (by rw [hFR.size]; simp)
        have m0 : A.tmps[0]? = some (.int .i64 (n : Int)) := (hFR.out 0 (by decide)).trans rfl
        rcases i with _ | _ | _ | _ | _ | _ | _ | _ | _ | _ | _ | i
        · refine wpOp_step rfl (fun KK hK2 => ?_)
          go_simp
          exact hK2 (A.put (some 10) (.int .i64 (n : Int))) _ ⟨g, hFR.put (by decide) _, .now (put_eq (by have hz := hsz.out; omega)), o1.past (by decide) (fun h => (put_ne (by decide)).trans h), o2.past (by decide) (fun h => (put_ne (by decide)).trans h), o3.past (by decide) (fun h => (put_ne (by decide)).trans h), o4.past (by decide) (fun h => (put_ne (by decide)).trans h), o5.past (by decide) (fun h => (put_ne (by decide)).trans h), o6.past (by decide) (fun h => (put_ne (by decide)).trans h), o7.past (by decide) (fun h => (put_ne (by decide)).trans h), o8.past (by decide) (fun h => (put_ne (by decide)).trans h), o9.past (by decide) (fun h => (put_ne (by decide)).trans h), o10.past (by decide) (fun h => (put_ne (by decide)).trans h), (fun e => hB (by rwa [getD_set_ne (by decide)] at e)), hK⟩
        · have e0 := o0 (ready_dep hm 0 (by kernel_rfl))
          refine wpOp_step rfl (fun KK hK2 => ?_)
          go_simp
          exact hK2 (A.put (some 11) (.int .i64 ((n : Int) / 10))) _ ⟨g, hFR.put (by decide) _, o0.past (by decide) (fun h => (put_ne (by decide)).trans h), .now (put_eq (by have hz := hsz.out; omega)), o2.past (by decide) (fun h => (put_ne (by decide)).trans h), o3.past (by decide) (fun h => (put_ne (by decide)).trans h), o4.past (by decide) (fun h => (put_ne (by decide)).trans h), o5.past (by decide) (fun h => (put_ne (by decide)).trans h), o6.past (by decide) (fun h => (put_ne (by decide)).trans h), o7.past (by decide) (fun h => (put_ne (by decide)).trans h), o8.past (by decide) (fun h => (put_ne (by decide)).trans h), o9.past (by decide) (fun h => (put_ne (by decide)).trans h), o10.past (by decide) (fun h => (put_ne (by decide)).trans h), (fun e => hB (by rwa [getD_set_ne (by decide)] at e)), hK⟩
        · have e1 := o1 (ready_dep hm 1 (by kernel_rfl))
          refine wpOp_step rfl (fun KK hK2 => ?_)
          go_simp
          refine (ih2 W).mono ?_
          rintro r y ⟨rfl, kd⟩
          go_simp
          exact hK2 (A.put (some 12) (str (Pl.num (n / 10)))) _ ⟨g, hFR.put (by decide) _, o0.past (by decide) (fun h => (put_ne (by decide)).trans h), o1.past (by decide) (fun h => (put_ne (by decide)).trans h), .now (put_eq (by have hz := hsz.out; omega)), o3.past (by decide) (fun h => (put_ne (by decide)).trans h), o4.past (by decide) (fun h => (put_ne (by decide)).trans h), o5.past (by decide) (fun h => (put_ne (by decide)).trans h), o6.past (by decide) (fun h => (put_ne (by decide)).trans h), o7.past (by decide) (fun h => (put_ne (by decide)).trans h), o8.past (by decide) (fun h => (put_ne (by decide)).trans h), o9.past (by decide) (fun h => (put_ne (by decide)).trans h), o10.past (by decide) (fun h => (put_ne (by decide)).trans h), (fun e => (hB (by rwa [getD_set_ne (by decide)] at e)).kept0 kd), (hK.trans kd)⟩
        · refine wpOp_step rfl (fun KK hK2 => ?_)
          go_simp
          exact hK2 (A.put (some 13) (.int .i64 (n : Int))) _ ⟨g, hFR.put (by decide) _, o0.past (by decide) (fun h => (put_ne (by decide)).trans h), o1.past (by decide) (fun h => (put_ne (by decide)).trans h), o2.past (by decide) (fun h => (put_ne (by decide)).trans h), .now (put_eq (by have hz := hsz.out; omega)), o4.past (by decide) (fun h => (put_ne (by decide)).trans h), o5.past (by decide) (fun h => (put_ne (by decide)).trans h), o6.past (by decide) (fun h => (put_ne (by decide)).trans h), o7.past (by decide) (fun h => (put_ne (by decide)).trans h), o8.past (by decide) (fun h => (put_ne (by decide)).trans h), o9.past (by decide) (fun h => (put_ne (by decide)).trans h), o10.past (by decide) (fun h => (put_ne (by decide)).trans h), (fun e => hB (by rwa [getD_set_ne (by decide)] at e)), hK⟩
        · have e3 := o3 (ready_dep hm 3 (by kernel_rfl))
          refine wpOp_step rfl (fun KK hK2 => ?_)
          go_simp
          exact hK2 (A.put (some 14) (.int .i64 ((n : Int) % 10))) _ ⟨g, hFR.put (by decide) _, o0.past (by decide) (fun h => (put_ne (by decide)).trans h), o1.past (by decide) (fun h => (put_ne (by decide)).trans h), o2.past (by decide) (fun h => (put_ne (by decide)).trans h), o3.past (by decide) (fun h => (put_ne (by decide)).trans h), .now (put_eq (by have hz := hsz.out; omega)), o5.past (by decide) (fun h => (put_ne (by decide)).trans h), o6.past (by decide) (fun h => (put_ne (by decide)).trans h), o7.past (by decide) (fun h => (put_ne (by decide)).trans h), o8.past (by decide) (fun h => (put_ne (by decide)).trans h), o9.past (by decide) (fun h => (put_ne (by decide)).trans h), o10.past (by decide) (fun h => (put_ne (by decide)).trans h), (fun e => hB (by rwa [getD_set_ne (by decide)] at e)), hK⟩
        · have e4 := o4 (ready_dep hm 4 (by kernel_rfl))
          refine wpOp_step rfl (fun KK hK2 => ?_)
          go_simp
          exact hK2 (A.put (some 15) (.int .i64 (48 + (n : Int) % 10))) _ ⟨g, hFR.put (by decide) _, o0.past (by decide) (fun h => (put_ne (by decide)).trans h), o1.past (by decide) (fun h => (put_ne (by decide)).trans h), o2.past (by decide) (fun h => (put_ne (by decide)).trans h), o3.past (by decide) (fun h => (put_ne (by decide)).trans h), o4.past (by decide) (fun h => (put_ne (by decide)).trans h), .now (put_eq (by have hz := hsz.out; omega)), o6.past (by decide) (fun h => (put_ne (by decide)).trans h), o7.past (by decide) (fun h => (put_ne (by decide)).trans h), o8.past (by decide) (fun h => (put_ne (by decide)).trans h), o9.past (by decide) (fun h => (put_ne (by decide)).trans h), o10.past (by decide) (fun h => (put_ne (by decide)).trans h), (fun e => hB (by rwa [getD_set_ne (by decide)] at e)), hK⟩
        · have e5 := o5 (ready_dep hm 5 (by kernel_rfl))
          refine wpOp_step rfl (fun KK hK2 => ?_)
          go_simp
          exact hK2 (A.put (some 16) (.int .u8 (48 + (n : Int) % 10))) _ ⟨g, hFR.put (by decide) _, o0.past (by decide) (fun h => (put_ne (by decide)).trans h), o1.past (by decide) (fun h => (put_ne (by decide)).trans h), o2.past (by decide) (fun h => (put_ne (by decide)).trans h), o3.past (by decide) (fun h => (put_ne (by decide)).trans h), o4.past (by decide) (fun h => (put_ne (by decide)).trans h), o5.past (by decide) (fun h => (put_ne (by decide)).trans h), .now (put_eq (by have hz := hsz.out; omega)), o7.past (by decide) (fun h => (put_ne (by decide)).trans h), o8.past (by decide) (fun h => (put_ne (by decide)).trans h), o9.past (by decide) (fun h => (put_ne (by decide)).trans h), o10.past (by decide) (fun h => (put_ne (by decide)).trans h), (fun e => hB (by rwa [getD_set_ne (by decide)] at e)), hK⟩
        · have e6 := o6 (ready_dep hm 6 (by kernel_rfl))
          clear hB
          refine wpOp_step rfl (fun KK hK2 => ?_)
          go_simp
          exact hK2 (A.put (some 17) (.slice (some ⟨W.heap.size, 0, none⟩) 1 1)) _ ⟨W.heap.size, hFR.put (by decide) _, o0.past (by decide) (fun h => (put_ne (by decide)).trans h), o1.past (by decide) (fun h => (put_ne (by decide)).trans h), o2.past (by decide) (fun h => (put_ne (by decide)).trans h), o3.past (by decide) (fun h => (put_ne (by decide)).trans h), o4.past (by decide) (fun h => (put_ne (by decide)).trans h), o5.past (by decide) (fun h => (put_ne (by decide)).trans h), o6.past (by decide) (fun h => (put_ne (by decide)).trans h), .now (put_eq (by have hz := hsz.out; omega)), o8.past (by decide) (fun h => (put_ne (by decide)).trans h), o9.past (by decide) (fun h => (put_ne (by decide)).trans h), o10.past (by decide) (fun h => (put_ne (by decide)).trans h), (fun _ => Blk.new _ _ _), (kept_new hK _)⟩
        · have e7 := o7 (ready_dep hm 7 (by kernel_rfl))
          have hc := byteStr W g (n % 10) (by omega) (by have q := hB (ready_dep hm 7 (by kernel_rfl)); rwa [show (n : Int) % 10 = ((n % 10 : Nat) : Int) from by omega] at q)
          refine wpOp_step rfl (fun KK hK2 => ?_)
          go_simp
          exact hK2 (A.put (some 18) (str [dig (n % 10)])) _ ⟨g, hFR.put (by decide) _, o0.past (by decide) (fun h => (put_ne (by decide)).trans h), o1.past (by decide) (fun h => (put_ne (by decide)).trans h), o2.past (by decide) (fun h => (put_ne (by decide)).trans h), o3.past (by decide) (fun h => (put_ne (by decide)).trans h), o4.past (by decide) (fun h => (put_ne (by decide)).trans h), o5.past (by decide) (fun h => (put_ne (by decide)).trans h), o6.past (by decide) (fun h => (put_ne (by decide)).trans h), o7.past (by decide) (fun h => (put_ne (by decide)).trans h), .now (put_eq (by have hz := hsz.out; omega)), o9.past (by decide) (fun h => (put_ne (by decide)).trans h), o10.past (by decide) (fun h => (put_ne (by decide)).trans h), (fun e => hB (by rwa [getD_set_ne (by decide)] at e)), hK⟩
        · have e2 := o2 (ready_dep hm 2 (by kernel_rfl))
          have e8 := o8 (ready_dep hm 8 (by kernel_rfl))
          have hc := addStr W (Pl.num (n / 10)) [dig (n % 10)] (by simp; omega)
          rw [← Pl.num_ge h10] at hc
          unfold str at e2 e8 hc
          refine wpOp_step rfl (fun KK hK2 => ?_)
          go_simp
          exact hK2 (A.put (some 19) (str (Pl.num n))) _ ⟨g, hFR.put (by decide) _, o0.past (by decide) (fun h => (put_ne (by decide)).trans h), o1.past (by decide) (fun h => (put_ne (by decide)).trans h), o2.past (by decide) (fun h => (put_ne (by decide)).trans h), o3.past (by decide) (fun h => (put_ne (by decide)).trans h), o4.past (by decide) (fun h => (put_ne (by decide)).trans h), o5.past (by decide) (fun h => (put_ne (by decide)).trans h), o6.past (by decide) (fun h => (put_ne (by decide)).trans h), o7.past (by decide) (fun h => (put_ne (by decide)).trans h), o8.past (by decide) (fun h => (put_ne (by decide)).trans h), .now (put_eq (by have hz := hsz.out; omega)), o10.past (by decide) (fun h => (put_ne (by decide)).trans h), (fun e => hB (by rwa [getD_set_ne (by decide)] at e)), hK⟩
        · have e9 := o9 (ready_dep hm 9 (by kernel_rfl))
          refine wpOp_step rfl (fun KK hK2 => ?_)
          go_simp
          exact hK2 (A.put (some 2) (str (Pl.num n))) _ ⟨g, hFR.put (by decide) _, o0.past (by decide) (fun h => (put_ne (by decide)).trans h), o1.past (by decide) (fun h => (put_ne (by decide)).trans h), o2.past (by decide) (fun h => (put_ne (by decide)).trans h), o3.past (by decide) (fun h => (put_ne (by decide)).trans h), o4.past (by decide) (fun h => (put_ne (by decide)).trans h), o5.past (by decide) (fun h => (put_ne (by decide)).trans h), o6.past (by decide) (fun h => (put_ne (by decide)).trans h), o7.past (by decide) (fun h => (put_ne (by decide)).trans h), o8.past (by decide) (fun h => (put_ne (by decide)).trans h), o9.past (by decide) (fun h => (put_ne (by decide)).trans h), .now (put_eq (by have hz := hsz.out; omega)), (fun e => hB (by rwa [getD_set_ne (by decide)] at e)), hK⟩
        · simp at hi1
          omega
end Go.Proofs.YtlbnllhabdnjjaaDoor
