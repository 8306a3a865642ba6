/- What the program's GoodStore answers; what the laws' functions on stores do; what NewStore answers. What AllFresh answers, on both sides. The law on GoodStore: of whatever store, its Go function returns true, and no block that was there has turned. The law on AllFresh: of whatever bus and store, its Go function returns true, and no block that was there has turned. A bus that came in to a law, opened: two lists that lie in memory, the accesses spoken of as the row of their numbers. Buses and stores that came in to a law: opened out of a law's argument. -/
import Derived.Test.YtflnodadeajmcaaGreatAF11
import Derived.Test.YtflnodadeajmcaaGreatAF12
import Derived.Test.YtflnodadeajmcaaGreatAF2
import Derived.Deep.RegionHeld3
import Derived.Lib.SmallJoins
import Derived.Deep.Slices
import Derived.ProofKit
import Derived.Test.YtflnodadeajmcaaGreatAF1
import Derived.OpenShut
namespace Go.Proofs.YtflnodadeajmcaaGreat
open Go.RowKit
set_option linter.unusedVariables false
theorem Once.n {l : Array Bool} {i j : Nat} {p : Prop} (h : Once l j p) (h1 : j ≠ i := by decide) : Once (l.setIfInBounds i true) j p := h.past h1 id
theorem Pl.goodS_areU {r c : Int} {us : List Pl.Ck} (r1 : 1 ≤ r) (r8 : r ≤ 8) (c0 : 0 ≤ c) (c1 : c ≤ 1000000) (lr : (us.length : Int) ≤ r) : Pl.goodS r c us = Pl.areU c us := by
  obtain ⟨fl, ul⟩ : (Pl.froms us us.length).length = us.length ∧ (Pl.uses us us.length).length = us.length := ⟨Pl.froms_len _ _, Pl.uses_len _ _⟩
  by_cases h : (∀ k, k < us.length → Pl.goodC c (Pl.ck us k) = true) ∧ Pl.Rises (Pl.froms us us.length) ∧ (Pl.uses us us.length).Nodup
  · rw [Pl.areU_yes h]
    refine Pl.goodS_yes ⟨r1, r8, c0, c1, lr, fun k hk => ⟨h.1 k hk, fun h0 => ?_, fun j hj => ?_⟩⟩
    · have := h.2.1 (k - 1) (by omega)
      rw [show k - 1 + 1 = k from by omega, Pl.froms_el us (by omega), Pl.froms_el us hk] at this
      exact this
    · have := Pl.nodup_el.1 h.2.2 k (by omega) j hj
      rw [Pl.uses_el us (show j < us.length by omega), Pl.uses_el us hk] at this
      exact this
  · rw [Pl.areU_no h]
    refine Pl.goodS_no fun g => h ⟨fun k hk => (g.ok k hk).1, fun i hi => ?_, Pl.nodup_el.2 fun k hk j hj => ?_⟩
    · rw [fl] at hi
      rw [Pl.froms_el us (by omega), Pl.froms_el us hi]
      exact (g.ok (i + 1) hi).2.1 (by omega)
    · rw [ul] at hk
      rw [Pl.uses_el us (by omega), Pl.uses_el us hk]
      exact (g.ok k hk).2.2 j hj
theorem implAreUnitsN (w : World) (c : Int) (a : Option Addr) (ca n : Nat) (us : List Pl.Ck) (hn : n = us.length) (ha : CRow w a us) (hok : ∀ k, k < us.length → Pl.CkOk (Pl.ck us k)) (bx : n ≤ 2000000) (bn : ∀ k, k < us.length → (Pl.ck us k).n ≤ 2000000) :
    Calls Tryz.prog 66 #[.slice a n ca, iv c] w fun e w' => e = .returned (.bool (Pl.areU c us)) ∧ Kept 0 0 w w' := by
  subst hn; exact implAreUnits w c a ca us ha hok bx bn
set_option maxRecDepth 100000 in
set_option maxHeartbeats 8000000 in
theorem implGoodStore (w : World) (r c : Int) (a : Option Addr) (ca : Nat) (us : List Pl.Ck) (ha : CRow w a us) (hok : ∀ k, k < us.length → Pl.CkOk (Pl.ck us k)) (bx : us.length ≤ 2000000) (bn : ∀ k, k < us.length → (Pl.ck us k).n ≤ 2000000) :
    Calls Tryz.prog 34 #[.agg #[iv r, iv c, .slice a us.length ca]] w fun e w' => e = .returned (.bool (Pl.goodS r c us)) ∧ Kept 0 0 w w' := by
  obtain ⟨n, hn⟩ : ∃ n, n = us.length := ⟨_, rfl⟩
  have K0 := hide (kept_alloc w (.cells #[iv r, iv c, .slice a n ca] 39))
  have B0 := hide (Blk.new w #[iv r, iv c, .slice a n ca] 39)
  have HA := hide ha
  have HN := hide hn
  rw [← hn] at bx ⊢
  clear ha hn
  cases h1 : (decide ((1 : Int) ≤ r) && decide (r ≤ 8))
  · have E : Hid (Pl.goodS r c us = false) := hide (Pl.goodS_no fun h => by have := h.r1; have := h.r8; simp at h1; omega)
    go_enter Tryz.func34, Tryz.ntmps34
    go_wp2_with (first | (go_at_call 65; refine st (implRoom _ _) ?_; rw [h1]))
    go_ret
    exact ⟨rB E.out.symm, K0.out⟩
  · cases h2 : decide ((0 : Int) ≤ c)
    · have E : Hid (Pl.goodS r c us = false) := hide (Pl.goodS_no fun h => by have := h.c0; simp at h2; omega)
      go_enter Tryz.func34, Tryz.ntmps34
      go_wp2_with (first | (go_at_call 65; refine st (implRoom _ _) ?_; rw [h1]))
      go_ret
      exact ⟨rB E.out.symm, K0.out⟩
    · cases h3 : decide (c ≤ (1000000 : Int))
      · have E : Hid (Pl.goodS r c us = false) := hide (Pl.goodS_no fun h => by have := h.c1; simp at h3; omega)
        go_enter Tryz.func34, Tryz.ntmps34
        go_wp2_with (first | (go_at_call 65; refine st (implRoom _ _) ?_; rw [h1]))
        go_ret
        exact ⟨rB E.out.symm, K0.out⟩
      · cases h4 : decide ((n : Int) ≤ r)
        · have E : Hid (Pl.goodS r c us = false) := hide (Pl.goodS_no fun h => by have := h.lr; have := HN.out; simp at h4; omega)
          go_enter Tryz.func34, Tryz.ntmps34
          go_wp2_with (first | (go_at_call 65; refine st (implRoom _ _) ?_; rw [h1]))
          go_ret
          exact ⟨rB E.out.symm, K0.out⟩
        · obtain ⟨V, hV⟩ : ∃ V, V = Pl.areU c us := ⟨_, rfl⟩
          have E : Hid (Pl.goodS r c us = V) := hide (by
            rw [hV]
            have hn := HN.out
            simp at h1 h2 h3 h4
            exact Pl.goodS_areU (by omega) (by omega) (by omega) (by omega) (by omega))
          have HV := hide hV
          clear hV
          go_enter Tryz.func34, Tryz.ntmps34
          go_wp2_with (first | (go_at_call 65; refine st (implRoom _ _) ?_; rw [h1]) | (go_at_call 66; refine (implAreUnitsN _ c a ca n us HN.out (HA.out.keptS K0.out) hok bx bn).mono ?_; rw [← HV.out]; rintro e9 w2 ⟨rfl, k2⟩; have K2 := hide (K0.out.trans k2); clear k2))
          go_ret
          exact ⟨rB E.out.symm, K2.out⟩
theorem implGoodStoreN (w : World) (r c : Int) (a : Option Addr) (ca n : Nat) (us : List Pl.Ck) (hn : n = us.length) (ha : CRow w a us) (hok : ∀ k, k < us.length → Pl.CkOk (Pl.ck us k)) (bx : n ≤ 2000000) (bn : ∀ k, k < us.length → (Pl.ck us k).n ≤ 2000000) :
    Calls Tryz.prog 34 #[.agg #[iv r, iv c, .slice a n ca]] w fun e w' => e = .returned (.bool (Pl.goodS r c us)) ∧ Kept 0 0 w w' := by
  subst hn; exact implGoodStore w r c a ca us ha hok bx bn
theorem specGoodStoreN (w : World) (r c : Int) (a : Option Addr) (ca n : Nat) (us : List Pl.Ck) (hn : n = us.length) (ha : CRow w a us) (hok : ∀ k, k < us.length → Pl.CkOk (Pl.ck us k)) (bx : n ≤ 2000000) (hca : n ≤ ca) (bn : ∀ k, k < us.length → (Pl.ck us k).n ≤ 2000000) :
    Calls Tryz.prog 28 #[.agg #[iv r, iv c, .slice a n ca]] w fun e w' => e = .returned (.bool (Pl.goodS r c us)) ∧ Kept 0 0 w w' := by
  subst hn; exact specGoodStore w r c a ca us ha hok bx hca bn
set_option maxHeartbeats 2000000 in
theorem szCachedS (w : World) (a : Option Addr) (ca : Nat) (us : List Pl.Ck) (left : Int) (ha : CRow w a us) (hok : ∀ k, k < us.length → Pl.CkOk (Pl.ck us k)) (hn : us.length ≤ 9223372036854775807) (l0 : 0 ≤ left) (l1 : left ≤ 2000000) :
    Calls Tryz.prog 26 #[.slice a us.length ca, .int .i64 left] w fun e w' => ∃ L : Int, e = .returned (.int .i64 L) ∧ SzOk us left L ∧ Kept 0 0 w w' := by
  obtain ⟨n, hn9⟩ : ∃ n, n = us.length := ⟨_, rfl⟩
  have HA := hide ha
  have HN := hide hn9
  have HO := hide hok
  rw [← hn9] at hn ⊢
  clear ha hn9 hok
  by_cases hb : left - (n : Int) < 0
  · have ew : IntKind.i64.wrap (left - (n : Int)) = left - (n : Int) := by rw [IntKind.wrap_i64]; omega
    go_enter Tryz.func26, Tryz.ntmps26
    go_wp2_with fail
    go_ret
    exact ⟨-1, rfl, .inl (by decide), Kept.refl _ _ _⟩
  · go_enter Tryz.func26, Tryz.ntmps26
    go_wp2_with fail
    go_loopw [1, 5] (fun v j wr => ∃ (k : Nat) (L : Int), k ≤ n ∧ j = .int .i64 k ∧ v = .int .i64 L ∧ 0 ≤ L ∧ L ≤ left ∧ (∀ i, i < k → ((Pl.ck us i).n : Int) ≤ left) ∧ Kept 0 0 w wr) (fun _ j _ => n - (intOf j).toNat)
    case atStart => exact ⟨0, left - (n : Int), Nat.zero_le _, rfl, rfl, by omega, by omega, fun i hi => absurd hi (Nat.not_lt_zero i), Kept.refl _ _ _⟩
    case round =>
      obtain ⟨k, L, hk, rfl, rfl, q0, q1, hall, hg⟩ := hrel
      have HG := hide hg
      have HL := hide hall
      clear hall
      by_cases hlt : k < n
      · have hlu : k < us.length := by rw [← HN.out]; exact hlt
        obtain ⟨g1, o1, b1, cb1, rfl, p0, p1, p2, p3, pm⟩ := (HA.out.keptS hg).at4 hlu
        have ok1 := HO.out k hlu
        clear hg pm
        by_cases hb2 : L - ((Pl.ck us k).n : Int) < 0
        · have e0 : (if L - ((Pl.ck us k).n : Int) < 0 then (-1 : Int) else L - ((Pl.ck us k).n : Int)) = -1 := if_pos hb2
          go_wp2_with (first | (go_at_call 56; refine (szCached _ (Pl.ck us k) b1 cb1 L ok1.ln q0 (by omega)).mono ?_; rw [e0]; rintro e9 w2 ⟨rfl, k2⟩; have K2 := hide (HG.out.trans k2); clear k2))
          go_ret
          exact ⟨-1, rfl, .inl (by decide), K2.out⟩
        · obtain ⟨M, hM⟩ : ∃ M : Int, M = L - ((Pl.ck us k).n : Int) := ⟨_, rfl⟩
          have e0 : (if L - ((Pl.ck us k).n : Int) < 0 then (-1 : Int) else L - ((Pl.ck us k).n : Int)) = M := (if_neg hb2).trans hM.symm
          have hM0 : ¬ M < 0 := by omega
          have HM := hide hM
          clear hM
          go_wp2_with (first | (go_at_call 56; refine (szCached _ (Pl.ck us k) b1 cb1 L ok1.ln q0 (by omega)).mono ?_; rw [e0]; rintro e9 w2 ⟨rfl, k2⟩; have K2 := hide (HG.out.trans k2); clear k2))
          go_roundw
          case rel => exact ⟨k + 1, M, by omega, by go_num, rfl, by omega, by have := HM.out; omega, snoc_all HL.out (by omega), K2.out⟩
          case measure => simp [intOf]; omega
      · go_wp2_with fail
        go_ret
        exact ⟨L, rfl, .inr ⟨q0, q1, by have := HN.out; omega, fun i hi => HL.out i (by have := HN.out; omega)⟩, HG.out⟩
end Go.Proofs.YtflnodadeajmcaaGreat

namespace Go.Proofs.YtflnodadeajmcaaGreat
open Go.RowKit
set_option linter.unusedVariables false
set_option linter.unusedSimpArgs false
/-- whether all of a store is there, and whether that may be asked -/
noncomputable def Pl.afOk (xs zs : List Int) (m : Nat) (r c : Int) (us : List Pl.Ck) : Bool := Pl.goodBus xs zs m && Pl.goodS r c us
noncomputable def Pl.afV (xs zs : List Int) (m : Nat) (r c : Int) (us : List Pl.Ck) : Bool := Pl.afOk xs zs m r c us && Pl.allFr xs us
theorem Pl.goodS_GU {r c : Int} {us : List Pl.Ck} (h : Pl.goodS r c us = true) : ∀ k, k < us.length → Pl.GU (Pl.ck us k).f (Pl.ck us k).t (Pl.ck us k).n (Pl.ck us k).ys (Pl.ck us k).ts (Pl.ck us k).sk := by
  intro k hk
  have h1 := ((Pl.goodS_of h).ok k hk).1
  unfold Pl.goodC at h1
  refine Pl.goodU_out ?_
  cases e : Pl.goodU (Pl.ck us k).f (Pl.ck us k).t (Pl.ck us k).n (Pl.ck us k).ys (Pl.ck us k).ts (Pl.ck us k).sk
  · rw [e] at h1; cases h1
  · rfl
theorem Pl.GS.lt {r c : Int} {us : List Pl.Ck} (h : Pl.GS r c us) {i j : Nat} (hij : i < j) (hj : j < us.length) : (Pl.ck us i).f < (Pl.ck us j).f := by
  induction j with
  | zero => omega
  | succ j ih =>
    have h1 := (h.ok (j + 1) hj).2.1 (by omega)
    simp only [Nat.add_sub_cancel] at h1
    rcases Nat.lt_or_ge i j with q | q
    · have := ih q (by omega); omega
    · obtain rfl : i = j := by omega
      exact h1
theorem Pl.goodS_ne {r c : Int} {us : List Pl.Ck} (h : Pl.goodS r c us = true) : ∀ i k, i < k → k < us.length → (Pl.ck us i).f ≠ (Pl.ck us k).f := fun i k h1 h2 => by
  have := (Pl.goodS_of h).lt h1 h2; omega
set_option maxRecDepth 100000 in
set_option maxHeartbeats 8000000 in
theorem specXAll (w : World) (d e : Option Addr) (cd ce m : Nat) (xs zs : List Int) (r c : Int) (a : Option Addr) (ca n : Nat) (us : List Pl.Ck) (hd : IRow w d xs) (he : IRow w e zs) (bx2 : xs.length ≤ 2000000) (lz : zs.length = 5 * m) (bm : m ≤ 2000000) (hn : n = us.length) (ha : CRow w a us)
    (hok : ∀ k, k < us.length → Pl.CkOk (Pl.ck us k)) (hca : n ≤ ca) (bx : n ≤ 2000000) (bn : ∀ k, k < us.length → (Pl.ck us k).n ≤ 2000000) :
    Calls Tryz.prog 8 #[.agg #[.slice d xs.length cd, .slice e m ce], .agg #[iv r, iv c, .slice a n ca]] w fun e' w' => e' = .returned (.tuple #[.bool (Pl.afV xs zs m r c us), .bool (Pl.afOk xs zs m r c us)]) ∧ Kept 0 0 w w' := by
  have K0 := hide (kept_new (kept_alloc w (.cells #[.slice d xs.length cd, .slice e m ce] 35)) (.cells #[iv r, iv c, .slice a n ca] 39))
  have B0 := hide ((Blk.new w #[.slice d xs.length cd, .slice e m ce] 35).alloc (.cells #[iv r, iv c, .slice a n ca] 39))
  have U0 := Blk.new (w.alloc (.cells #[.slice d xs.length cd, .slice e m ce] 35)) #[iv r, iv c, .slice a n ca] 39
  simp only [World.size_alloc] at U0
  replace U0 := hide U0
  have HA := hide hd
  have HZ := hide he
  have HC := hide ha
  have HM := hide lz
  have HN := hide hn
  have HO := hide hok
  have BN := hide bn
  clear hd he ha lz hn hok bn
  cases h1 : Pl.goodBus xs zs m
  · have E : Hid (Pl.afOk xs zs m r c us = false ∧ Pl.afV xs zs m r c us = false) := hide (by unfold Pl.afV Pl.afOk; rw [h1]; exact ⟨rfl, rfl⟩)
    go_enter Tryz.func8, Tryz.ntmps8
    go_wp2_with (first | (go_at_call 27; refine (specGoodBus _ d e cd ce m xs zs (HA.out.keptS K0.out) (HZ.out.keptS K0.out) bx2 HM.out bm).mono ?_; rw [h1]; rintro e9 w2 ⟨rfl, k2⟩; have K2 := hide (K0.out.trans k2); have B2 := hide (B0.out.kept0 k2); have U2 := hide (U0.out.kept0 k2); have pb := B2.out.all; have pu := U2.out.all; clear k2))
    go_ret2
    exact ⟨by rw [E.out.1, E.out.2]; rfl, K2.out⟩
  · cases h2 : Pl.goodS r c us
    · have E : Hid (Pl.afOk xs zs m r c us = false ∧ Pl.afV xs zs m r c us = false) := hide (by unfold Pl.afV Pl.afOk; rw [h1, h2]; exact ⟨rfl, rfl⟩)
      go_enter Tryz.func8, Tryz.ntmps8
      go_wp2_with (first | (go_at_call 27; refine (specGoodBus _ d e cd ce m xs zs (HA.out.keptS K0.out) (HZ.out.keptS K0.out) bx2 HM.out bm).mono ?_; rw [h1]; rintro e9 w2 ⟨rfl, k2⟩; have K2 := hide (K0.out.trans k2); have B2 := hide (B0.out.kept0 k2); have U2 := hide (U0.out.kept0 k2); have pb := B2.out.all; have pu := U2.out.all; clear k2) | (go_at_call 28; refine (specGoodStoreN _ r c a ca n us HN.out (HC.out.keptS K2.out) HO.out bx hca BN.out).mono ?_; rw [h2]; rintro e9 w3 ⟨rfl, k3⟩; have K3 := hide (K2.out.trans k3); have B3 := hide (B2.out.kept0 k3); have U3 := hide (U2.out.kept0 k3); clear pb pu; have pb := B3.out.all; have pu := U3.out.all; clear k3))
      go_ret2
      exact ⟨by rw [E.out.1, E.out.2]; rfl, K3.out⟩
    · obtain ⟨l5, hby, _, _⟩ := Pl.goodBus_ok h1
      have L5 := hide l5
      clear l5
      have HG := hide (Pl.goodS_GU h2)
      obtain ⟨V, hV⟩ : ∃ V, V = Pl.allFr xs us := ⟨_, rfl⟩
      have E : Hid (Pl.afOk xs zs m r c us = true ∧ Pl.afV xs zs m r c us = V) := hide (by unfold Pl.afV Pl.afOk; rw [h1, h2, hV]; exact ⟨rfl, rfl⟩)
      have HV := hide hV
      have hle := Pl.frL_le xs us n
      obtain ⟨L, hL⟩ : ∃ L, L = (Pl.frL xs us n).length := ⟨_, rfl⟩
      rw [← hL] at hle
      have HL := hide hL
      have hz : (((n : Int) - (L : Int)) == 0) = V := by
        have h3 := Pl.frL_all (xs := xs) (us := us) (k := n)
        rw [← hL] at h3
        by_cases q : L = n
        · rw [hV, Pl.allFr_yes (fun k hk => h3.1 q k (by rw [HN.out]; exact hk))]
          simp; omega
        · rw [hV, Pl.allFr_no (fun h => q (h3.2 (fun i hi => h i (by rw [← HN.out]; exact hi))))]
          simp; omega
      clear hV hL
      go_enter Tryz.func8, Tryz.ntmps8
      go_wp2_with (first | (go_at_call 27; refine (specGoodBus _ d e cd ce m xs zs (HA.out.keptS K0.out) (HZ.out.keptS K0.out) bx2 HM.out bm).mono ?_; rw [h1]; rintro e9 w2 ⟨rfl, k2⟩; have K2 := hide (K0.out.trans k2); have B2 := hide (B0.out.kept0 k2); have U2 := hide (U0.out.kept0 k2); have pb := B2.out.all; have pu := U2.out.all; clear k2) | (go_at_call 28; refine (specGoodStoreN _ r c a ca n us HN.out (HC.out.keptS K2.out) HO.out bx hca BN.out).mono ?_; rw [h2]; rintro e9 w3 ⟨rfl, k3⟩; have K3 := hide (K2.out.trans k3); have B3 := hide (B2.out.kept0 k3); have U3 := hide (U2.out.kept0 k3); clear pb pu; have pb := B3.out.all; have pu := U3.out.all; clear k3) | (go_at_call 29; refine (specStale _ d e cd ce m xs r c a ca n us (HA.out.keptS K3.out) L5.out hby HN.out (HC.out.keptS K3.out) HG.out bx).mono ?_; rw [← HL.out]; rintro e9 w4 ⟨z4, rfl, ⟨b4, cb4, rfl⟩, k4⟩; have K4 := hide (K3.out.trans k4); clear k4))
      go_ret2
      exact ⟨by rw [E.out.1, E.out.2]; rfl, kept_new K4.out _⟩
theorem Tryz.shelfSize : (Tryz.prog.info? 68).map (·.size) = some (#[iv 0, iv 0, .map none] : Array Value).size := by kernel_rfl
theorem ShelfV.keptW {V W W' : World} {b n : Nat} {us : List Pl.Ck} (h : ShelfV V W b us n) (q : Kept 0 0 W W') : ShelfV V W' b us n := by
  obtain ⟨D, h1, h2⟩ := h
  exact ⟨D, h1.kept q.grown (by simp), h2⟩
theorem ShelfV.ne {V W : World} {b n k : Nat} {us : List Pl.Ck} {cs : Array Value} {ty : TypeId} (h : ShelfV V W b us n) (hb : Blk W k cs ty) : b ≠ k := by
  obtain ⟨D, ⟨es, clock, hm, _⟩, _⟩ := h
  intro e
  subst e
  unfold Blk at hb
  rw [hm] at hb
  cases hb
theorem ShelfV.setRow {V W : World} {b n k : Nat} {us : List Pl.Ck} {ds : Array Value} (h : ShelfV V W b us n) (hn : b ≠ k) : ShelfV V (W.setRow k ds) b us n := by
  obtain ⟨D, ⟨es, clock, hm, r⟩, h2⟩ := h
  exact ⟨D, ⟨es, clock, (setRow_other W k b ds hn).trans hm, r⟩, h2⟩
theorem blk_ne {W : World} {a b : Nat} {cs ds : Array Value} {s t : TypeId} (h : Blk W a cs s) (k : Blk W b ds t) (hn : s ≠ t) : a ≠ b := by
  intro e
  subst e
  unfold Blk at h k
  rw [h] at k
  injection k with k
  injection k with _ k
  exact hn k
/-- the world within the statement that makes a shelf and a memory: operation 1 makes the map, 4 and 5 the two blocks, 6 and 7 store -/
structure Af (V w : World) (us : List Pl.Ck) (n : Nat) (r c : Int) (xs : List Int) (l : Array Bool) (W : World) (bm kb mb : Nat) : Prop where
  kv : Kept 0 0 V W
  s1 : l.getD 1 true = true → ShelfV V W bm us n ∧ V.heap.size ≤ bm
  c4 : l.getD 4 true = true → V.heap.size ≤ kb ∧ Blk W kb (if l.getD 6 true = true then #[iv r, iv c, .map (some bm)] else #[iv 0, iv 0, .map none]) 68
  c5 : l.getD 5 true = true → V.heap.size ≤ mb ∧ Blk W mb (if l.getD 7 true = true then cellsOf xs else cellsOf zeros) 71
  k6 : l.getD 6 true = true → l.getD 1 true = true ∧ l.getD 4 true = true
  k7 : l.getD 7 true = true → l.getD 5 true = true
section
variable {V w W : World} {us : List Pl.Ck} {n : Nat} {r c : Int} {xs : List Int} {l : Array Bool} {bm kb mb : Nat}
theorem Af.other (h : Af V w us n r c xs l W bm kb mb) {i : Nat} (hi : i ≠ 1 ∧ i ≠ 4 ∧ i ≠ 5 ∧ i ≠ 6 ∧ i ≠ 7) : Af V w us n r c xs (l.setIfInBounds i true) W bm kb mb := by
  obtain ⟨q1, q4, q5, q6, q7⟩ := hi
  have e1 := getD_set_ne (l := l) (Ne.symm q1)
  have e4 := getD_set_ne (l := l) (Ne.symm q4)
  have e5 := getD_set_ne (l := l) (Ne.symm q5)
  have e6 := getD_set_ne (l := l) (Ne.symm q6)
  have e7 := getD_set_ne (l := l) (Ne.symm q7)
  exact ⟨h.kv, by rw [e1]; exact h.s1, by rw [e4, e6]; exact h.c4, by rw [e5, e7]; exact h.c5, by rw [e6, e1, e4]; exact h.k6, by rw [e7, e5]; exact h.k7⟩
theorem Af.world (h : Af V w us n r c xs l W bm kb mb) {W' : World} (k : Kept 0 0 W W') : Af V w us n r c xs l W' bm kb mb :=
  ⟨h.kv.trans k, fun q => ⟨(h.s1 q).1.keptW k, (h.s1 q).2⟩, fun q => ⟨(h.c4 q).1, (h.c4 q).2.kept0 k⟩, fun q => ⟨(h.c5 q).1, (h.c5 q).2.kept0 k⟩, h.k6, h.k7⟩
theorem Af.op3 (h : Af V w us n r c xs l W bm kb mb) {W' : World} (k : Kept 0 0 W W') : Af V w us n r c xs (l.setIfInBounds 3 true) W' bm kb mb := (h.world k).other (by decide)
theorem Af.op1 (h : Af V w us n r c xs l W bm kb mb) (h1 : l.getD 1 true = false) {W' : World} {bm' : Nat} (hs : ShelfV V W' bm' us n) (hb : W.heap.size ≤ bm') (k : Kept 0 0 W W') : Af V w us n r c xs (l.setIfInBounds 1 true) W' bm' kb mb := by
  have e4 := getD_set_ne (l := l) (show (4 : Nat) ≠ 1 by decide)
  have e5 := getD_set_ne (l := l) (show (5 : Nat) ≠ 1 by decide)
  have e6 := getD_set_ne (l := l) (show (6 : Nat) ≠ 1 by decide)
  have e7 := getD_set_ne (l := l) (show (7 : Nat) ≠ 1 by decide)
  have n6 : ¬ l.getD 6 true = true := fun q => by have := (h.k6 q).1; rw [h1] at this; cases this
  refine ⟨h.kv.trans k, fun _ => ⟨hs, Nat.le_trans h.kv.size hb⟩, ?_, ?_, ?_, ?_⟩
  · rw [e4, e6, if_neg n6]
    intro q
    have := h.c4 q
    rw [if_neg n6] at this
    exact ⟨this.1, this.2.kept0 k⟩
  · rw [e5, e7]; exact fun q => ⟨(h.c5 q).1, (h.c5 q).2.kept0 k⟩
  · rw [e6]; exact fun q => absurd q n6
  · rw [e7, e5]; exact h.k7
theorem Af.op4 (h : Af V w us n r c xs l W bm kb mb) (h4 : l.getD 4 true = false) : Af V w us n r c xs (l.setIfInBounds 4 true) (W.alloc (.cells #[iv 0, iv 0, .map none] 68)) bm W.heap.size mb := by
  have e1 := getD_set_ne (l := l) (show (1 : Nat) ≠ 4 by decide)
  have e5 := getD_set_ne (l := l) (show (5 : Nat) ≠ 4 by decide)
  have e6 := getD_set_ne (l := l) (show (6 : Nat) ≠ 4 by decide)
  have e7 := getD_set_ne (l := l) (show (7 : Nat) ≠ 4 by decide)
  have n6 : ¬ l.getD 6 true = true := fun q => by have := (h.k6 q).2; rw [h4] at this; cases this
  have k := kept_alloc W (.cells #[iv 0, iv 0, .map none] 68)
  refine ⟨h.kv.trans k, ?_, ?_, ?_, ?_, ?_⟩
  · rw [e1]; exact fun q => ⟨(h.s1 q).1.keptW k, (h.s1 q).2⟩
  · rw [e6, if_neg n6]; exact fun _ => ⟨h.kv.size, Blk.new W _ _⟩
  · rw [e5, e7]; exact fun q => ⟨(h.c5 q).1, (h.c5 q).2.kept0 k⟩
  · rw [e6]; exact fun q => absurd q n6
  · rw [e7, e5]; exact h.k7
theorem Af.op5 (h : Af V w us n r c xs l W bm kb mb) (h5 : l.getD 5 true = false) : Af V w us n r c xs (l.setIfInBounds 5 true) (W.alloc (.cells (cellsOf zeros) 71)) bm kb W.heap.size := by
  have e1 := getD_set_ne (l := l) (show (1 : Nat) ≠ 5 by decide)
  have e4 := getD_set_ne (l := l) (show (4 : Nat) ≠ 5 by decide)
  have e6 := getD_set_ne (l := l) (show (6 : Nat) ≠ 5 by decide)
  have e7 := getD_set_ne (l := l) (show (7 : Nat) ≠ 5 by decide)
  have n7 : ¬ l.getD 7 true = true := fun q => by have := h.k7 q; rw [h5] at this; cases this
  have k := kept_alloc W (.cells (cellsOf zeros) 71)
  refine ⟨h.kv.trans k, ?_, ?_, ?_, ?_, ?_⟩
  · rw [e1]; exact fun q => ⟨(h.s1 q).1.keptW k, (h.s1 q).2⟩
  · rw [e4, e6]; exact fun q => ⟨(h.c4 q).1, (h.c4 q).2.kept0 k⟩
  · rw [e7, if_neg n7]; exact fun _ => ⟨h.kv.size, Blk.new W _ _⟩
  · rw [e6, e1, e4]; exact h.k6
  · rw [e7]; exact fun q => absurd q n7
theorem Af.op6 (h : Af V w us n r c xs l W bm kb mb) (h1 : l.getD 1 true = true) (h4 : l.getD 4 true = true) (h6 : l.getD 6 true = false) : Af V w us n r c xs (l.setIfInBounds 6 true) (W.setRow kb #[iv r, iv c, .map (some bm)]) bm kb mb := by
  have e1 := getD_set_ne (l := l) (show (1 : Nat) ≠ 6 by decide)
  have e4 := getD_set_ne (l := l) (show (4 : Nat) ≠ 6 by decide)
  have e5 := getD_set_ne (l := l) (show (5 : Nat) ≠ 6 by decide)
  have e6 := getD_set_eq (l := l) (i := 6)
  have e7 := getD_set_ne (l := l) (show (7 : Nat) ≠ 6 by decide)
  obtain ⟨g4, b4⟩ := h.c4 h4
  refine ⟨kept_setRow h.kv kb _ g4, ?_, ?_, ?_, ?_, ?_⟩
  · rw [e1]; exact fun q => ⟨(h.s1 q).1.setRow ((h.s1 q).1.ne b4), (h.s1 q).2⟩
  · rw [e6, if_pos rfl]; exact fun _ => ⟨g4, b4.setRow⟩
  · rw [e5, e7]; exact fun q => ⟨(h.c5 q).1, (h.c5 q).2.setRowOther (fun e => blk_ne b4 (h.c5 q).2 (by decide) e.symm)⟩
  · rw [e1, e4]; exact fun _ => ⟨h1, h4⟩
  · rw [e7, e5]; exact h.k7
theorem Af.op7 (h : Af V w us n r c xs l W bm kb mb) (h5 : l.getD 5 true = true) (h7 : l.getD 7 true = false) : Af V w us n r c xs (l.setIfInBounds 7 true) (W.setRow mb (cellsOf xs)) bm kb mb := by
  have e1 := getD_set_ne (l := l) (show (1 : Nat) ≠ 7 by decide)
  have e4 := getD_set_ne (l := l) (show (4 : Nat) ≠ 7 by decide)
  have e5 := getD_set_ne (l := l) (show (5 : Nat) ≠ 7 by decide)
  have e6 := getD_set_ne (l := l) (show (6 : Nat) ≠ 7 by decide)
  have e7 := getD_set_eq (l := l) (i := 7)
  obtain ⟨g5, b5⟩ := h.c5 h5
  refine ⟨kept_setRow h.kv mb _ g5, ?_, ?_, ?_, ?_, ?_⟩
  · rw [e1]; exact fun q => ⟨(h.s1 q).1.setRow ((h.s1 q).1.ne b5), (h.s1 q).2⟩
  · rw [e4, e6]; exact fun q => ⟨(h.c4 q).1, (h.c4 q).2.setRowOther (blk_ne (h.c4 q).2 b5 (by decide))⟩
  · rw [e7, if_pos rfl]; exact fun _ => ⟨g5, b5.setRow⟩
  · rw [e6, e1, e4]; exact h.k6
  · rw [e5]; exact fun _ => h5
end
set_option maxRecDepth 100000 in
set_option maxHeartbeats 8000000 in
theorem implXAll (w : World) (d e : Option Addr) (cd ce m : Nat) (xs zs : List Int) (r c : Int) (a : Option Addr) (ca n : Nat) (us : List Pl.Ck) (hd : Came w d xs) (he : Came w e zs) (bx2 : xs.length ≤ 2000000) (lz : zs.length = 5 * m) (bm : m ≤ 2000000) (hn : n = us.length) (ha : CRow w a us)
    (hok : ∀ k, k < us.length → Pl.CkOk (Pl.ck us k)) (bx : n ≤ 2000000) (bn : ∀ k, k < us.length → (Pl.ck us k).n ≤ 2000000) :
    Calls Tryz.prog 11 #[.agg #[.slice d xs.length cd, .slice e m ce], .agg #[iv r, iv c, .slice a n ca]] w fun e' w' => e' = .returned (.tuple #[.bool (Pl.afV xs zs m r c us), .bool (Pl.afOk xs zs m r c us)]) ∧ Kept 0 0 w w' := by
  have K0 := hide (kept_new (kept_alloc w (.cells #[.slice d xs.length cd, .slice e m ce] 35)) (.cells #[iv r, iv c, .slice a n ca] 39))
  have B0 := hide ((Blk.new w #[.slice d xs.length cd, .slice e m ce] 35).alloc (.cells #[iv r, iv c, .slice a n ca] 39))
  have U0 := Blk.new (w.alloc (.cells #[.slice d xs.length cd, .slice e m ce] 35)) #[iv r, iv c, .slice a n ca] 39
  simp only [World.size_alloc] at U0
  replace U0 := hide U0
  have HA := hide hd
  have HZ := hide he
  have HC := hide ha
  have HM := hide lz
  have HN := hide hn
  have HO := hide hok
  have BN := hide bn
  clear hd he ha lz hn hok bn
  cases h1 : Pl.goodBus xs zs m
  · have E : Hid (Pl.afOk xs zs m r c us = false ∧ Pl.afV xs zs m r c us = false) := hide (by unfold Pl.afV Pl.afOk; rw [h1]; exact ⟨rfl, rfl⟩)
    go_enter Tryz.func11, Tryz.ntmps11
    go_wp2_with (first | (go_at_call 33; refine (goodBus _ d e cd ce m xs zs (HA.out.keptS K0.out) (HZ.out.keptS K0.out) bx2 HM.out bm).mono ?_; rw [h1]; rintro e9 w2 ⟨rfl, k2⟩; have K2 := hide (K0.out.trans k2); have B2 := hide (B0.out.kept0 k2); have U2 := hide (U0.out.kept0 k2); have pb := B2.out.all; have pu := U2.out.all; clear k2))
    go_ret2
    exact ⟨by rw [E.out.1, E.out.2]; rfl, K2.out⟩
  · cases h2 : Pl.goodS r c us
    · have E : Hid (Pl.afOk xs zs m r c us = false ∧ Pl.afV xs zs m r c us = false) := hide (by unfold Pl.afV Pl.afOk; rw [h1, h2]; exact ⟨rfl, rfl⟩)
      go_enter Tryz.func11, Tryz.ntmps11
      go_wp2_with (first | (go_at_call 33; refine (goodBus _ d e cd ce m xs zs (HA.out.keptS K0.out) (HZ.out.keptS K0.out) bx2 HM.out bm).mono ?_; rw [h1]; rintro e9 w2 ⟨rfl, k2⟩; have K2 := hide (K0.out.trans k2); have B2 := hide (B0.out.kept0 k2); have U2 := hide (U0.out.kept0 k2); have pb := B2.out.all; have pu := U2.out.all; clear k2) | (go_at_call 34; refine (implGoodStoreN _ r c a ca n us HN.out (HC.out.keptS K2.out) HO.out bx BN.out).mono ?_; rw [h2]; rintro e9 w3 ⟨rfl, k3⟩; have K3 := hide (K2.out.trans k3); have B3 := hide (B2.out.kept0 k3); have U3 := hide (U2.out.kept0 k3); clear pb pu; have pb := B3.out.all; have pu := U3.out.all; clear k3))
      go_ret2
      exact ⟨by rw [E.out.1, E.out.2]; rfl, K3.out⟩
    · obtain ⟨l5, hby, _, _⟩ := Pl.goodBus_ok h1
      have L5 := hide l5
      clear l5
      have HG := hide (Pl.goodS_GU h2)
      obtain ⟨V, hV⟩ : ∃ V, V = Pl.allFr xs us := ⟨_, rfl⟩
      have E : Hid (Pl.afOk xs zs m r c us = true ∧ Pl.afV xs zs m r c us = V) := hide (by unfold Pl.afV Pl.afOk; rw [h1, h2, hV]; exact ⟨rfl, rfl⟩)
      have HV := hide hV
      clear hV
      have HNE := hide (Pl.goodS_ne h2)
      have mz := Tryz.memZero
      have HZS : Hid ((Tryz.prog.info? 71).map (·.size) = some (cellsOf xs).size) := hide (by rw [cellsOf_size, L5.out]; exact Tryz.memSize)
      have HZ2 : Hid ((cellsOf zeros).size = (cellsOf xs).size) := hide (by rw [cellsOf_size, cellsOf_size, L5.out, zeros_len])
      go_enter Tryz.func11, Tryz.ntmps11
      go_wp2_with (first | (go_at_call 33; refine (goodBus _ d e cd ce m xs zs (HA.out.keptS K0.out) (HZ.out.keptS K0.out) bx2 HM.out bm).mono ?_; rw [h1]; rintro e9 w2 ⟨rfl, k2⟩; have K2 := hide (K0.out.trans k2); have B2 := hide (B0.out.kept0 k2); have U2 := hide (U0.out.kept0 k2); have pb := B2.out.all; have pu := U2.out.all; clear k2) | (go_at_call 34; refine (implGoodStoreN _ r c a ca n us HN.out (HC.out.keptS K2.out) HO.out bx BN.out).mono ?_; rw [h2]; rintro e9 w3 ⟨rfl, k3⟩; have K3 := hide (K2.out.trans k3); have B3 := hide (B2.out.kept0 k3); have U3 := hide (U2.out.kept0 k3); clear pb pu; have pb := B3.out.all; have pu := U3.out.all; clear k3))
      refine wp_region_inv2 (fun A0 l A W => ∃ (bm kb mb : Nat), FR [16, 17, 18, 19, 6, 7] A0 A ∧ Once l 0 (A.tmps[16]? = some (.agg #[iv r, iv c, .slice a n ca])) ∧ Once l 1 (A.tmps[17]? = some (.agg #[iv r, iv c, .map (some bm)])) ∧ Once l 2 (A.tmps[18]? = some (.agg #[.slice d xs.length cd, .slice e m ce])) ∧ Once l 3 (A.tmps[19]? = some (.agg (cellsOf xs))) ∧ Once l 4 (A.tmps[6]? = some (.pointer (some ⟨kb, 0, none⟩))) ∧ Once l 5 (A.tmps[7]? = some (.pointer (some ⟨mb, 0, none⟩))) ∧ Once l 6 (True) ∧ Once l 7 (True) ∧ Af w3 w us n r c xs l W bm kb mb) (by kernel_rfl) (by kernel_rfl) ?start ?fin ?step
      case start => exact ⟨0, 0, 0, FR.refl _ _, once_start (by decide), once_start (by decide), once_start (by decide), once_start (by decide), once_start (by decide), once_start (by decide), once_start (by decide), once_start (by decide), ⟨kept_drew (Kept.refl _ _ _), fun q => absurd q (by decide), fun q => absurd q (by decide), fun q => absurd q (by decide), fun q => absurd q (by decide), fun q => absurd q (by decide)⟩⟩
      case fin =>
        intro l A W h hl
        obtain ⟨bm, kb, mb, hFR, o0, o1, o2, o3, o4, o5, o6, o7, tw⟩ := h
        have g4 := o4 (hl 4 (by decide))
        have g5 := o5 (hl 5 (by decide))
        have TK := hide tw.kv
        have TS := hide (tw.s1 (hl 1 (by decide))).1
        have T4 := (tw.c4 (hl 4 (by decide))).2
        rw [if_pos (hl 6 (by decide))] at T4
        have T5 := (tw.c5 (hl 5 (by decide))).2
        rw [if_pos (hl 7 (by decide))] at T5
        have H4 := hide T4
        have H5 := hide T5
        have hc9 := hFR.chain
        simp only [List.foldl] at hc9
        rw [getD_of g4, getD_of g5] at hc9
        clear hl hFR tw g4 g5 T4 T5 o0 o1 o2 o3 o4 o5 o6 o7
        generalize A.tmps.getD 16 undef = s16 at hc9
        generalize A.tmps.getD 17 undef = s17 at hc9
        generalize A.tmps.getD 18 undef = s18 at hc9
        generalize A.tmps.getD 19 undef = s19 at hc9
        subst hc9
        go_simp
        go_wp2_with (first | (go_at_call 37; refine (implAllFr _ kb mb bm r c n us xs HN.out H4.out H5.out (TS.out.shelf TK.out) L5.out hby HG.out HNE.out).mono ?_; rw [← HV.out]; rintro e9 w6 ⟨rfl, k6⟩; have K6 := hide ((K3.out.trans TK.out).trans k6); clear k6))
        go_ret2
        exact ⟨by rw [E.out.1, E.out.2]; rfl, K6.out⟩
      case step =>
        intro l A W i hI hm
        obtain ⟨bm, kb, mb, hFR, o0, o1, o2, o3, o4, o5, o6, o7, tw⟩ := hI
        obtain ⟨hi1, hi2⟩ := ready_new hm
        have hsz : Hid (19 < A.tmps.size) := hide (by rw [hFR.size]; simp)
        have m2 : A.tmps[2]? = some (.pointer (some ⟨w.heap.size, 0, none⟩)) := (hFR.out 2 (by decide)).trans rfl
        have m3 : A.tmps[3]? = some (.pointer (some ⟨w.heap.size + 1, 0, none⟩)) := (hFR.out 3 (by decide)).trans rfl
        rcases i with _ | _ | _ | _ | _ | _ | _ | _ | i
        · have x0 := (U3.out.kept0 tw.kv).all
          refine wpOp_step rfl (fun KK hK2 => ?_)
          go_simp
          exact hK2 (A.put (some 16) (.agg #[iv r, iv c, .slice a n ca])) _ ⟨bm, kb, mb, hFR.put (by decide) _, .now (put_eq (by have hz := hsz.out; omega)), o1.q, o2.q, o3.q, o4.q, o5.q, o6.n, o7.n, tw.other (by decide)⟩
        · have e0 := o0 (ready_dep hm 0 (by kernel_rfl))
          refine wpOp_step rfl (fun KK hK2 => ?_)
          go_simp
          refine (implShelfOf w3 _ tw.kv r c a ca n us HN.out (HC.out.keptS K3.out) HO.out HNE.out bx).mono ?_
          rintro e9 W9 ⟨bm9, rfl, hb9, hs9, k9⟩
          go_simp
          exact hK2 (A.put (some 17) (.agg #[iv r, iv c, .map (some bm9)])) _ ⟨bm9, kb, mb, hFR.put (by decide) _, o0.q, .now (put_eq (by have hz := hsz.out; omega)), o2.q, o3.q, o4.q, o5.q, o6.n, o7.n, tw.op1 hi2 hs9 hb9 k9⟩
        · have x0 := (B3.out.kept0 tw.kv).all
          refine wpOp_step rfl (fun KK hK2 => ?_)
          go_simp
          exact hK2 (A.put (some 18) (.agg #[.slice d xs.length cd, .slice e m ce])) _ ⟨bm, kb, mb, hFR.put (by decide) _, o0.q, o1.q, .now (put_eq (by have hz := hsz.out; omega)), o3.q, o4.q, o5.q, o6.n, o7.n, tw.other (by decide)⟩
        · have e2 := o2 (ready_dep hm 2 (by kernel_rfl))
          refine wpOp_step rfl (fun KK hK2 => ?_)
          go_simp
          refine (memoryOf _ d e cd ce m xs ((HA.out.keptS K3.out).keptS tw.kv).1 L5.out).mono ?_
          rintro e9 W9 ⟨rfl, k9⟩
          go_simp
          exact hK2 (A.put (some 19) (.agg (cellsOf xs))) _ ⟨bm, kb, mb, hFR.put (by decide) _, o0.q, o1.q, o2.q, .now (put_eq (by have hz := hsz.out; omega)), o4.q, o5.q, o6.n, o7.n, tw.op3 k9⟩
        · refine wpOp_step rfl (fun KK hK2 => ?_)
          go_simp
          exact hK2 (A.put (some 6) (.pointer (some ⟨W.heap.size, 0, none⟩))) _ ⟨bm, W.heap.size, mb, hFR.put (by decide) _, o0.q, o1.q, o2.q, o3.q, .now (put_eq (by have hz := hsz.out; omega)), o5.q, o6.n, o7.n, tw.op4 hi2⟩
        · have mz := Tryz.memZero
          refine wpOp_step rfl (fun KK hK2 => ?_)
          go_simp
          exact hK2 (A.put (some 7) (.pointer (some ⟨W.heap.size, 0, none⟩))) _ ⟨bm, kb, W.heap.size, hFR.put (by decide) _, o0.q, o1.q, o2.q, o3.q, o4.q, .now (put_eq (by have hz := hsz.out; omega)), o6.n, o7.n, tw.op5 hi2⟩
        · have e4 := o4 (ready_dep hm 4 (by kernel_rfl))
          have e1 := o1 (ready_dep hm 1 (by kernel_rfl))
          have c9 := tw.c4 (ready_dep hm 4 (by kernel_rfl))
          have l6 : ¬ l.getD 6 true = true := by rw [hi2]; decide
          rw [if_neg l6] at c9
          refine wpOp_step rfl (fun KK hK2 => ?_)
          refine wp_store_row 68 (.tmp 6) (.tmp 17) rfl kb #[iv r, iv c, .map (some bm)] (getD_of e4) (getD_of e1) 68 #[iv 0, iv 0, .map none] c9.2 Tryz.shelfSize rfl (by simp [Value.oneCell']) ?_
          exact hK2 A _ ⟨bm, kb, mb, hFR, o0.n, o1.n, o2.n, o3.n, o4.n, o5.n, .now trivial, o7.n, tw.op6 (ready_dep hm 1 (by kernel_rfl)) (ready_dep hm 4 (by kernel_rfl)) hi2⟩
        · have e5 := o5 (ready_dep hm 5 (by kernel_rfl))
          have e3 := o3 (ready_dep hm 3 (by kernel_rfl))
          have c9 := tw.c5 (ready_dep hm 5 (by kernel_rfl))
          have l7 : ¬ l.getD 7 true = true := by rw [hi2]; decide
          rw [if_neg l7] at c9
          refine wpOp_step rfl (fun KK hK2 => ?_)
          refine wp_store_row 71 (.tmp 7) (.tmp 19) rfl mb (cellsOf xs) (getD_of e5) (getD_of e3) 71 (cellsOf zeros) c9.2 HZS.out HZ2.out (cellsOf_one xs) ?_
          exact hK2 A _ ⟨bm, kb, mb, hFR, o0.n, o1.n, o2.n, o3.n, o4.n, o5.n, o6.n, .now trivial, tw.op7 (ready_dep hm 5 (by kernel_rfl)) hi2⟩
        · simp at hi1
          omega
end Go.Proofs.YtflnodadeajmcaaGreat

namespace Go.Proofs.YtflnodadeajmcaaGreat
open Go.RowKit
set_option linter.unusedVariables false
set_option linter.unusedSimpArgs false
theorem szStore (w : World) (r c : Int) (a : Option Addr) (ca : Nat) (us : List Pl.Ck) (left : Int) (ha : CRow w a us) (hok : ∀ k, k < us.length → Pl.CkOk (Pl.ck us k)) (hn : us.length ≤ 9223372036854775807) (l0 : 0 ≤ left) (l1 : left ≤ 2000000) :
    Calls Tryz.prog 7 #[.agg #[iv r, iv c, .slice a us.length ca], .int .i64 left] w fun e w' => ∃ L : Int, e = .returned (.int .i64 L) ∧ SzOk us left L ∧ Kept 0 0 w w' := by
  obtain ⟨n, hn9⟩ : ∃ n, n = us.length := ⟨_, rfl⟩
  have K0 := hide (kept_alloc w (.cells #[iv r, iv c, .slice a n ca] 28))
  have SZ : Hid (Calls Tryz.prog 26 #[.slice a n ca, .int .i64 left] (w.alloc (.cells #[iv r, iv c, .slice a n ca] 28)) fun e w' => ∃ L : Int, e = .returned (.int .i64 L) ∧ SzOk us left L ∧ Kept 0 0 (w.alloc (.cells #[iv r, iv c, .slice a n ca] 28)) w') := hide (by
    have := szCachedS (w.alloc (.cells #[iv r, iv c, .slice a n ca] 28)) a ca us left (ha.keptS K0.out) hok hn l0 l1
    rw [← hn9] at this
    exact this)
  rw [← hn9]
  clear ha hn9
  go_enter Tryz.func7, Tryz.ntmps7
  go_wp2_with (first | (go_at_call 26; refine SZ.out.mono ?_; rintro e9 w2 ⟨L, rfl, hL, k2⟩; have K2 := hide (K0.out.trans k2); have HL := hide hL; clear k2 hL))
  · go_ret
    exact ⟨-1, rfl, .inl (by decide), K2.out⟩
  · go_ret
    exact ⟨L, rfl, HL.out, K2.out⟩
set_option maxHeartbeats 2000000 in
theorem toStore (w : World) (r c : Int) (a : Option Addr) (ca n : Nat) (us : List Pl.Ck) (hn : n = us.length) (ha : CRow w a us) (bx : n ≤ 2000000) (bn : ∀ k, k < us.length → (Pl.ck us k).n ≤ 2000000) :
    Calls Tryz.prog 10 #[.agg #[iv r, iv c, .slice a n ca]] w fun e w' => ∃ g : Nat, e = .returned (.agg #[iv r, iv c, .slice (some ⟨g, 0, none⟩) n n]) ∧ w.heap.size ≤ g ∧ g < w'.heap.size ∧ COwn w' g us ∧ Kept 0 0 w w' := by
  have K0 := hide (kept_new (kept_new (kept_alloc w (.cells #[iv r, iv c, .slice a n ca] 28)) (.cells #[iv 0, iv 0, .slice none 0 0] 39)) (.cells #[iv r, iv c, .slice none 0 0] 39))
  have P0 := hide (((Blk.new w #[iv r, iv c, .slice a n ca] 28).alloc (.cells #[iv 0, iv 0, .slice none 0 0] 39)).alloc (.cells #[iv r, iv c, .slice none 0 0] 39))
  have R0 := (Blk.new (w.alloc (.cells #[iv r, iv c, .slice a n ca] 28)) #[iv 0, iv 0, .slice none 0 0] 39).alloc (.cells #[iv r, iv c, .slice none 0 0] 39)
  have X0 := Blk.new ((w.alloc (.cells #[iv r, iv c, .slice a n ca] 28)).alloc (.cells #[iv 0, iv 0, .slice none 0 0] 39)) #[iv r, iv c, .slice none 0 0] 39
  simp only [World.size_alloc] at R0 X0
  replace R0 := hide R0
  replace X0 := hide X0
  have TC : Hid (∀ W, CRow W a us → Calls Tryz.prog 32 #[.slice a n ca] W fun e w' => e = .returned (.slice (some ⟨W.heap.size, 0, none⟩) n n) ∧ COwn w' W.heap.size us ∧ W.heap.size < w'.heap.size ∧ Kept 0 0 W w') := hide (fun W h => by
    have := toCachedS W a ca us h (by rw [← hn]; exact bx) bn
    rw [← hn] at this
    exact this)
  have HA := hide (ha.keptS K0.out)
  clear ha hn
  go_enter Tryz.func10, Tryz.ntmps10
  go_wp2_with (first | (go_at_call 32; refine (TC.out _ HA.out).mono ?_; rintro r9 w2 ⟨rfl, o2, s2, k2⟩; have P2 := hide (P0.out.kept0 k2); have R2 := hide (R0.out.kept0 k2); have X2 := hide (X0.out.kept0 k2); have K2 := hide (K0.out.trans k2); have O2 := hide o2; have S2 := hide s2; have p2 := P2.out.all; have r2 := R2.out.all; have fr2 := R2.out.fz; have x2 := X2.out.all; have fx2 := X2.out.fz; have l2 := X2.out.lt; clear k2 o2 s2))
  have S3 := S2.out
  simp only [World.size_alloc] at S3
  have O3 := O2.out
  simp only [World.size_alloc] at O3
  have CS : ∀ {W : World} {g b i : Nat} {v : Value}, COwn W g us → b < g → COwn (W.setCell ⟨b, i, none⟩ v) g us := by
    rintro W g b i v ⟨zs, hl, ho, hc⟩ hb
    refine ⟨zs, hl, ho.setOther _ _ _ (by omega), fun k hk => ?_⟩
    obtain ⟨c0, c1, c3, b2, c2, l1, l2, hm⟩ := hc k hk
    exact ⟨c0, c1, c3, b2, c2, l1, by simpa using l2, VOwn.setOther hm _ _ _ (by omega)⟩
  refine bodyPost_ret (v := .agg #[iv r, iv c, .slice (some ⟨w.heap.size + 1 + 1 + 1, 0, none⟩) n n]) ?_ rfl ⟨w.heap.size + 1 + 1 + 1, rfl, by omega, by simp only [World.size_setCell]; omega, ?_, ?_⟩
  · rw [results_one rfl]; go_simp
  · exact CS (CS (CS (CS O3 (by omega)) (by omega)) (by omega)) (by omega)
  · exact (kept_set (kept_set (kept_set (kept_set K2.out _ _ _ (.inr (by omega))) _ _ _ (.inr (by omega))) _ _ _ (.inr (by omega))) _ _ _ (.inr (by omega)))
theorem eqStore (w : World) (r c : Int) (a b : Option Addr) (ca cb n : Nat) (us : List Pl.Ck) (hn : n = us.length) (ha : CRow w a us) (hb : CRow w b us) (bx : n ≤ 2000000) (bn : ∀ k, k < us.length → (Pl.ck us k).n ≤ 2000000) :
    Calls Tryz.prog 13 #[.agg #[iv r, iv c, .slice a n ca], .agg #[iv r, iv c, .slice b n cb]] w fun e w' => e = .returned (.bool true) ∧ Kept 0 0 w w' := by
  have K0 := hide (kept_new (kept_alloc w (.cells #[iv r, iv c, .slice a n ca] 39)) (.cells #[iv r, iv c, .slice b n cb] 39))
  have TC : Hid (∀ W, CRow W a us → CRow W b us → Calls Tryz.prog 40 #[.slice a n ca, .slice b n cb] W fun e w' => e = .returned (.bool true) ∧ Kept 0 0 W w') := hide (fun W h h2 => by
    have := eqCachedS W a b ca cb us h h2 (by rw [← hn]; exact bx) bn
    rw [← hn] at this
    exact this)
  have HA := hide (ha.keptS K0.out)
  have HB := hide (hb.keptS K0.out)
  clear ha hb hn
  go_enter Tryz.func13, Tryz.ntmps13
  go_wp2_with (first | (go_at_call 40; refine (TC.out _ HA.out HB.out).mono ?_; rintro e9 w2 ⟨rfl, k2⟩; have K2 := hide (K0.out.trans k2); clear k2))
  go_ret
  exact ⟨rfl, K2.out⟩
end Go.Proofs.YtflnodadeajmcaaGreat

namespace Go.Proofs.YtflnodadeajmcaaGreat
open Go.RowKit
set_option linter.unusedVariables false
set_option linter.unusedSimpArgs false
set_option maxRecDepth 100000 in
set_option maxHeartbeats 16000000 in
theorem lawAllFresh (a b c : Option Addr) (ca cb cc m n : Nat) (xs zs : List Int) (f t : Int) (us : List Pl.Ck) (w : World) (ha : Came w a xs) (hz : Came w b zs) (lm : zs.length = 5 * m) (hn9 : us.length = n) (hc : CRow w c us) (hok : ∀ k, k < us.length → Pl.CkOk (Pl.ck us k)) (lx : xs.length ≤ 9223372036854775807) (mx : m ≤ 9223372036854775807) (nx : n ≤ 9223372036854775807) :
    Calls Tryz.prog 3 #[.agg #[.slice a xs.length ca, .slice b m cb], .agg #[iv f, iv t, .slice c n cc]] w fun r' w' => r' = .returned (.bool true) ∧ Below w.heap.size w w' := by
  have K0 := hide (kept_new (kept_alloc w (.cells #[.slice a xs.length ca, .slice b m cb] 25)) (.cells #[iv f, iv t, .slice c n cc] 28))
  have A0 := hide ((Blk.new w #[.slice a xs.length ca, .slice b m cb] 25).alloc (.cells #[iv f, iv t, .slice c n cc] 28))
  have U0 := Blk.new (w.alloc (.cells #[.slice a xs.length ca, .slice b m cb] 25)) #[iv f, iv t, .slice c n cc] 28
  simp only [World.size_alloc] at U0
  replace U0 := hide U0
  have HA := hide ha
  have HZ := hide hz
  have HM := hide lm
  have HC := hide hc
  have HN := hide hn9.symm
  have HO := hide hok
  have SZ : Hid (∀ (W : World) (left : Int), 0 ≤ left → left ≤ 2000000 → CRow W c us → Calls Tryz.prog 7 #[.agg #[iv f, iv t, .slice c n cc], .int .i64 left] W fun e w' => ∃ L : Int, e = .returned (.int .i64 L) ∧ SzOk us left L ∧ Kept 0 0 W w') := hide (fun W left q0 q1 h => by
    have := szStore W f t c cc us left h hok (by rw [hn9]; exact nx) q0 q1
    rw [hn9] at this
    exact this)
  clear ha hz lm hc hn9 hok
  by_cases hs : szB xs.length m 1048576 < 0
  · go_enter Tryz.func3, Tryz.ntmps3
    go_wp2_with fail
    refine (szBus _ a b ca cb xs.length m 1048576 lx mx (by decide) (by decide)).mono ?_
    rintro e9 w1 ⟨rfl, k1⟩
    have K1 := hide (K0.out.trans k1)
    clear k1
    go_wp2_with fail
    go_ret
    exact ⟨rfl, K1.out.below⟩
  · have hb := szB_neg hs
    have hb2 := szB_le (n := xs.length) (m := m) (left := 1048576) (by decide) hs
    have bx : xs.length ≤ 2000000 := by omega
    have bm : m ≤ 2000000 := by omega
    obtain ⟨L1, hL1⟩ : ∃ L1, L1 = szB xs.length m 1048576 := ⟨_, rfl⟩
    rw [← hL1] at hs hb2
    have HL1 := hide hL1
    clear hL1 hb
    obtain ⟨G, hG⟩ : ∃ G, G = Pl.afV xs zs m f t us := ⟨_, rfl⟩
    obtain ⟨G2, hG2⟩ : ∃ G2, G2 = Pl.afOk xs zs m f t us := ⟨_, rfl⟩
    have HG := hide hG
    have HG2 := hide hG2
    clear hG hG2
    have qq : (G != G) = false := by cases G <;> rfl
    have qq2 : (G2 != G2) = false := by cases G2 <;> rfl
    go_enter Tryz.func3, Tryz.ntmps3
    go_wp2_with fail
    refine (szBus _ a b ca cb xs.length m 1048576 lx mx (by decide) (by decide)).mono ?_
    rw [← HL1.out]
    rintro e9 w1 ⟨rfl, k1⟩
    have K1 := hide (K0.out.trans k1)
    have A1 := hide (A0.out.kept0 k1)
    have U1 := hide (U0.out.kept0 k1)
    have pu := U1.out.all
    clear k1
    go_wp2_with fail
    clear pu
    refine (SZ.out _ L1 hb2.1 (by omega) (HC.out.keptS K1.out)).mono ?_
    rintro e9 w2 ⟨L2, rfl, hL2, k2⟩
    have K2 := hide (K1.out.trans k2)
    have A2 := hide (A1.out.kept0 k2)
    have U2 := hide (U1.out.kept0 k2)
    clear k2
    by_cases hneg : L2 < 0
    · go_wp2_with fail
      go_ret
      exact ⟨rfl, K2.out.below⟩
    · rcases hL2 with hL2 | ⟨q0, q1, q2, q3⟩
      · exact absurd hL2 hneg
      have bn : n ≤ 2000000 := by have := HN.out; omega
      have BN : Hid (∀ k, k < us.length → (Pl.ck us k).n ≤ 2000000) := hide (fun k hk => by have := q3 k hk; omega)
      clear q3
      go_wp2_with fail
      go_region_held3 (fun w' => (∀ i, w'.cell? ⟨w.heap.size, i, none⟩ = ((#[.slice a xs.length ca, .slice b m cb] : Array Value))[i]?) ∧ (∀ i, w'.cell? ⟨w.heap.size + 1, i, none⟩ = ((#[iv f, iv t, .slice c n cc] : Array Value))[i]?)) (first | with_reducible exact ⟨A5.out.all, U5.out.all⟩ | with_reducible exact ⟨A4.out.all, U4.out.all⟩ | with_reducible exact ⟨A3.out.all, U3.out.all⟩ | exact ⟨(show Blk _ _ _ _ from A2.out).all, (show Blk _ _ _ _ from U2.out).all⟩) (first | (go_at_call 9; refine (toBus _ a b ca cb m xs zs (HA.out.keptS (kept_drew K2.out)).1 (HZ.out.keptS (kept_drew K2.out)).1 bx HM.out bm).mono ?_; rintro e9 w3 ⟨p1, p2, rfl, o1, o2, h1, h2, h3, kd⟩; have k3 := undrewK kd; have K3 := hide (K2.out.trans k3); have A3 := hide (A2.out.kept0 k3); have U3 := hide (U2.out.kept0 k3); have O1 := hide o1; have O2 := hide o2; clear kd k3 o1 o2) | (go_at_call 10; refine (toStore _ f t c cc n us HN.out (HC.out.keptS K3.out) bn BN.out).mono ?_; rintro e9 w4 ⟨p3, rfl, h4, h5, m4, k4⟩; have K4 := hide (K3.out.trans k4); have A4 := hide (A3.out.kept0 k4); have U4 := hide (U3.out.kept0 k4); have O1b := hide (O1.out.keptS k4 (by omega)); have O2b := hide (O2.out.keptS k4 (by omega)); have M4 := hide m4; clear k4 m4) | (go_at_call 8; refine (specXAll _ _ _ _ _ m xs zs f t _ n n us O1b.out.row O2b.out.row bx HM.out bm HN.out M4.out.row HO.out (Nat.le_refl _) bn BN.out).mono ?_; rw [← HG.out, ← HG2.out]; rintro e9 w5 ⟨rfl, k5⟩; have K5 := hide (K4.out.trans k5); have A5 := hide (A4.out.kept0 k5); have U5 := hide (U4.out.kept0 k5); clear k5))
      have pa := A5.out.all
      go_wp2_with fail
      clear pa
      refine (toBus _ a b ca cb m xs zs (HA.out.keptS K5.out).1 (HZ.out.keptS K5.out).1 bx HM.out bm).mono ?_
      rintro e9 w6 ⟨r1, r2, rfl, o3, o4, h6, h7, h8, k6⟩
      have k6b := kept_alloc w6 (.cells #[.slice (some ⟨r1, 0, none⟩) xs.length xs.length, .slice (some ⟨r2, 0, none⟩) m m] 35)
      have K6 := hide ((K5.out.trans k6).trans k6b)
      have A6 := hide ((A5.out.kept0 k6).kept0 k6b)
      have U6 := hide ((U5.out.kept0 k6).kept0 k6b)
      have X6 := hide (Blk.new w6 #[.slice (some ⟨r1, 0, none⟩) xs.length xs.length, .slice (some ⟨r2, 0, none⟩) m m] 35)
      have P6 := hide (o3.keptS k6b (by omega))
      have R6 := hide (o4.keptS k6b (by omega))
      have z6 : (w6.alloc (.cells #[.slice (some ⟨r1, 0, none⟩) xs.length xs.length, .slice (some ⟨r2, 0, none⟩) m m] 35)).heap.size = w6.heap.size + 1 := by simp
      obtain ⟨W6, hW6⟩ : ∃ W6, W6 = w6.alloc (.cells #[.slice (some ⟨r1, 0, none⟩) xs.length xs.length, .slice (some ⟨r2, 0, none⟩) m m] 35) := ⟨_, rfl⟩
      have pu := U6.out.all
      clear k6 o3 o4
      go_wp2_with fail
      clear pu
      refine (toStore _ f t c cc n us HN.out (HC.out.keptS K6.out) bn BN.out).mono ?_
      rintro e9 w7 ⟨r3, rfl, h9, h10, m7, k7⟩
      have k7b := kept_alloc w7 (.cells #[iv f, iv t, .slice (some ⟨r3, 0, none⟩) n n] 39)
      have K7 := hide ((K6.out.trans k7).trans k7b)
      have A7 := hide ((A6.out.kept0 k7).kept0 k7b)
      have U7 := hide ((U6.out.kept0 k7).kept0 k7b)
      have X7 := hide ((X6.out.kept0 k7).kept0 k7b)
      have P7 := hide ((P6.out.keptS k7 (by omega)).keptS k7b (by omega))
      have R7 := hide ((R6.out.keptS k7 (by omega)).keptS k7b (by omega))
      have Y7 := hide (Blk.new w7 #[iv f, iv t, .slice (some ⟨r3, 0, none⟩) n n] 39)
      have M7 := hide (m7.kept0 k7b)
      have px := X7.out.all
      have py := Y7.out.all
      clear k7 m7
      go_wp2_with fail
      clear px py
      refine (implXAll _ _ _ _ _ m xs zs f t _ n n us (P7.out.came HA.out.2) (R7.out.came HZ.out.2) bx HM.out bm HN.out M7.out.row HO.out bn BN.out).mono ?_
      rw [← HG.out, ← HG2.out]
      rintro e9 w8 ⟨rfl, k8⟩
      have K8 := hide (K7.out.trans k8)
      have A8 := hide (A7.out.kept0 k8)
      have U8 := hide (U7.out.kept0 k8)
      have X8 := hide (X7.out.kept0 k8)
      have Y8 := hide (Y7.out.kept0 k8)
      have P8 := hide (P7.out.keptS k8 (by omega))
      have R8 := hide (R7.out.keptS k8 (by omega))
      have M8 := hide (M7.out.kept0 k8)
      clear k8
      go_wp2_with fail
      go_region_held3 (fun w' => (∀ i, w'.cell? ⟨w.heap.size, i, none⟩ = ((#[.slice a xs.length ca, .slice b m cb] : Array Value))[i]?) ∧ (∀ i, w'.cell? ⟨w6.heap.size, i, none⟩ = ((#[.slice (some ⟨r1, 0, none⟩) xs.length xs.length, .slice (some ⟨r2, 0, none⟩) m m] : Array Value))[i]?)) (first | with_reducible exact ⟨Aa.out.all, Xa.out.all⟩ | with_reducible exact ⟨A9.out.all, X9.out.all⟩ | exact ⟨(show Blk _ _ _ _ from A8.out).all, (show Blk _ _ _ _ from X8.out).all⟩) (first | (go_at_call 9; refine (toBus _ a b ca cb m xs zs (HA.out.keptS (kept_drew K8.out)).1 (HZ.out.keptS (kept_drew K8.out)).1 bx HM.out bm).mono ?_; rintro e9 w9 ⟨s1, s2, rfl, o5, o6, h11, h12, h13, kd⟩; have k9 := undrewK kd; have K9 := hide (K8.out.trans k9); have A9 := hide (A8.out.kept0 k9); have U9 := hide (U8.out.kept0 k9); have X9 := hide (X8.out.kept0 k9); have Y9 := hide (Y8.out.kept0 k9); have P9 := hide (P8.out.keptS k9 (by omega)); have R9 := hide (R8.out.keptS k9 (by omega)); have M9 := hide (M8.out.kept0 k9); have P9s := hide o5; have R9s := hide o6; clear kd k9 o5 o6) | (go_at_call 12; refine (eqBus _ _ _ _ _ _ _ _ _ m m xs zs xs zs P9.out.row R9.out.row P9s.out.row R9s.out.row bx bx HM.out HM.out bm bm).mono ?_; rw [decide_eq_true (rfl : xs = xs), decide_eq_true (rfl : zs = zs)]; rintro e9 wa ⟨rfl, ka⟩; have Ka := hide (K9.out.trans ka); have Aa := hide (A9.out.kept0 ka); have Ua := hide (U9.out.kept0 ka); have Xa := hide (X9.out.kept0 ka); have Ya := hide (Y9.out.kept0 ka); have Ma := hide (M9.out.kept0 ka); clear ka))
      go_wp2_with fail
      go_region_held3 (fun w' => (∀ i, w'.cell? ⟨w.heap.size + 1, i, none⟩ = ((#[iv f, iv t, .slice c n cc] : Array Value))[i]?) ∧ (∀ i, w'.cell? ⟨w7.heap.size, i, none⟩ = ((#[iv f, iv t, .slice (some ⟨r3, 0, none⟩) n n] : Array Value))[i]?)) (first | with_reducible exact ⟨Uc.out.all, Yc.out.all⟩ | with_reducible exact ⟨Ub.out.all, Yb.out.all⟩ | exact ⟨(show Blk _ _ _ _ from Ua.out).all, (show Blk _ _ _ _ from Ya.out).all⟩) (first | (go_at_call 10; refine (toStore _ f t c cc n us HN.out (HC.out.keptS (kept_drew Ka.out)) bn BN.out).mono ?_; rintro e9 wb ⟨s3, rfl, h14, h15, mb, kd⟩; have kb := undrewK kd; have Kb := hide (Ka.out.trans kb); have Ub := hide (Ua.out.kept0 kb); have Yb := hide (Ya.out.kept0 kb); have Mb := hide (Ma.out.kept0 kb); have Mc := hide mb; clear kd kb mb) | (go_at_call 13; refine (eqStore _ f t _ _ n n n us HN.out Mb.out.row Mc.out.row bn BN.out).mono ?_; rintro e9 wc ⟨rfl, kc⟩; have Kc := hide (Kb.out.trans kc); have Uc := hide (Ub.out.kept0 kc); have Yc := hide (Yb.out.kept0 kc); clear kc))
      go_wp2_with fail
      go_ret
      exact ⟨rfl, Kc.out.below⟩
end Go.Proofs.YtflnodadeajmcaaGreat

namespace Go.Proofs.YtflnodadeajmcaaGreat
open Go.RowKit Go.WideShapes Go.ChangeShapes Go.ChangeAt
set_option linter.unusedVariables false
set_option maxRecDepth 100000

theorem Tryz.cellsInt : Tryz.prog.cellsOf 3 = 1 := by kernel_rfl
theorem Tryz.cellsAcc : Tryz.prog.cellsOf 105 = 5 := by kernel_rfl
theorem Tryz.cellsBus : Tryz.prog.cellsOf 25 = 2 := by kernel_rfl


/-- from numbers at each place to the row of them -/
theorem Addr.add_add_own (a : Addr) (i j : Nat) : (a.add i).add j = a.add (i + j) := by
  unfold Addr.add
  by_cases hi : i = 0 <;> by_cases hj : j = 0 <;> simp [hi, hj, Nat.add_assoc]
theorem came_of {w : World} {x : Addr} {n : Nat} (h : ∀ i, i < n → ∃ z : Int, w.cell? (x.add i) = some (.int .i64 z) ∧ (Lit.int .i64 z).wf = true) : ∃ xs : List Int, xs.length = n ∧ Came w (some x) xs := by
  obtain ⟨f, hf⟩ := Go.Deep.choose_lt h
  refine ⟨(List.range n).map f, by simp, ?_, ?_⟩
  · intro i hi
    have hi' : i < n := by simpa using hi
    obtain ⟨g, off, spot⟩ := x
    have hspot : spot = none := by simpa [Addr.add] using World.cell?_spot (hf 0 (by omega)).1
    subst hspot
    refine ⟨g, off, rfl, ?_⟩
    have hc := (hf i hi').1
    by_cases h0 : i = 0
    · subst h0; simpa [Addr.add, hi'] using hc
    · simpa [Addr.add, h0, hi'] using hc
  · intro i hi
    have hi' : i < n := by simpa using hi
    have := bounds_i64 (hf i hi').2
    simpa [hi'] using this

section
variable {H : Type} {enc : TypeId × Value → H} {w : World} {base : Nat} {spare : Nat → Bool} {held : Bool}

theorem open_intRow {fuel : Nat} {v : Value} {y : DataW H × List MemPlace} (h : DataW.trod enc Tryz.prog w base spare held fuel 22 [v] = some y) :
    ∃ (a : Option Addr) (cap : Nat) (xs : List Int), v = .slice a xs.length cap ∧ Came w a xs ∧ xs.length ≤ maxLen := by
  rcases open_ints Tryz.underlying22 Tryz.underlying3 Tryz.cellsInt h with ⟨hc, _⟩ | ⟨x, len, cap, zs, hc, _, hl, hm, hz, _, hcell, hwz⟩
  · simp at hc
    exact ⟨none, 0, [], hc, ⟨fun i hi => absurd hi (Nat.not_lt_zero i), fun i hi => absurd hi (Nat.not_lt_zero i)⟩, Nat.zero_le _⟩
  · simp at hc
    have hlen : len ≤ zs.length := by rw [hz]; split <;> omega
    obtain ⟨xs, rfl, hx⟩ := came_of (w := w) (x := x) (n := len) (fun i hi => ⟨zs.getD i 0, hcell i (by omega), hwz _ (by
      have : i < zs.length := by omega
      simp [List.getD, this])⟩)
    exact ⟨some x, cap, xs, hc, hx, by omega⟩

theorem open_accRow {fuel : Nat} {v : Value} {y : DataW H × List MemPlace} (h : DataW.trod enc Tryz.prog w base spare held fuel 23 [v] = some y) :
    ∃ (a : Option Addr) (m cap : Nat) (ys : List Int), v = .slice a m cap ∧ Came w a ys ∧ ys.length = 5 * m ∧ m ≤ maxLen := by
  rcases Go.Deep.open_slice Tryz.underlying23 h with ⟨hc, _⟩ | ⟨x, len, cap, m, n, D, Pl, hc, _, hl, hm, hmm, _, hel⟩
  · simp at hc
    exact ⟨none, 0, 0, [], hc, ⟨fun i hi => absurd hi (Nat.not_lt_zero i), fun i hi => absurd hi (Nat.not_lt_zero i)⟩, rfl, Nat.zero_le _⟩
  · simp at hc
    have hlen : len ≤ m := by rw [hmm]; split <;> omega
    obtain ⟨ys, hy, hx⟩ := came_of (w := w) (x := x) (n := 5 * len) (by
      intro i hi
      obtain ⟨cs', h1, h2⟩ := hel (i / 5) (by omega)
      rw [Tryz.cellsAcc] at h1
      obtain ⟨_, hl5, hcs⟩ := World.cells?_some h1
      obtain ⟨zs, k, _, _, _, hzl, hf⟩ := DataW.trod_struct Tryz.underlying105 h2
      have hget := hcs (i % 5) (by omega)
      rw [Addr.add_add_own, show i / 5 * 5 + i % 5 = i from by omega] at hget
      rw [hget]
      obtain ⟨c0, c1, c2, c3, c4, rfl⟩ : ∃ c0 c1 c2 c3 c4, cs' = [c0, c1, c2, c3, c4] := by
        match cs', hl5 with
        | [c0, c1, c2, c3, c4], _ => exact ⟨c0, c1, c2, c3, c4, rfl⟩
      obtain ⟨z0, z1, z2, z3, z4, rfl⟩ : ∃ z0 z1 z2 z3 z4, zs = [z0, z1, z2, z3, z4] := by
        match zs, hzl with
        | [z0, z1, z2, z3, z4], _ => exact ⟨z0, z1, z2, z3, z4, rfl⟩
      have t0 := hf 0 _ rfl
      have t1 := hf 1 _ rfl
      have t2 := hf 2 _ rfl
      have t3 := hf 3 _ rfl
      have t4 := hf 4 _ rfl
      simp [Tryz.cellsInt] at t0 t1 t2 t3 t4
      obtain ⟨n0, e0, _, b0⟩ := DataW.trod_int Tryz.underlying3 t0
      obtain ⟨n1, e1, _, b1⟩ := DataW.trod_int Tryz.underlying3 t1
      obtain ⟨n2, e2, _, b2⟩ := DataW.trod_int Tryz.underlying3 t2
      obtain ⟨n3, e3, _, b3⟩ := DataW.trod_int Tryz.underlying3 t3
      obtain ⟨n4, e4, _, b4⟩ := DataW.trod_int Tryz.underlying3 t4
      simp at e0 e1 e2 e3 e4
      subst e0 e1 e2 e3 e4
      obtain h | h | h | h | h : i % 5 = 0 ∨ i % 5 = 1 ∨ i % 5 = 2 ∨ i % 5 = 3 ∨ i % 5 = 4 := by omega
      all_goals rw [h]
      · exact ⟨n0, rfl, b0⟩
      · exact ⟨n1, rfl, b1⟩
      · exact ⟨n2, rfl, b2⟩
      · exact ⟨n3, rfl, b3⟩
      · exact ⟨n4, rfl, b4⟩)
    exact ⟨some x, len, cap, ys, hc, hx, hy, by omega⟩

end
end Go.Proofs.YtflnodadeajmcaaGreat

namespace Go.Proofs.YtflnodadeajmcaaGreat
open Go.RowKit Go.WideShapes Go.ChangeShapes Go.ChangeAt
set_option linter.unusedVariables false
set_option maxRecDepth 100000

theorem Tryz.cellsOpnd : Tryz.prog.cellsOf 181 = 3 := by kernel_rfl
theorem Tryz.cellsIns : Tryz.prog.cellsOf 183 = 7 := by kernel_rfl

section
variable {H : Type} {enc : TypeId × Value → H} {w : World} {base : Nat} {spare : Nat → Bool} {held : Bool}

theorem open_insCells {fuel : Nat} {c0 c1 c2 c3 c4 c5 c6 : Value} {y : DataW H × List MemPlace} (h : DataW.trod enc Tryz.prog w base spare held fuel 183 [c0, c1, c2, c3, c4, c5, c6] = some y) :
    ∃ i0 i1 i2 i3 i4 i5 i6 : Int, (c0 = .int .i64 i0 ∧ c1 = .int .i64 i1 ∧ c2 = .int .i64 i2 ∧ c3 = .int .i64 i3 ∧ c4 = .int .i64 i4 ∧ c5 = .int .i64 i5 ∧ c6 = .int .i64 i6) ∧ (Lit.int .i64 i0).wf = true ∧ (Lit.int .i64 i1).wf = true ∧ (Lit.int .i64 i2).wf = true ∧ (Lit.int .i64 i3).wf = true ∧ (Lit.int .i64 i4).wf = true ∧ (Lit.int .i64 i5).wf = true ∧ (Lit.int .i64 i6).wf = true := by
  obtain ⟨zs, k, _, _, _, hzl, hf⟩ := DataW.trod_struct Tryz.underlying183 h
  obtain ⟨z0, z1, z2, z3, z4, rfl⟩ : ∃ z0 z1 z2 z3 z4, zs = [z0, z1, z2, z3, z4] := by
    match zs, hzl with
    | [z0, z1, z2, z3, z4], _ => exact ⟨z0, z1, z2, z3, z4, rfl⟩
  have t0 := hf 0 _ rfl
  have t1 := hf 1 _ rfl
  have t2 := hf 2 _ rfl
  have t3 := hf 3 _ rfl
  have t4 := hf 4 _ rfl
  simp [Tryz.cellsInt, Tryz.cellsOpnd] at t0 t1 t2 t3 t4
  obtain ⟨ys, k2, _, _, _, hyl, hg⟩ := DataW.trod_struct Tryz.underlying181 t3
  obtain ⟨y0, y1, y2, rfl⟩ : ∃ y0 y1 y2, ys = [y0, y1, y2] := by
    match ys, hyl with
    | [y0, y1, y2], _ => exact ⟨y0, y1, y2, rfl⟩
  have s0 := hg 0 _ rfl
  have s1 := hg 1 _ rfl
  have s2 := hg 2 _ rfl
  simp [Tryz.cellsInt] at s0 s1 s2
  obtain ⟨i0, e0, _, b0⟩ := DataW.trod_int Tryz.underlying3 t0
  obtain ⟨i1, e1, _, b1⟩ := DataW.trod_int Tryz.underlying3 t1
  obtain ⟨i2, e2, _, b2⟩ := DataW.trod_int Tryz.underlying3 t2
  obtain ⟨i3, e3, _, b3⟩ := DataW.trod_int Tryz.underlying3 s0
  obtain ⟨i4, e4, _, b4⟩ := DataW.trod_int Tryz.underlying3 s1
  obtain ⟨i5, e5, _, b5⟩ := DataW.trod_int Tryz.underlying3 s2
  obtain ⟨i6, e6, _, b6⟩ := DataW.trod_int Tryz.underlying3 t4
  simp at e0 e1 e2 e3 e4 e5 e6
  exact ⟨i0, i1, i2, i3, i4, i5, i6, ⟨e0, e1, e2, e3, e4, e5, e6⟩, b0, b1, b2, b3, b4, b5, b6⟩
end

theorem Tryz.cellsBool : Tryz.prog.cellsOf 4 = 1 := by kernel_rfl
theorem Tryz.cellsMicro : Tryz.prog.cellsOf 185 = 9 := by kernel_rfl
theorem Tryz.cellsMicros : Tryz.prog.cellsOf 91 = 1 := by kernel_rfl
theorem Tryz.cellsUnit : Tryz.prog.cellsOf 93 = 3 := by kernel_rfl
/-- the numbers of an instruction, in their order -/
def inC (y : Pl.In) : Nat → Int
  | 0 => y.op
  | 1 => y.z
  | 2 => y.r
  | 3 => y.m
  | 4 => y.k
  | 5 => y.e
  | _ => y.s
theorem micros_of {w : World} {x : Addr} {len : Nat} (h : ∀ k, k < len → ∃ r : Pl.In × Int × Bool, (∀ j, j < 7 → w.cell? (x.add (k * 9 + j)) = some (.int .i64 (inC r.1 j)) ∧ (Lit.int .i64 (inC r.1 j)).wf = true) ∧ w.cell? (x.add (k * 9 + 7)) = some (.int .i64 r.2.1) ∧ (Lit.int .i64 r.2.1).wf = true ∧ w.cell? (x.add (k * 9 + 8)) = some (.bool r.2.2)) :
    ∃ (ys ts : List Int) (sk : List Bool), MRow w (some x) len ys ts sk ∧ ys.length = 7 * len ∧ ts.length = len ∧ sk.length = len ∧ Wide ys ∧ Wide ts := by
  obtain ⟨f, hf⟩ : ∃ f : Nat → Pl.In × Int × Bool, ∀ k, k < len → ((∀ j, j < 7 → w.cell? (x.add (k * 9 + j)) = some (.int .i64 (inC (f k).1 j)) ∧ (Lit.int .i64 (inC (f k).1 j)).wf = true) ∧ w.cell? (x.add (k * 9 + 7)) = some (.int .i64 (f k).2.1) ∧ (Lit.int .i64 (f k).2.1).wf = true ∧ w.cell? (x.add (k * 9 + 8)) = some (.bool (f k).2.2)) := by
    have h2 : ∀ k, ∃ r : Pl.In × Int × Bool, k < len → ((∀ j, j < 7 → w.cell? (x.add (k * 9 + j)) = some (.int .i64 (inC r.1 j)) ∧ (Lit.int .i64 (inC r.1 j)).wf = true) ∧ w.cell? (x.add (k * 9 + 7)) = some (.int .i64 r.2.1) ∧ (Lit.int .i64 r.2.1).wf = true ∧ w.cell? (x.add (k * 9 + 8)) = some (.bool r.2.2)) := by
      intro k
      by_cases hk : k < len
      · obtain ⟨r, hr⟩ := h k hk
        exact ⟨r, fun _ => hr⟩
      · exact ⟨(Pl.inNo, 0, false), fun q => absurd q hk⟩
    exact ⟨fun k => Classical.choose (h2 k), fun k hk => Classical.choose_spec (h2 k) hk⟩
  obtain ⟨ys, hys⟩ : ∃ ys : List Int, ys = (List.range (7 * len)).map fun i => inC (f (i / 7)).1 (i % 7) := ⟨_, rfl⟩
  obtain ⟨ts, hts⟩ : ∃ ts : List Int, ts = (List.range len).map fun k => (f k).2.1 := ⟨_, rfl⟩
  obtain ⟨sk, hsk⟩ : ∃ sk : List Bool, sk = (List.range len).map fun k => (f k).2.2 := ⟨_, rfl⟩
  have ey : ∀ i, i < 7 * len → el ys i = inC (f (i / 7)).1 (i % 7) := fun i hi => by rw [hys]; unfold el; rw [List.getElem?_map, List.getElem?_range hi]; rfl
  have et : ∀ i, i < len → el ts i = (f i).2.1 := fun i hi => by rw [hts]; unfold el; rw [List.getElem?_map, List.getElem?_range hi]; rfl
  have es : ∀ i, i < len → bl sk i = (f i).2.2 := fun i hi => by rw [hsk]; unfold bl; rw [List.getElem?_map, List.getElem?_range hi]; rfl
  refine ⟨ys, ts, sk, ?_, by rw [hys]; simp, by rw [hts]; simp, by rw [hsk]; simp, ?_, ?_⟩
  · intro i hi
    rw [miL_len] at hi
    have hk : i / 9 < len := by omega
    obtain ⟨q7, q8, _, q9⟩ := hf (i / 9) hk
    obtain ⟨m7, m8, m9⟩ := miL_at ys ts sk hk
    have hc : w.cell? (x.add i) = some (vl (miL ys ts sk len) i) := by
      rcases Nat.lt_or_ge (i % 9) 7 with hj | hj
      · have e : i / 9 * 9 + i % 9 = i := by omega
        have h1 := (q7 (i % 9) hj).1
        have h2 := m7 (i % 9) hj
        rw [e] at h1 h2
        rw [h1, h2, ey _ (by omega), show (i / 9 * 7 + i % 9) / 7 = i / 9 from by omega, show (i / 9 * 7 + i % 9) % 7 = i % 9 from by omega]
      · rcases (show i % 9 = 7 ∨ i % 9 = 8 by omega) with h7 | h8
        · have e : i / 9 * 9 + 7 = i := by omega
          rw [e] at q8 m8
          rw [q8, m8, et _ hk]
        · have e : i / 9 * 9 + 8 = i := by omega
          rw [e] at q9 m9
          rw [q9, m9, es _ hk]
    obtain ⟨g, off, spot⟩ := x
    have hspot : spot = none := by
      have h0 := (hf 0 (by omega)).1 0 (by decide)
      simpa [Addr.add] using World.cell?_spot h0.1
    subst hspot
    refine ⟨g, off, rfl, ?_⟩
    by_cases h0 : i = 0
    · subst h0; simpa [Addr.add] using hc
    · simpa [Addr.add, h0] using hc
  · intro i hi
    have hi7 : i < 7 * len := by rw [hys] at hi; simpa using hi
    have hq := ((hf (i / 7) (by omega)).1 (i % 7) (by omega)).2
    rw [← ey i hi7] at hq
    have := bounds_i64 hq
    unfold el at this
    exact this
  · intro i hi
    have hi7 : i < len := by rw [hts] at hi; simpa using hi
    have hq := (hf i hi7).2.2.1
    rw [← et i hi7] at hq
    have := bounds_i64 hq
    unfold el at this
    exact this
section
variable {H : Type} {enc : TypeId × Value → H} {w : World} {base : Nat} {spare : Nat → Bool} {held : Bool}
theorem open_MicroRow {fuel : Nat} {v : Value} {y : DataW H × List MemPlace} (h : DataW.trod enc Tryz.prog w base spare held fuel 91 [v] = some y) :
    ∃ (a : Option Addr) (m cap : Nat) (ys ts : List Int) (sk : List Bool), v = .slice a m cap ∧ MRow w a m ys ts sk ∧ ys.length = 7 * m ∧ ts.length = m ∧ sk.length = m ∧ Wide ys ∧ Wide ts ∧ m ≤ maxLen := by
  rcases Go.Deep.open_slice Tryz.underlying91 h with ⟨hc, _⟩ | ⟨x, len, cap, m, n, D, Pl, hc, _, hl, hm, hmm, _, hel⟩
  · simp at hc
    exact ⟨none, 0, 0, [], [], [], hc, fun i hi => absurd hi (by simp [miL]), rfl, rfl, rfl, fun i hi => absurd hi (Nat.not_lt_zero i), fun i hi => absurd hi (Nat.not_lt_zero i), Nat.zero_le _⟩
  · simp at hc
    have hlen : len ≤ m := by rw [hmm]; split <;> omega
    obtain ⟨ys, ts, sk, h1, h2, h3, h4, h5, h6⟩ := micros_of (w := w) (x := x) (len := len) (by
      intro k hk
      obtain ⟨cs', h1, h2⟩ := hel k (by omega)
      rw [Tryz.cellsMicro] at h1
      obtain ⟨_, hl5, hcs⟩ := World.cells?_some h1
      obtain ⟨c0, c1, c2, c3, c4, c5, c6, c7, c8, rfl⟩ : ∃ c0 c1 c2 c3 c4 c5 c6 c7 c8, cs' = [c0, c1, c2, c3, c4, c5, c6, c7, c8] := by
        match cs', hl5 with
        | [c0, c1, c2, c3, c4, c5, c6, c7, c8], _ => exact ⟨c0, c1, c2, c3, c4, c5, c6, c7, c8, rfl⟩
      have hget : ∀ j, j < 9 → w.cell? (x.add (k * 9 + j)) = [c0, c1, c2, c3, c4, c5, c6, c7, c8][j]? := fun j hj => by
        have h9 := hcs j (by omega)
        rw [Addr.add_add_own] at h9
        exact h9
      obtain ⟨zs, k2, _, _, _, hzl, hf⟩ := DataW.trod_struct Tryz.underlying185 h2
      obtain ⟨z0, z1, z2, rfl⟩ : ∃ z0 z1 z2, zs = [z0, z1, z2] := by
        match zs, hzl with
        | [z0, z1, z2], _ => exact ⟨z0, z1, z2, rfl⟩
      have t0 := hf 0 _ rfl
      have t1 := hf 1 _ rfl
      have t2 := hf 2 _ rfl
      simp [Tryz.cellsInt, Tryz.cellsIns, Tryz.cellsBool] at t0 t1 t2
      obtain ⟨n0, n1, n2, n3, n4, n5, n6, ⟨e0, e1, e2, e3, e4, e5, e6⟩, b0, b1, b2, b3, b4, b5, b6⟩ := open_insCells t0
      obtain ⟨n7, e7, _, b7⟩ := DataW.trod_int Tryz.underlying3 t1
      obtain ⟨n8, e8, _⟩ := DataW.trod_bool Tryz.underlying4 t2
      simp at e7 e8
      subst e0 e1 e2 e3 e4 e5 e6 e7 e8
      refine ⟨(⟨n0, n1, n2, n3, n4, n5, n6⟩, n7, n8), ?_, hget 7 (by decide), b7, hget 8 (by decide)⟩
      intro j hj
      obtain rfl | rfl | rfl | rfl | rfl | rfl | rfl : j = 0 ∨ j = 1 ∨ j = 2 ∨ j = 3 ∨ j = 4 ∨ j = 5 ∨ j = 6 := by omega
      · exact ⟨hget 0 (by decide), b0⟩
      · exact ⟨hget 1 (by decide), b1⟩
      · exact ⟨hget 2 (by decide), b2⟩
      · exact ⟨hget 3 (by decide), b3⟩
      · exact ⟨hget 4 (by decide), b4⟩
      · exact ⟨hget 5 (by decide), b5⟩
      · exact ⟨hget 6 (by decide), b6⟩)
    exact ⟨some x, len, cap, ys, ts, sk, hc, h1, h2, h3, h4, h5, h6, by omega⟩
end

theorem Tryz.cellsCached : Tryz.prog.cellsOf 95 = 4 := by kernel_rfl
theorem Tryz.cellsCacheds : Tryz.prog.cellsOf 26 = 1 := by kernel_rfl
theorem Tryz.cellsStore : Tryz.prog.cellsOf 28 = 3 := by kernel_rfl
theorem cell_add {w : World} {g off i : Nat} {v : Value} (h : w.cell? ((⟨g, off, none⟩ : Addr).add i) = some v) : w.cell? ⟨g, off + i, none⟩ = some v := by
  by_cases h0 : i = 0
  · subst h0; simpa [Addr.add] using h
  · simpa [Addr.add, h0] using h
theorem cacheds_of {w : World} {x : Addr} {len : Nat} (h : ∀ k, k < len → ∃ r : Pl.Ck, Pl.CkOk r ∧ w.cell? (x.add (k * 4)) = some (iv r.f) ∧ w.cell? (x.add (k * 4 + 1)) = some (iv r.t) ∧ (∃ (b : Option Addr) (cb : Nat), w.cell? (x.add (k * 4 + 2)) = some (.slice b r.n cb) ∧ MRow w b r.n r.ys r.ts r.sk) ∧ w.cell? (x.add (k * 4 + 3)) = some (iv r.u)) :
    ∃ us : List Pl.Ck, us.length = len ∧ CRow w (some x) us ∧ ∀ k, k < us.length → Pl.CkOk (Pl.ck us k) := by
  obtain ⟨f, hf⟩ : ∃ f : Nat → Pl.Ck, ∀ k, k < len → (Pl.CkOk (f k) ∧ w.cell? (x.add (k * 4)) = some (iv (f k).f) ∧ w.cell? (x.add (k * 4 + 1)) = some (iv (f k).t) ∧ (∃ (b : Option Addr) (cb : Nat), w.cell? (x.add (k * 4 + 2)) = some (.slice b (f k).n cb) ∧ MRow w b (f k).n (f k).ys (f k).ts (f k).sk) ∧ w.cell? (x.add (k * 4 + 3)) = some (iv (f k).u)) := by
    refine ⟨fun k => if hk : k < len then Classical.choose (h k hk) else Pl.noCk, fun k hk => ?_⟩
    simp only [dif_pos hk]
    exact Classical.choose_spec (h k hk)
  have e : ∀ k, k < len → Pl.ck ((List.range len).map f) k = f k := fun k hk => by unfold Pl.ck; rw [List.getElem?_map, List.getElem?_range hk]; rfl
  refine ⟨(List.range len).map f, by simp, ?_, ?_⟩
  · intro k hk
    have hk2 : k < len := by simpa using hk
    rw [e k hk2]
    obtain ⟨_, h0, h1, ⟨b, cb, h2, hm⟩, h3⟩ := hf k hk2
    obtain ⟨g, off, spot⟩ := x
    have hspot : spot = none := by simpa [Addr.add] using World.cell?_spot (hf 0 (by omega)).2.1
    subst hspot
    exact ⟨g, off, rfl, cell_add h0, cell_add h1, ⟨b, cb, cell_add h2, hm⟩, cell_add h3⟩
  · intro k hk
    have hk2 : k < len := by simpa using hk
    rw [e k hk2]
    exact (hf k hk2).1
section
variable {H : Type} {enc : TypeId × Value → H} {w : World} {base : Nat} {spare : Nat → Bool} {held : Bool}
theorem open_Bus {r : Reach} {b0 : Nat} {v : Value} {d : DataW H} {p : List MemPlace} (hv : Value.okWide Tryz.prog w r b0 25 v) (h : DataW.Trod enc Tryz.prog w base spare held 25 v d p) :
    ∃ (a : Option Addr) (ca : Nat) (xs : List Int) (b : Option Addr) (m cb : Nat) (ys : List Int), v = .agg #[.slice a xs.length ca, .slice b m cb] ∧ (Came w a xs ∧ xs.length ≤ maxLen) ∧ (Came w b ys ∧ ys.length = 5 * m ∧ m ≤ maxLen) := by
  obtain ⟨v0, v1, y0, y1, n, rfl, _, _, h0, h1⟩ := Go.Joins.open_agg2 Tryz.underlying25 (by kernel_rfl) Tryz.cellsBus hv h
  obtain ⟨a, ca, xs, rfl, hx, lx⟩ := open_intRow h0
  obtain ⟨b, m, cb, ys, rfl, hy, ly, lm⟩ := open_accRow h1
  exact ⟨a, ca, xs, b, m, cb, ys, rfl, ⟨hx, lx⟩, ⟨hy, ly, lm⟩⟩
theorem open_CachedRow {fuel : Nat} {v : Value} {y : DataW H × List MemPlace} (h : DataW.trod enc Tryz.prog w base spare held fuel 26 [v] = some y) :
    ∃ (a : Option Addr) (m cap : Nat) (us : List Pl.Ck), v = .slice a m cap ∧ us.length = m ∧ CRow w a us ∧ (∀ k, k < us.length → Pl.CkOk (Pl.ck us k)) ∧ m ≤ maxLen := by
  rcases Go.Deep.open_slice Tryz.underlying26 h with ⟨hc, _⟩ | ⟨x, len, cap, m, n, D, Pl, hc, _, hl, hm, hmm, _, hel⟩
  · simp at hc
    exact ⟨none, 0, 0, [], hc, rfl, fun i hi => absurd hi (Nat.not_lt_zero i), fun i hi => absurd hi (Nat.not_lt_zero i), Nat.zero_le _⟩
  · simp at hc
    have hlen : len ≤ m := by rw [hmm]; split <;> omega
    obtain ⟨us, h1, h2, h3⟩ := cacheds_of (w := w) (x := x) (len := len) (by
      intro k hk
      obtain ⟨cs', h1, h2⟩ := hel k (by omega)
      rw [Tryz.cellsCached] at h1
      obtain ⟨_, hl5, hcs⟩ := World.cells?_some h1
      obtain ⟨c0, c1, c2, c3, rfl⟩ : ∃ c0 c1 c2 c3, cs' = [c0, c1, c2, c3] := by
        match cs', hl5 with
        | [c0, c1, c2, c3], _ => exact ⟨c0, c1, c2, c3, rfl⟩
      have hget : ∀ j, j < 4 → w.cell? (x.add (k * 4 + j)) = [c0, c1, c2, c3][j]? := fun j hj => by
        have h9 := hcs j (by omega)
        rw [Addr.add_add_own] at h9
        exact h9
      obtain ⟨zs, k2, _, _, _, hzl, hf⟩ := DataW.trod_struct Tryz.underlying95 h2
      obtain ⟨z0, z1, rfl⟩ : ∃ z0 z1, zs = [z0, z1] := by
        match zs, hzl with
        | [z0, z1], _ => exact ⟨z0, z1, rfl⟩
      have t0 := hf 0 _ rfl
      have t1 := hf 1 _ rfl
      simp [Tryz.cellsInt, Tryz.cellsUnit] at t0 t1
      obtain ⟨ws, k3, _, _, _, hwl, hg⟩ := DataW.trod_struct Tryz.underlying93 t0
      obtain ⟨w0, w1, w2, rfl⟩ : ∃ w0 w1 w2, ws = [w0, w1, w2] := by
        match ws, hwl with
        | [w0, w1, w2], _ => exact ⟨w0, w1, w2, rfl⟩
      have s0 := hg 0 _ rfl
      have s1 := hg 1 _ rfl
      have s2 := hg 2 _ rfl
      simp [Tryz.cellsInt, Tryz.cellsMicros] at s0 s1 s2
      obtain ⟨i0, q0, _, b0⟩ := DataW.trod_int Tryz.underlying3 s0
      obtain ⟨i1, q1, _, b1⟩ := DataW.trod_int Tryz.underlying3 s1
      obtain ⟨a2, m2, cc2, y2, tt2, sk2, q2, hm, ly, lt, ls, wy, wt, lm⟩ := open_MicroRow s2
      obtain ⟨i3, q3, _, b3⟩ := DataW.trod_int Tryz.underlying3 t1
      simp at q0 q1 q3
      subst q0 q1 q2 q3
      exact ⟨⟨i0, i1, m2, y2, tt2, sk2, i3⟩, ⟨ly, lt, ls, wy, wt, by unfold maxLen at lm; simp only; omega, bounds_i64 b0, bounds_i64 b1, bounds_i64 b3⟩, hget 0 (by decide), hget 1 (by decide), ⟨a2, cc2, hget 2 (by decide), hm⟩, hget 3 (by decide)⟩)
    exact ⟨some x, len, cap, us, hc, h1, h2, h3, by omega⟩
theorem open_Store {r : Reach} {b0 : Nat} {v : Value} {d : DataW H} {p : List MemPlace} (hv : Value.okWide Tryz.prog w r b0 28 v) (h : DataW.Trod enc Tryz.prog w base spare held 28 v d p) :
    ∃ (i0 i1 : Int) (a2 : Option Addr) (m2 c2 : Nat) (u2 : List Pl.Ck), v = .agg #[.int .i64 i0, .int .i64 i1, .slice a2 m2 c2] ∧ (Lit.int .i64 i0).wf = true ∧ (Lit.int .i64 i1).wf = true ∧ (u2.length = m2 ∧ CRow w a2 u2 ∧ (∀ k, k < u2.length → Pl.CkOk (Pl.ck u2 k)) ∧ m2 ≤ maxLen) := by
  obtain ⟨cs, rfl, hsz⟩ := okWide_struct Tryz.underlying28 hv
  rw [Tryz.cellsStore] at hsz
  obtain ⟨cl⟩ := cs
  obtain ⟨c_0, c_1, c_2, rfl⟩ : ∃ c_0 c_1 c_2, cl = [c_0, c_1, c_2] := by
    match cl, hsz with
    | [c_0, c_1, c_2], _ => exact ⟨c_0, c_1, c_2, rfl⟩
  obtain ⟨fuel, hf0⟩ := h
  obtain ⟨zs, k, _, _, _, hzl, hf⟩ := DataW.trod_struct Tryz.underlying28 hf0
  obtain ⟨z_0, z_1, z_2, rfl⟩ : ∃ z_0 z_1 z_2, zs = [z_0, z_1, z_2] := by
    match zs, hzl with
    | [z_0, z_1, z_2], _ => exact ⟨z_0, z_1, z_2, rfl⟩
  have t0 := hf 0 _ rfl
  have t1 := hf 1 _ rfl
  have t2 := hf 2 _ rfl
  simp [Value.cells, Tryz.cellsInt, Tryz.cellsCacheds] at t0 t1 t2
  obtain ⟨i0, q0, _, w0⟩ := DataW.trod_int Tryz.underlying3 t0
  obtain ⟨i1, q1, _, w1⟩ := DataW.trod_int Tryz.underlying3 t1
  obtain ⟨a2, m2, c2, u2, q2, hh⟩ := open_CachedRow t2
  simp at q0 q1
  subst q0 q1 q2
  exact ⟨i0, i1, a2, m2, c2, u2, rfl, w0, w1, hh⟩
end

end Go.Proofs.YtflnodadeajmcaaGreat

