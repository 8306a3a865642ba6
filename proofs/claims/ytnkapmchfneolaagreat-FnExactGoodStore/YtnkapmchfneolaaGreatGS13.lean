/- What the program's GoodStore answers; what the laws' functions on stores do; what NewStore answers. The law on GoodStore: of whatever store, its Go function returns true, and no block that was there has turned. Instructions that came in to a law, and lists of them: opened out of a law's argument. Units that came in to a law: opened out of a law's argument. Stores that came in to a law: opened out of a law's argument. -/
import Derived.Test.YtnkapmchfneolaaGreatGS10
import Derived.Test.YtnkapmchfneolaaGreatGS12
import Derived.Test.YtnkapmchfneolaaGreatGS1
import Derived.Lib.SmallJoins
import Derived.Deep.Slices
import Derived.ProofKit
import Derived.OpenShut
namespace Go.Proofs.YtnkapmchfneolaaGreat
open Go.RowKit
set_option linter.unusedVariables false
theorem Pl.goodS_areU {r c : Int} {us : List Pl.Ck} (r1 : 1 ≤ r) (r8 : r ≤ 8) (c0 : 0 ≤ c) (c1 : c ≤ 1000000) (lr : (us.length : Int) ≤ r) : Pl.goodS r c us = Pl.areU c us := by
  obtain ⟨fl, ul⟩ : (Pl.froms us us.length).length = us.length ∧ (Pl.uses us us.length).length = us.length := ⟨Pl.froms_len _ _, Pl.uses_len _ _⟩
  by_cases h : (∀ k, k < us.length → Pl.goodC c (Pl.ck us k) = true) ∧ Pl.Rises (Pl.froms us us.length) ∧ (Pl.uses us us.length).Nodup
  · rw [Pl.areU_yes h]
    refine Pl.goodS_yes ⟨r1, r8, c0, c1, lr, fun k hk => ⟨h.1 k hk, fun h0 => ?_, fun j hj => ?_⟩⟩
    · have := h.2.1 (k - 1) (by omega)
      rw [show k - 1 + 1 = k from by omega, Pl.froms_el us (by omega), Pl.froms_el us hk] at this
      exact this
    · have := Pl.nodup_el.1 h.2.2 k (by omega) j hj
      rw [Pl.uses_el us (show j < us.length by omega), Pl.uses_el us hk] at this
      exact this
  · rw [Pl.areU_no h]
    refine Pl.goodS_no fun g => h ⟨fun k hk => (g.ok k hk).1, fun i hi => ?_, Pl.nodup_el.2 fun k hk j hj => ?_⟩
    · rw [fl] at hi
      rw [Pl.froms_el us (by omega), Pl.froms_el us hi]
      exact (g.ok (i + 1) hi).2.1 (by omega)
    · rw [ul] at hk
      rw [Pl.uses_el us (by omega), Pl.uses_el us hk]
      exact (g.ok k hk).2.2 j hj
theorem implAreUnitsN (w : World) (c : Int) (a : Option Addr) (ca n : Nat) (us : List Pl.Ck) (hn : n = us.length) (ha : CRow w a us) (hok : ∀ k, k < us.length → Pl.CkOk (Pl.ck us k)) (bx : n ≤ 2000000) (bn : ∀ k, k < us.length → (Pl.ck us k).n ≤ 2000000) :
    Calls Tryz.prog 30 #[.slice a n ca, iv c] w fun e w' => e = .returned (.bool (Pl.areU c us)) ∧ Kept 0 0 w w' := by
  subst hn; exact implAreUnits w c a ca us ha hok bx bn
set_option maxRecDepth 100000 in
set_option maxHeartbeats 8000000 in
theorem implGoodStore (w : World) (r c : Int) (a : Option Addr) (ca : Nat) (us : List Pl.Ck) (ha : CRow w a us) (hok : ∀ k, k < us.length → Pl.CkOk (Pl.ck us k)) (bx : us.length ≤ 2000000) (bn : ∀ k, k < us.length → (Pl.ck us k).n ≤ 2000000) :
    Calls Tryz.prog 10 #[.agg #[iv r, iv c, .slice a us.length ca]] w fun e w' => e = .returned (.bool (Pl.goodS r c us)) ∧ Kept 0 0 w w' := by
  obtain ⟨n, hn⟩ : ∃ n, n = us.length := ⟨_, rfl⟩
  have K0 := hide (kept_alloc w (.cells #[iv r, iv c, .slice a n ca] 29))
  have B0 := hide (Blk.new w #[iv r, iv c, .slice a n ca] 29)
  have HA := hide ha
  have HN := hide hn
  rw [← hn] at bx ⊢
  clear ha hn
  cases h1 : (decide ((1 : Int) ≤ r) && decide (r ≤ 8))
  · have E : Hid (Pl.goodS r c us = false) := hide (Pl.goodS_no fun h => by have := h.r1; have := h.r8; simp at h1; omega)
    go_enter Tryz.func10, Tryz.ntmps10
    go_wp2_with (first | (go_at_call 29; refine st (implRoom _ _) ?_; rw [h1]))
    go_ret
    exact ⟨rB E.out.symm, K0.out⟩
  · cases h2 : decide ((0 : Int) ≤ c)
    · have E : Hid (Pl.goodS r c us = false) := hide (Pl.goodS_no fun h => by have := h.c0; simp at h2; omega)
      go_enter Tryz.func10, Tryz.ntmps10
      go_wp2_with (first | (go_at_call 29; refine st (implRoom _ _) ?_; rw [h1]))
      go_ret
      exact ⟨rB E.out.symm, K0.out⟩
    · cases h3 : decide (c ≤ (1000000 : Int))
      · have E : Hid (Pl.goodS r c us = false) := hide (Pl.goodS_no fun h => by have := h.c1; simp at h3; omega)
        go_enter Tryz.func10, Tryz.ntmps10
        go_wp2_with (first | (go_at_call 29; refine st (implRoom _ _) ?_; rw [h1]))
        go_ret
        exact ⟨rB E.out.symm, K0.out⟩
      · cases h4 : decide ((n : Int) ≤ r)
        · have E : Hid (Pl.goodS r c us = false) := hide (Pl.goodS_no fun h => by have := h.lr; have := HN.out; simp at h4; omega)
          go_enter Tryz.func10, Tryz.ntmps10
          go_wp2_with (first | (go_at_call 29; refine st (implRoom _ _) ?_; rw [h1]))
          go_ret
          exact ⟨rB E.out.symm, K0.out⟩
        · obtain ⟨V, hV⟩ : ∃ V, V = Pl.areU c us := ⟨_, rfl⟩
          have E : Hid (Pl.goodS r c us = V) := hide (by
            rw [hV]
            have hn := HN.out
            simp at h1 h2 h3 h4
            exact Pl.goodS_areU (by omega) (by omega) (by omega) (by omega) (by omega))
          have HV := hide hV
          clear hV
          go_enter Tryz.func10, Tryz.ntmps10
          go_wp2_with (first | (go_at_call 29; refine st (implRoom _ _) ?_; rw [h1]) | (go_at_call 30; refine (implAreUnitsN _ c a ca n us HN.out (HA.out.keptS K0.out) hok bx bn).mono ?_; rw [← HV.out]; rintro e9 w2 ⟨rfl, k2⟩; have K2 := hide (K0.out.trans k2); clear k2))
          go_ret
          exact ⟨rB E.out.symm, K2.out⟩
theorem implGoodStoreN (w : World) (r c : Int) (a : Option Addr) (ca n : Nat) (us : List Pl.Ck) (hn : n = us.length) (ha : CRow w a us) (hok : ∀ k, k < us.length → Pl.CkOk (Pl.ck us k)) (bx : n ≤ 2000000) (bn : ∀ k, k < us.length → (Pl.ck us k).n ≤ 2000000) :
    Calls Tryz.prog 10 #[.agg #[iv r, iv c, .slice a n ca]] w fun e w' => e = .returned (.bool (Pl.goodS r c us)) ∧ Kept 0 0 w w' := by
  subst hn; exact implGoodStore w r c a ca us ha hok bx bn
theorem specGoodStoreN (w : World) (r c : Int) (a : Option Addr) (ca n : Nat) (us : List Pl.Ck) (hn : n = us.length) (ha : CRow w a us) (hok : ∀ k, k < us.length → Pl.CkOk (Pl.ck us k)) (bx : n ≤ 2000000) (hca : n ≤ ca) (bn : ∀ k, k < us.length → (Pl.ck us k).n ≤ 2000000) :
    Calls Tryz.prog 8 #[.agg #[iv r, iv c, .slice a n ca]] w fun e w' => e = .returned (.bool (Pl.goodS r c us)) ∧ Kept 0 0 w w' := by
  subst hn; exact specGoodStore w r c a ca us ha hok bx hca bn
set_option maxHeartbeats 2000000 in
theorem szCachedS (w : World) (a : Option Addr) (ca : Nat) (us : List Pl.Ck) (left : Int) (ha : CRow w a us) (hok : ∀ k, k < us.length → Pl.CkOk (Pl.ck us k)) (hn : us.length ≤ 9223372036854775807) (l0 : 0 ≤ left) (l1 : left ≤ 2000000) :
    Calls Tryz.prog 25 #[.slice a us.length ca, .int .i64 left] w fun e w' => ∃ L : Int, e = .returned (.int .i64 L) ∧ SzOk us left L ∧ Kept 0 0 w w' := by
  obtain ⟨n, hn9⟩ : ∃ n, n = us.length := ⟨_, rfl⟩
  have HA := hide ha
  have HN := hide hn9
  have HO := hide hok
  rw [← hn9] at hn ⊢
  clear ha hn9 hok
  by_cases hb : left - (n : Int) < 0
  · have ew : IntKind.i64.wrap (left - (n : Int)) = left - (n : Int) := by rw [IntKind.wrap_i64]; omega
    go_enter Tryz.func25, Tryz.ntmps25
    go_wp2_with fail
    go_ret
    exact ⟨-1, rfl, .inl (by decide), Kept.refl _ _ _⟩
  · go_enter Tryz.func25, Tryz.ntmps25
    go_wp2_with fail
    go_loopw [1, 5] (fun v j wr => ∃ (k : Nat) (L : Int), k ≤ n ∧ j = .int .i64 k ∧ v = .int .i64 L ∧ 0 ≤ L ∧ L ≤ left ∧ (∀ i, i < k → ((Pl.ck us i).n : Int) ≤ left) ∧ Kept 0 0 w wr) (fun _ j _ => n - (intOf j).toNat)
    case atStart => exact ⟨0, left - (n : Int), Nat.zero_le _, rfl, rfl, by omega, by omega, fun i hi => absurd hi (Nat.not_lt_zero i), Kept.refl _ _ _⟩
    case round =>
      obtain ⟨k, L, hk, rfl, rfl, q0, q1, hall, hg⟩ := hrel
      have HG := hide hg
      have HL := hide hall
      clear hall
      by_cases hlt : k < n
      · have hlu : k < us.length := by rw [← HN.out]; exact hlt
        obtain ⟨g1, o1, b1, cb1, rfl, p0, p1, p2, p3, pm⟩ := (HA.out.keptS hg).at4 hlu
        have ok1 := HO.out k hlu
        clear hg pm
        by_cases hb2 : L - ((Pl.ck us k).n : Int) < 0
        · have e0 : (if L - ((Pl.ck us k).n : Int) < 0 then (-1 : Int) else L - ((Pl.ck us k).n : Int)) = -1 := if_pos hb2
          go_wp2_with (first | (go_at_call 56; refine (szCached _ (Pl.ck us k) b1 cb1 L ok1.ln q0 (by omega)).mono ?_; rw [e0]; rintro e9 w2 ⟨rfl, k2⟩; have K2 := hide (HG.out.trans k2); clear k2))
          go_ret
          exact ⟨-1, rfl, .inl (by decide), K2.out⟩
        · obtain ⟨M, hM⟩ : ∃ M : Int, M = L - ((Pl.ck us k).n : Int) := ⟨_, rfl⟩
          have e0 : (if L - ((Pl.ck us k).n : Int) < 0 then (-1 : Int) else L - ((Pl.ck us k).n : Int)) = M := (if_neg hb2).trans hM.symm
          have hM0 : ¬ M < 0 := by omega
          have HM := hide hM
          clear hM
          go_wp2_with (first | (go_at_call 56; refine (szCached _ (Pl.ck us k) b1 cb1 L ok1.ln q0 (by omega)).mono ?_; rw [e0]; rintro e9 w2 ⟨rfl, k2⟩; have K2 := hide (HG.out.trans k2); clear k2))
          go_roundw
          case rel => exact ⟨k + 1, M, by omega, by go_num, rfl, by omega, by have := HM.out; omega, snoc_all HL.out (by omega), K2.out⟩
          case measure => simp [intOf]; omega
      · go_wp2_with fail
        go_ret
        exact ⟨L, rfl, .inr ⟨q0, q1, by have := HN.out; omega, fun i hi => HL.out i (by have := HN.out; omega)⟩, HG.out⟩
end Go.Proofs.YtnkapmchfneolaaGreat

namespace Go.Proofs.YtnkapmchfneolaaGreat
open Go.RowKit
set_option linter.unusedVariables false
set_option linter.unusedSimpArgs false
theorem szStore (w : World) (r c : Int) (a : Option Addr) (ca : Nat) (us : List Pl.Ck) (left : Int) (ha : CRow w a us) (hok : ∀ k, k < us.length → Pl.CkOk (Pl.ck us k)) (hn : us.length ≤ 9223372036854775807) (l0 : 0 ≤ left) (l1 : left ≤ 2000000) :
    Calls Tryz.prog 7 #[.agg #[iv r, iv c, .slice a us.length ca], .int .i64 left] w fun e w' => ∃ L : Int, e = .returned (.int .i64 L) ∧ SzOk us left L ∧ Kept 0 0 w w' := by
  obtain ⟨n, hn9⟩ : ∃ n, n = us.length := ⟨_, rfl⟩
  have K0 := hide (kept_alloc w (.cells #[iv r, iv c, .slice a n ca] 24))
  have SZ : Hid (Calls Tryz.prog 25 #[.slice a n ca, .int .i64 left] (w.alloc (.cells #[iv r, iv c, .slice a n ca] 24)) fun e w' => ∃ L : Int, e = .returned (.int .i64 L) ∧ SzOk us left L ∧ Kept 0 0 (w.alloc (.cells #[iv r, iv c, .slice a n ca] 24)) w') := hide (by
    have := szCachedS (w.alloc (.cells #[iv r, iv c, .slice a n ca] 24)) a ca us left (ha.keptS K0.out) hok hn l0 l1
    rw [← hn9] at this
    exact this)
  rw [← hn9]
  clear ha hn9
  go_enter Tryz.func7, Tryz.ntmps7
  go_wp2_with (first | (go_at_call 25; refine SZ.out.mono ?_; rintro e9 w2 ⟨L, rfl, hL, k2⟩; have K2 := hide (K0.out.trans k2); have HL := hide hL; clear k2 hL))
  · go_ret
    exact ⟨-1, rfl, .inl (by decide), K2.out⟩
  · go_ret
    exact ⟨L, rfl, HL.out, K2.out⟩
set_option maxHeartbeats 2000000 in
theorem toStore (w : World) (r c : Int) (a : Option Addr) (ca n : Nat) (us : List Pl.Ck) (hn : n = us.length) (ha : CRow w a us) (bx : n ≤ 2000000) (bn : ∀ k, k < us.length → (Pl.ck us k).n ≤ 2000000) :
    Calls Tryz.prog 9 #[.agg #[iv r, iv c, .slice a n ca]] w fun e w' => ∃ g : Nat, e = .returned (.agg #[iv r, iv c, .slice (some ⟨g, 0, none⟩) n n]) ∧ w.heap.size ≤ g ∧ g < w'.heap.size ∧ COwn w' g us ∧ Kept 0 0 w w' := by
  have K0 := hide (kept_new (kept_new (kept_alloc w (.cells #[iv r, iv c, .slice a n ca] 24)) (.cells #[iv 0, iv 0, .slice none 0 0] 29)) (.cells #[iv r, iv c, .slice none 0 0] 29))
  have P0 := hide (((Blk.new w #[iv r, iv c, .slice a n ca] 24).alloc (.cells #[iv 0, iv 0, .slice none 0 0] 29)).alloc (.cells #[iv r, iv c, .slice none 0 0] 29))
  have R0 := (Blk.new (w.alloc (.cells #[iv r, iv c, .slice a n ca] 24)) #[iv 0, iv 0, .slice none 0 0] 29).alloc (.cells #[iv r, iv c, .slice none 0 0] 29)
  have X0 := Blk.new ((w.alloc (.cells #[iv r, iv c, .slice a n ca] 24)).alloc (.cells #[iv 0, iv 0, .slice none 0 0] 29)) #[iv r, iv c, .slice none 0 0] 29
  simp only [World.size_alloc] at R0 X0
  replace R0 := hide R0
  replace X0 := hide X0
  have TC : Hid (∀ W, CRow W a us → Calls Tryz.prog 28 #[.slice a n ca] W fun e w' => e = .returned (.slice (some ⟨W.heap.size, 0, none⟩) n n) ∧ COwn w' W.heap.size us ∧ W.heap.size < w'.heap.size ∧ Kept 0 0 W w') := hide (fun W h => by
    have := toCachedS W a ca us h (by rw [← hn]; exact bx) bn
    rw [← hn] at this
    exact this)
  have HA := hide (ha.keptS K0.out)
  clear ha hn
  go_enter Tryz.func9, Tryz.ntmps9
  go_wp2_with (first | (go_at_call 28; refine (TC.out _ HA.out).mono ?_; rintro r9 w2 ⟨rfl, o2, s2, k2⟩; have P2 := hide (P0.out.kept0 k2); have R2 := hide (R0.out.kept0 k2); have X2 := hide (X0.out.kept0 k2); have K2 := hide (K0.out.trans k2); have O2 := hide o2; have S2 := hide s2; have p2 := P2.out.all; have r2 := R2.out.all; have fr2 := R2.out.fz; have x2 := X2.out.all; have fx2 := X2.out.fz; have l2 := X2.out.lt; clear k2 o2 s2))
  have S3 := S2.out
  simp only [World.size_alloc] at S3
  have O3 := O2.out
  simp only [World.size_alloc] at O3
  have CS : ∀ {W : World} {g b i : Nat} {v : Value}, COwn W g us → b < g → COwn (W.setCell ⟨b, i, none⟩ v) g us := by
    rintro W g b i v ⟨zs, hl, ho, hc⟩ hb
    refine ⟨zs, hl, ho.setOther _ _ _ (by omega), fun k hk => ?_⟩
    obtain ⟨c0, c1, c3, b2, c2, l1, l2, hm⟩ := hc k hk
    exact ⟨c0, c1, c3, b2, c2, l1, by simpa using l2, VOwn.setOther hm _ _ _ (by omega)⟩
  refine bodyPost_ret (v := .agg #[iv r, iv c, .slice (some ⟨w.heap.size + 1 + 1 + 1, 0, none⟩) n n]) ?_ rfl ⟨w.heap.size + 1 + 1 + 1, rfl, by omega, by simp only [World.size_setCell]; omega, ?_, ?_⟩
  · rw [results_one rfl]; go_simp
  · exact CS (CS (CS (CS O3 (by omega)) (by omega)) (by omega)) (by omega)
  · exact (kept_set (kept_set (kept_set (kept_set K2.out _ _ _ (.inr (by omega))) _ _ _ (.inr (by omega))) _ _ _ (.inr (by omega))) _ _ _ (.inr (by omega)))
theorem eqStore (w : World) (r c : Int) (a b : Option Addr) (ca cb n : Nat) (us : List Pl.Ck) (hn : n = us.length) (ha : CRow w a us) (hb : CRow w b us) (bx : n ≤ 2000000) (bn : ∀ k, k < us.length → (Pl.ck us k).n ≤ 2000000) :
    Calls Tryz.prog 11 #[.agg #[iv r, iv c, .slice a n ca], .agg #[iv r, iv c, .slice b n cb]] w fun e w' => e = .returned (.bool true) ∧ Kept 0 0 w w' := by
  have K0 := hide (kept_new (kept_alloc w (.cells #[iv r, iv c, .slice a n ca] 29)) (.cells #[iv r, iv c, .slice b n cb] 29))
  have TC : Hid (∀ W, CRow W a us → CRow W b us → Calls Tryz.prog 31 #[.slice a n ca, .slice b n cb] W fun e w' => e = .returned (.bool true) ∧ Kept 0 0 W w') := hide (fun W h h2 => by
    have := eqCachedS W a b ca cb us h h2 (by rw [← hn]; exact bx) bn
    rw [← hn] at this
    exact this)
  have HA := hide (ha.keptS K0.out)
  have HB := hide (hb.keptS K0.out)
  clear ha hb hn
  go_enter Tryz.func11, Tryz.ntmps11
  go_wp2_with (first | (go_at_call 31; refine (TC.out _ HA.out HB.out).mono ?_; rintro e9 w2 ⟨rfl, k2⟩; have K2 := hide (K0.out.trans k2); clear k2))
  go_ret
  exact ⟨rfl, K2.out⟩
set_option maxRecDepth 100000 in
set_option maxHeartbeats 8000000 in
theorem lawGoodStore (r c : Int) (a : Option Addr) (ca n : Nat) (us : List Pl.Ck) (w : World) (hn : us.length = n) (ha : CRow w a us) (hok : ∀ k, k < us.length → Pl.CkOk (Pl.ck us k)) (lm : n ≤ 9223372036854775807) :
    Calls Tryz.prog 3 #[.agg #[iv r, iv c, .slice a n ca]] w fun r' w' => r' = .returned (.bool true) ∧ Below w.heap.size w w' := by
  have K0 := hide (kept_alloc w (.cells #[iv r, iv c, .slice a n ca] 24))
  have A0 := hide (Blk.new w #[iv r, iv c, .slice a n ca] 24)
  have SZ : Hid (∀ W, CRow W a us → Calls Tryz.prog 7 #[.agg #[iv r, iv c, .slice a n ca], .int .i64 1048576] W fun e w' => ∃ L : Int, e = .returned (.int .i64 L) ∧ SzOk us 1048576 L ∧ Kept 0 0 W w') := hide (fun W h => by
    have := szStore W r c a ca us 1048576 h hok (by rw [hn]; exact lm) (by decide) (by decide)
    rw [hn] at this
    exact this)
  have HA := hide ha
  have HN := hide hn.symm
  have HO := hide hok
  clear ha hn hok
  obtain ⟨G, hG⟩ : ∃ G, G = Pl.goodS r c us := ⟨_, rfl⟩
  have HG := hide hG
  clear hG
  go_enter Tryz.func3, Tryz.ntmps3
  go_wp2_with fail
  refine (SZ.out _ (HA.out.keptS K0.out)).mono ?_
  rintro e9 w1 ⟨L, rfl, hL, k1⟩
  have K1 := hide (K0.out.trans k1)
  have A1 := hide (A0.out.kept0 k1)
  have p1 := A1.out.all
  clear k1
  by_cases hb : L < 0
  · go_wp2_with fail
    go_ret
    exact ⟨rfl, K1.out.below⟩
  · rcases hL with hL | ⟨q0, q1, q2, q3⟩
    · exact absurd hL hb
    have bx : n ≤ 2000000 := by have := HN.out; omega
    have bn : ∀ k, k < us.length → (Pl.ck us k).n ≤ 2000000 := fun k hk => by have := q3 k hk; omega
    have BN := hide bn
    clear q3 bn
    go_wp2_with fail
    clear p1
    refine (toStore _ r c a ca n us HN.out (HA.out.keptS K1.out) bx BN.out).mono ?_
    rintro e9 w2 ⟨g1, rfl, h1, h2, m2, k2⟩
    have K2 := hide (K1.out.trans k2)
    have A2 := hide (A1.out.kept0 k2)
    have M2 := hide m2
    clear k2 m2 h1 h2
    go_wp2_with fail
    refine (specGoodStoreN _ r c _ n n us HN.out M2.out.row HO.out bx (Nat.le_refl _) BN.out).mono ?_
    rw [← HG.out]
    rintro e9 w3 ⟨rfl, k3⟩
    have K3 := hide (K2.out.trans k3)
    have A3 := hide (A2.out.kept0 k3)
    have p3 := A3.out.all
    clear k3 M2
    go_wp2_with fail
    clear p3
    refine (toStore _ r c a ca n us HN.out (HA.out.keptS K3.out) bx BN.out).mono ?_
    rintro e9 w4 ⟨g2, rfl, h1, h2, m4, k4⟩
    have K4 := hide (kept_new (K3.out.trans k4) (.cells #[iv r, iv c, .slice (some ⟨g2, 0, none⟩) n n] 29))
    have A4 := hide ((A3.out.kept0 k4).alloc (.cells #[iv r, iv c, .slice (some ⟨g2, 0, none⟩) n n] 29))
    have X4 := hide (Blk.new w4 #[iv r, iv c, .slice (some ⟨g2, 0, none⟩) n n] 29)
    have M4 := hide (m4.kept0 (kept_alloc w4 (.cells #[iv r, iv c, .slice (some ⟨g2, 0, none⟩) n n] 29)))
    have p4 := X4.out.all
    clear k4 m4
    go_wp2_with fail
    clear p4
    refine (implGoodStoreN _ r c _ n n us HN.out M4.out.row HO.out bx BN.out).mono ?_
    rw [← HG.out]
    rintro e9 w7 ⟨rfl, k7⟩
    have K7 := hide (K4.out.trans k7)
    have A7 := hide (A4.out.kept0 k7)
    have X7 := hide (X4.out.kept0 k7)
    have M4n := hide (M4.out.kept0 k7)
    clear k7 M4
    have M4 := M4n
    clear M4n
    have qq : (G != G) = false := by cases G <;> rfl
    go_wp2_with fail
    go_region_held3 (fun w' => (∀ i, w'.cell? ⟨w.heap.size, i, none⟩ = ((#[iv r, iv c, .slice a n ca] : Array Value))[i]?) ∧ (∀ i, w'.cell? ⟨w4.heap.size, i, none⟩ = ((#[iv r, iv c, .slice (some ⟨g2, 0, none⟩) n n] : Array Value))[i]?)) (first | with_reducible exact ⟨A9.out.all, X9.out.all⟩ | with_reducible exact ⟨A8.out.all, X8.out.all⟩ | exact ⟨(show Blk _ _ _ _ from A7.out).all, (show Blk _ _ _ _ from X7.out).all⟩) (first | (go_at_call 9; refine (toStore _ r c a ca n us HN.out (HA.out.keptS (kept_drew K7.out)) bx BN.out).mono ?_; rintro e9 w8 ⟨g8, rfl, h81, h82, m8, kd⟩; have k8 := undrewK kd; have K8 := hide (K7.out.trans k8); have A8 := hide (A7.out.kept0 k8); have X8 := hide (X7.out.kept0 k8); have M7 := hide (M4.out.kept0 k8); have M8 := hide m8; clear k8 kd m8) | (go_at_call 11; refine (eqStore _ r c _ _ n n n us HN.out M7.out.row M8.out.row bx BN.out).mono ?_; rintro e9 w9 ⟨rfl, k9⟩; have K9 := hide (K8.out.trans k9); have A9 := hide (A8.out.kept0 k9); have X9 := hide (X8.out.kept0 k9); clear k9))
    go_wp2_with fail
    go_ret
    exact ⟨rfl, K9.out.below⟩
end Go.Proofs.YtnkapmchfneolaaGreat

namespace Go.Proofs.YtnkapmchfneolaaGreat
open Go.RowKit Go.WideShapes Go.ChangeShapes Go.ChangeAt
set_option linter.unusedVariables false
set_option maxRecDepth 100000

theorem Tryz.cellsInt : Tryz.prog.cellsOf 3 = 1 := by kernel_rfl
theorem Tryz.cellsOpnd : Tryz.prog.cellsOf 109 = 3 := by kernel_rfl
theorem Tryz.cellsIns : Tryz.prog.cellsOf 111 = 7 := by kernel_rfl

theorem Addr.add_add_own (a : Addr) (i j : Nat) : (a.add i).add j = a.add (i + j) := by
  unfold Addr.add
  by_cases hi : i = 0 <;> by_cases hj : j = 0 <;> simp [hi, hj, Nat.add_assoc]
section
variable {H : Type} {enc : TypeId × Value → H} {w : World} {base : Nat} {spare : Nat → Bool} {held : Bool}

theorem open_insCells {fuel : Nat} {c0 c1 c2 c3 c4 c5 c6 : Value} {y : DataW H × List MemPlace} (h : DataW.trod enc Tryz.prog w base spare held fuel 111 [c0, c1, c2, c3, c4, c5, c6] = some y) :
    ∃ i0 i1 i2 i3 i4 i5 i6 : Int, (c0 = .int .i64 i0 ∧ c1 = .int .i64 i1 ∧ c2 = .int .i64 i2 ∧ c3 = .int .i64 i3 ∧ c4 = .int .i64 i4 ∧ c5 = .int .i64 i5 ∧ c6 = .int .i64 i6) ∧ (Lit.int .i64 i0).wf = true ∧ (Lit.int .i64 i1).wf = true ∧ (Lit.int .i64 i2).wf = true ∧ (Lit.int .i64 i3).wf = true ∧ (Lit.int .i64 i4).wf = true ∧ (Lit.int .i64 i5).wf = true ∧ (Lit.int .i64 i6).wf = true := by
  obtain ⟨zs, k, _, _, _, hzl, hf⟩ := DataW.trod_struct Tryz.underlying111 h
  obtain ⟨z0, z1, z2, z3, z4, rfl⟩ : ∃ z0 z1 z2 z3 z4, zs = [z0, z1, z2, z3, z4] := by
    match zs, hzl with
    | [z0, z1, z2, z3, z4], _ => exact ⟨z0, z1, z2, z3, z4, rfl⟩
  have t0 := hf 0 _ rfl
  have t1 := hf 1 _ rfl
  have t2 := hf 2 _ rfl
  have t3 := hf 3 _ rfl
  have t4 := hf 4 _ rfl
  simp [Tryz.cellsInt, Tryz.cellsOpnd] at t0 t1 t2 t3 t4
  obtain ⟨ys, k2, _, _, _, hyl, hg⟩ := DataW.trod_struct Tryz.underlying109 t3
  obtain ⟨y0, y1, y2, rfl⟩ : ∃ y0 y1 y2, ys = [y0, y1, y2] := by
    match ys, hyl with
    | [y0, y1, y2], _ => exact ⟨y0, y1, y2, rfl⟩
  have s0 := hg 0 _ rfl
  have s1 := hg 1 _ rfl
  have s2 := hg 2 _ rfl
  simp [Tryz.cellsInt] at s0 s1 s2
  obtain ⟨i0, e0, _, b0⟩ := DataW.trod_int Tryz.underlying3 t0
  obtain ⟨i1, e1, _, b1⟩ := DataW.trod_int Tryz.underlying3 t1
  obtain ⟨i2, e2, _, b2⟩ := DataW.trod_int Tryz.underlying3 t2
  obtain ⟨i3, e3, _, b3⟩ := DataW.trod_int Tryz.underlying3 s0
  obtain ⟨i4, e4, _, b4⟩ := DataW.trod_int Tryz.underlying3 s1
  obtain ⟨i5, e5, _, b5⟩ := DataW.trod_int Tryz.underlying3 s2
  obtain ⟨i6, e6, _, b6⟩ := DataW.trod_int Tryz.underlying3 t4
  simp at e0 e1 e2 e3 e4 e5 e6
  exact ⟨i0, i1, i2, i3, i4, i5, i6, ⟨e0, e1, e2, e3, e4, e5, e6⟩, b0, b1, b2, b3, b4, b5, b6⟩
end
end Go.Proofs.YtnkapmchfneolaaGreat

namespace Go.Proofs.YtnkapmchfneolaaGreat
open Go.RowKit Go.WideShapes Go.ChangeShapes Go.ChangeAt
set_option linter.unusedVariables false
set_option maxRecDepth 100000
theorem Tryz.cellsBool : Tryz.prog.cellsOf 4 = 1 := by kernel_rfl
theorem Tryz.cellsMicro : Tryz.prog.cellsOf 113 = 9 := by kernel_rfl
theorem Tryz.cellsMicros : Tryz.prog.cellsOf 42 = 1 := by kernel_rfl
theorem Tryz.cellsUnit : Tryz.prog.cellsOf 44 = 3 := by kernel_rfl
/-- the numbers of an instruction, in their order -/
def inC (y : Pl.In) : Nat → Int
  | 0 => y.op
  | 1 => y.z
  | 2 => y.r
  | 3 => y.m
  | 4 => y.k
  | 5 => y.e
  | _ => y.s
theorem micros_of {w : World} {x : Addr} {len : Nat} (h : ∀ k, k < len → ∃ r : Pl.In × Int × Bool, (∀ j, j < 7 → w.cell? (x.add (k * 9 + j)) = some (.int .i64 (inC r.1 j)) ∧ (Lit.int .i64 (inC r.1 j)).wf = true) ∧ w.cell? (x.add (k * 9 + 7)) = some (.int .i64 r.2.1) ∧ (Lit.int .i64 r.2.1).wf = true ∧ w.cell? (x.add (k * 9 + 8)) = some (.bool r.2.2)) :
    ∃ (ys ts : List Int) (sk : List Bool), MRow w (some x) len ys ts sk ∧ ys.length = 7 * len ∧ ts.length = len ∧ sk.length = len ∧ Wide ys ∧ Wide ts := by
  obtain ⟨f, hf⟩ : ∃ f : Nat → Pl.In × Int × Bool, ∀ k, k < len → ((∀ j, j < 7 → w.cell? (x.add (k * 9 + j)) = some (.int .i64 (inC (f k).1 j)) ∧ (Lit.int .i64 (inC (f k).1 j)).wf = true) ∧ w.cell? (x.add (k * 9 + 7)) = some (.int .i64 (f k).2.1) ∧ (Lit.int .i64 (f k).2.1).wf = true ∧ w.cell? (x.add (k * 9 + 8)) = some (.bool (f k).2.2)) := by
    have h2 : ∀ k, ∃ r : Pl.In × Int × Bool, k < len → ((∀ j, j < 7 → w.cell? (x.add (k * 9 + j)) = some (.int .i64 (inC r.1 j)) ∧ (Lit.int .i64 (inC r.1 j)).wf = true) ∧ w.cell? (x.add (k * 9 + 7)) = some (.int .i64 r.2.1) ∧ (Lit.int .i64 r.2.1).wf = true ∧ w.cell? (x.add (k * 9 + 8)) = some (.bool r.2.2)) := by
      intro k
      by_cases hk : k < len
      · obtain ⟨r, hr⟩ := h k hk
        exact ⟨r, fun _ => hr⟩
      · exact ⟨(Pl.inNo, 0, false), fun q => absurd q hk⟩
    exact ⟨fun k => Classical.choose (h2 k), fun k hk => Classical.choose_spec (h2 k) hk⟩
  obtain ⟨ys, hys⟩ : ∃ ys : List Int, ys = (List.range (7 * len)).map fun i => inC (f (i / 7)).1 (i % 7) := ⟨_, rfl⟩
  obtain ⟨ts, hts⟩ : ∃ ts : List Int, ts = (List.range len).map fun k => (f k).2.1 := ⟨_, rfl⟩
  obtain ⟨sk, hsk⟩ : ∃ sk : List Bool, sk = (List.range len).map fun k => (f k).2.2 := ⟨_, rfl⟩
  have ey : ∀ i, i < 7 * len → el ys i = inC (f (i / 7)).1 (i % 7) := fun i hi => by rw [hys]; unfold el; rw [List.getElem?_map, List.getElem?_range hi]; rfl
  have et : ∀ i, i < len → el ts i = (f i).2.1 := fun i hi => by rw [hts]; unfold el; rw [List.getElem?_map, List.getElem?_range hi]; rfl
  have es : ∀ i, i < len → bl sk i = (f i).2.2 := fun i hi => by rw [hsk]; unfold bl; rw [List.getElem?_map, List.getElem?_range hi]; rfl
  refine ⟨ys, ts, sk, ?_, by rw [hys]; simp, by rw [hts]; simp, by rw [hsk]; simp, ?_, ?_⟩
  · intro i hi
    rw [miL_len] at hi
    have hk : i / 9 < len := by omega
    obtain ⟨q7, q8, _, q9⟩ := hf (i / 9) hk
    obtain ⟨m7, m8, m9⟩ := miL_at ys ts sk hk
    have hc : w.cell? (x.add i) = some (vl (miL ys ts sk len) i) := by
      rcases Nat.lt_or_ge (i % 9) 7 with hj | hj
      · have e : i / 9 * 9 + i % 9 = i := by omega
        have h1 := (q7 (i % 9) hj).1
        have h2 := m7 (i % 9) hj
        rw [e] at h1 h2
        rw [h1, h2, ey _ (by omega), show (i / 9 * 7 + i % 9) / 7 = i / 9 from by omega, show (i / 9 * 7 + i % 9) % 7 = i % 9 from by omega]
      · rcases (show i % 9 = 7 ∨ i % 9 = 8 by omega) with h7 | h8
        · have e : i / 9 * 9 + 7 = i := by omega
          rw [e] at q8 m8
          rw [q8, m8, et _ hk]
        · have e : i / 9 * 9 + 8 = i := by omega
          rw [e] at q9 m9
          rw [q9, m9, es _ hk]
    obtain ⟨g, off, spot⟩ := x
    have hspot : spot = none := by
      have h0 := (hf 0 (by omega)).1 0 (by decide)
      simpa [Addr.add] using World.cell?_spot h0.1
    subst hspot
    refine ⟨g, off, rfl, ?_⟩
    by_cases h0 : i = 0
    · subst h0; simpa [Addr.add] using hc
    · simpa [Addr.add, h0] using hc
  · intro i hi
    have hi7 : i < 7 * len := by rw [hys] at hi; simpa using hi
    have hq := ((hf (i / 7) (by omega)).1 (i % 7) (by omega)).2
    rw [← ey i hi7] at hq
    have := bounds_i64 hq
    unfold el at this
    exact this
  · intro i hi
    have hi7 : i < len := by rw [hts] at hi; simpa using hi
    have hq := (hf i hi7).2.2.1
    rw [← et i hi7] at hq
    have := bounds_i64 hq
    unfold el at this
    exact this
section
variable {H : Type} {enc : TypeId × Value → H} {w : World} {base : Nat} {spare : Nat → Bool} {held : Bool}
theorem open_MicroRow {fuel : Nat} {v : Value} {y : DataW H × List MemPlace} (h : DataW.trod enc Tryz.prog w base spare held fuel 42 [v] = some y) :
    ∃ (a : Option Addr) (m cap : Nat) (ys ts : List Int) (sk : List Bool), v = .slice a m cap ∧ MRow w a m ys ts sk ∧ ys.length = 7 * m ∧ ts.length = m ∧ sk.length = m ∧ Wide ys ∧ Wide ts ∧ m ≤ maxLen := by
  rcases Go.Deep.open_slice Tryz.underlying42 h with ⟨hc, _⟩ | ⟨x, len, cap, m, n, D, Pl, hc, _, hl, hm, hmm, _, hel⟩
  · simp at hc
    exact ⟨none, 0, 0, [], [], [], hc, fun i hi => absurd hi (by simp [miL]), rfl, rfl, rfl, fun i hi => absurd hi (Nat.not_lt_zero i), fun i hi => absurd hi (Nat.not_lt_zero i), Nat.zero_le _⟩
  · simp at hc
    have hlen : len ≤ m := by rw [hmm]; split <;> omega
    obtain ⟨ys, ts, sk, h1, h2, h3, h4, h5, h6⟩ := micros_of (w := w) (x := x) (len := len) (by
      intro k hk
      obtain ⟨cs', h1, h2⟩ := hel k (by omega)
      rw [Tryz.cellsMicro] at h1
      obtain ⟨_, hl5, hcs⟩ := World.cells?_some h1
      obtain ⟨c0, c1, c2, c3, c4, c5, c6, c7, c8, rfl⟩ : ∃ c0 c1 c2 c3 c4 c5 c6 c7 c8, cs' = [c0, c1, c2, c3, c4, c5, c6, c7, c8] := by
        match cs', hl5 with
        | [c0, c1, c2, c3, c4, c5, c6, c7, c8], _ => exact ⟨c0, c1, c2, c3, c4, c5, c6, c7, c8, rfl⟩
      have hget : ∀ j, j < 9 → w.cell? (x.add (k * 9 + j)) = [c0, c1, c2, c3, c4, c5, c6, c7, c8][j]? := fun j hj => by
        have h9 := hcs j (by omega)
        rw [Addr.add_add_own] at h9
        exact h9
      obtain ⟨zs, k2, _, _, _, hzl, hf⟩ := DataW.trod_struct Tryz.underlying113 h2
      obtain ⟨z0, z1, z2, rfl⟩ : ∃ z0 z1 z2, zs = [z0, z1, z2] := by
        match zs, hzl with
        | [z0, z1, z2], _ => exact ⟨z0, z1, z2, rfl⟩
      have t0 := hf 0 _ rfl
      have t1 := hf 1 _ rfl
      have t2 := hf 2 _ rfl
      simp [Tryz.cellsInt, Tryz.cellsIns, Tryz.cellsBool] at t0 t1 t2
      obtain ⟨n0, n1, n2, n3, n4, n5, n6, ⟨e0, e1, e2, e3, e4, e5, e6⟩, b0, b1, b2, b3, b4, b5, b6⟩ := open_insCells t0
      obtain ⟨n7, e7, _, b7⟩ := DataW.trod_int Tryz.underlying3 t1
      obtain ⟨n8, e8, _⟩ := DataW.trod_bool Tryz.underlying4 t2
      simp at e7 e8
      subst e0 e1 e2 e3 e4 e5 e6 e7 e8
      refine ⟨(⟨n0, n1, n2, n3, n4, n5, n6⟩, n7, n8), ?_, hget 7 (by decide), b7, hget 8 (by decide)⟩
      intro j hj
      obtain rfl | rfl | rfl | rfl | rfl | rfl | rfl : j = 0 ∨ j = 1 ∨ j = 2 ∨ j = 3 ∨ j = 4 ∨ j = 5 ∨ j = 6 := by omega
      · exact ⟨hget 0 (by decide), b0⟩
      · exact ⟨hget 1 (by decide), b1⟩
      · exact ⟨hget 2 (by decide), b2⟩
      · exact ⟨hget 3 (by decide), b3⟩
      · exact ⟨hget 4 (by decide), b4⟩
      · exact ⟨hget 5 (by decide), b5⟩
      · exact ⟨hget 6 (by decide), b6⟩)
    exact ⟨some x, len, cap, ys, ts, sk, hc, h1, h2, h3, h4, h5, h6, by omega⟩
end
end Go.Proofs.YtnkapmchfneolaaGreat

namespace Go.Proofs.YtnkapmchfneolaaGreat
open Go.RowKit Go.WideShapes Go.ChangeShapes Go.ChangeAt
set_option linter.unusedVariables false
set_option maxRecDepth 100000
theorem Tryz.cellsCached : Tryz.prog.cellsOf 80 = 4 := by kernel_rfl
theorem Tryz.cellsCacheds : Tryz.prog.cellsOf 22 = 1 := by kernel_rfl
theorem Tryz.cellsStore : Tryz.prog.cellsOf 24 = 3 := by kernel_rfl
theorem cell_add {w : World} {g off i : Nat} {v : Value} (h : w.cell? ((⟨g, off, none⟩ : Addr).add i) = some v) : w.cell? ⟨g, off + i, none⟩ = some v := by
  by_cases h0 : i = 0
  · subst h0; simpa [Addr.add] using h
  · simpa [Addr.add, h0] using h
theorem cacheds_of {w : World} {x : Addr} {len : Nat} (h : ∀ k, k < len → ∃ r : Pl.Ck, Pl.CkOk r ∧ w.cell? (x.add (k * 4)) = some (iv r.f) ∧ w.cell? (x.add (k * 4 + 1)) = some (iv r.t) ∧ (∃ (b : Option Addr) (cb : Nat), w.cell? (x.add (k * 4 + 2)) = some (.slice b r.n cb) ∧ MRow w b r.n r.ys r.ts r.sk) ∧ w.cell? (x.add (k * 4 + 3)) = some (iv r.u)) :
    ∃ us : List Pl.Ck, us.length = len ∧ CRow w (some x) us ∧ ∀ k, k < us.length → Pl.CkOk (Pl.ck us k) := by
  obtain ⟨f, hf⟩ : ∃ f : Nat → Pl.Ck, ∀ k, k < len → (Pl.CkOk (f k) ∧ w.cell? (x.add (k * 4)) = some (iv (f k).f) ∧ w.cell? (x.add (k * 4 + 1)) = some (iv (f k).t) ∧ (∃ (b : Option Addr) (cb : Nat), w.cell? (x.add (k * 4 + 2)) = some (.slice b (f k).n cb) ∧ MRow w b (f k).n (f k).ys (f k).ts (f k).sk) ∧ w.cell? (x.add (k * 4 + 3)) = some (iv (f k).u)) := by
    refine ⟨fun k => if hk : k < len then Classical.choose (h k hk) else Pl.noCk, fun k hk => ?_⟩
    simp only [dif_pos hk]
    exact Classical.choose_spec (h k hk)
  have e : ∀ k, k < len → Pl.ck ((List.range len).map f) k = f k := fun k hk => by unfold Pl.ck; rw [List.getElem?_map, List.getElem?_range hk]; rfl
  refine ⟨(List.range len).map f, by simp, ?_, ?_⟩
  · intro k hk
    have hk2 : k < len := by simpa using hk
    rw [e k hk2]
    obtain ⟨_, h0, h1, ⟨b, cb, h2, hm⟩, h3⟩ := hf k hk2
    obtain ⟨g, off, spot⟩ := x
    have hspot : spot = none := by simpa [Addr.add] using World.cell?_spot (hf 0 (by omega)).2.1
    subst hspot
    exact ⟨g, off, rfl, cell_add h0, cell_add h1, ⟨b, cb, cell_add h2, hm⟩, cell_add h3⟩
  · intro k hk
    have hk2 : k < len := by simpa using hk
    rw [e k hk2]
    exact (hf k hk2).1
section
variable {H : Type} {enc : TypeId × Value → H} {w : World} {base : Nat} {spare : Nat → Bool} {held : Bool}
theorem open_CachedRow {fuel : Nat} {v : Value} {y : DataW H × List MemPlace} (h : DataW.trod enc Tryz.prog w base spare held fuel 22 [v] = some y) :
    ∃ (a : Option Addr) (m cap : Nat) (us : List Pl.Ck), v = .slice a m cap ∧ us.length = m ∧ CRow w a us ∧ (∀ k, k < us.length → Pl.CkOk (Pl.ck us k)) ∧ m ≤ maxLen := by
  rcases Go.Deep.open_slice Tryz.underlying22 h with ⟨hc, _⟩ | ⟨x, len, cap, m, n, D, Pl, hc, _, hl, hm, hmm, _, hel⟩
  · simp at hc
    exact ⟨none, 0, 0, [], hc, rfl, fun i hi => absurd hi (Nat.not_lt_zero i), fun i hi => absurd hi (Nat.not_lt_zero i), Nat.zero_le _⟩
  · simp at hc
    have hlen : len ≤ m := by rw [hmm]; split <;> omega
    obtain ⟨us, h1, h2, h3⟩ := cacheds_of (w := w) (x := x) (len := len) (by
      intro k hk
      obtain ⟨cs', h1, h2⟩ := hel k (by omega)
      rw [Tryz.cellsCached] at h1
      obtain ⟨_, hl5, hcs⟩ := World.cells?_some h1
      obtain ⟨c0, c1, c2, c3, rfl⟩ : ∃ c0 c1 c2 c3, cs' = [c0, c1, c2, c3] := by
        match cs', hl5 with
        | [c0, c1, c2, c3], _ => exact ⟨c0, c1, c2, c3, rfl⟩
      have hget : ∀ j, j < 4 → w.cell? (x.add (k * 4 + j)) = [c0, c1, c2, c3][j]? := fun j hj => by
        have h9 := hcs j (by omega)
        rw [Addr.add_add_own] at h9
        exact h9
      obtain ⟨zs, k2, _, _, _, hzl, hf⟩ := DataW.trod_struct Tryz.underlying80 h2
      obtain ⟨z0, z1, rfl⟩ : ∃ z0 z1, zs = [z0, z1] := by
        match zs, hzl with
        | [z0, z1], _ => exact ⟨z0, z1, rfl⟩
      have t0 := hf 0 _ rfl
      have t1 := hf 1 _ rfl
      simp [Tryz.cellsInt, Tryz.cellsUnit] at t0 t1
      obtain ⟨ws, k3, _, _, _, hwl, hg⟩ := DataW.trod_struct Tryz.underlying44 t0
      obtain ⟨w0, w1, w2, rfl⟩ : ∃ w0 w1 w2, ws = [w0, w1, w2] := by
        match ws, hwl with
        | [w0, w1, w2], _ => exact ⟨w0, w1, w2, rfl⟩
      have s0 := hg 0 _ rfl
      have s1 := hg 1 _ rfl
      have s2 := hg 2 _ rfl
      simp [Tryz.cellsInt, Tryz.cellsMicros] at s0 s1 s2
      obtain ⟨i0, q0, _, b0⟩ := DataW.trod_int Tryz.underlying3 s0
      obtain ⟨i1, q1, _, b1⟩ := DataW.trod_int Tryz.underlying3 s1
      obtain ⟨a2, m2, cc2, y2, tt2, sk2, q2, hm, ly, lt, ls, wy, wt, lm⟩ := open_MicroRow s2
      obtain ⟨i3, q3, _, b3⟩ := DataW.trod_int Tryz.underlying3 t1
      simp at q0 q1 q3
      subst q0 q1 q2 q3
      exact ⟨⟨i0, i1, m2, y2, tt2, sk2, i3⟩, ⟨ly, lt, ls, wy, wt, by unfold maxLen at lm; simp only; omega, bounds_i64 b0, bounds_i64 b1, bounds_i64 b3⟩, hget 0 (by decide), hget 1 (by decide), ⟨a2, cc2, hget 2 (by decide), hm⟩, hget 3 (by decide)⟩)
    exact ⟨some x, len, cap, us, hc, h1, h2, h3, by omega⟩
theorem open_Store {r : Reach} {b0 : Nat} {v : Value} {d : DataW H} {p : List MemPlace} (hv : Value.okWide Tryz.prog w r b0 24 v) (h : DataW.Trod enc Tryz.prog w base spare held 24 v d p) :
    ∃ (i0 i1 : Int) (a2 : Option Addr) (m2 c2 : Nat) (u2 : List Pl.Ck), v = .agg #[.int .i64 i0, .int .i64 i1, .slice a2 m2 c2] ∧ (Lit.int .i64 i0).wf = true ∧ (Lit.int .i64 i1).wf = true ∧ (u2.length = m2 ∧ CRow w a2 u2 ∧ (∀ k, k < u2.length → Pl.CkOk (Pl.ck u2 k)) ∧ m2 ≤ maxLen) := by
  obtain ⟨cs, rfl, hsz⟩ := okWide_struct Tryz.underlying24 hv
  rw [Tryz.cellsStore] at hsz
  obtain ⟨cl⟩ := cs
  obtain ⟨c_0, c_1, c_2, rfl⟩ : ∃ c_0 c_1 c_2, cl = [c_0, c_1, c_2] := by
    match cl, hsz with
    | [c_0, c_1, c_2], _ => exact ⟨c_0, c_1, c_2, rfl⟩
  obtain ⟨fuel, hf0⟩ := h
  obtain ⟨zs, k, _, _, _, hzl, hf⟩ := DataW.trod_struct Tryz.underlying24 hf0
  obtain ⟨z_0, z_1, z_2, rfl⟩ : ∃ z_0 z_1 z_2, zs = [z_0, z_1, z_2] := by
    match zs, hzl with
    | [z_0, z_1, z_2], _ => exact ⟨z_0, z_1, z_2, rfl⟩
  have t0 := hf 0 _ rfl
  have t1 := hf 1 _ rfl
  have t2 := hf 2 _ rfl
  simp [Value.cells, Tryz.cellsInt, Tryz.cellsCacheds] at t0 t1 t2
  obtain ⟨i0, q0, _, w0⟩ := DataW.trod_int Tryz.underlying3 t0
  obtain ⟨i1, q1, _, w1⟩ := DataW.trod_int Tryz.underlying3 t1
  obtain ⟨a2, m2, c2, u2, q2, hh⟩ := open_CachedRow t2
  simp at q0 q1
  subst q0 q1 q2
  exact ⟨i0, i1, a2, m2, c2, u2, rfl, w0, w1, hh⟩
end
end Go.Proofs.YtnkapmchfneolaaGreat

