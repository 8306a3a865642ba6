/- What the models of PeekWord and SameMemory answer, for every argument. -/
import Derived.Test.YtbkafdphagmgpaaSpecBus
namespace Go.Proofs.Ytbkafdphagmgpaa
open Go.RowKit
set_option linter.unusedVariables false

namespace Pl
def peekOk (xs ys : List Int) (m : Nat) (a : Int) : Bool := goodBus xs ys m && (addr a && decide (code 1 2 a = 0))
def peekV (xs ys : List Int) (m : Nat) (a : Int) : Int := if peekOk xs ys m a = true then el xs a.toNat * 256 + el xs (a.toNat + 1) else 0
theorem goodBus_ok {xs ys : List Int} {m : Nat} (h : goodBus xs ys m = true) : xs.length = 512 ∧ bytesOk xs = true ∧ m ≤ 400 ∧ accsOk ys m = true := by
  simp only [goodBus, Bool.and_eq_true, decide_eq_true_eq] at h
  exact ⟨h.2.1, h.2.2.1, h.2.2.2, h.1⟩
theorem code_low {k s a : Int} (h : code k s a = 0) (a0 : 0 ≤ a) : a ≤ 511 ∧ a + s - 1 ≤ 511 := by
  unfold code at h
  split at h
  · cases h
  · split at h
    · cases h
    · rename_i h1 h2
      have k1 : ¬ kind a = 1 := fun e => h2 (.inl e)
      have k2 : ¬ kind (a + s - 1) = 1 := fun e => h2 (.inr e)
      constructor
      · refine Decidable.byContradiction fun q => k1 ?_
        have : 512 ≤ a := by omega
        simp [kind, this]
      · refine Decidable.byContradiction fun q => k2 ?_
        have : 512 ≤ a + s - 1 := by omega
        simp [kind, this]
theorem peek_ok {xs ys : List Int} {m : Nat} {a : Int} (h : peekOk xs ys m a = true) : ∃ i : Nat, a = (i : Int) ∧ i + 1 < xs.length ∧ (0 ≤ el xs i ∧ el xs i ≤ 255) ∧ (0 ≤ el xs (i + 1) ∧ el xs (i + 1) ≤ 255) ∧ peekV xs ys m a = el xs i * 256 + el xs (i + 1) := by
  have hv : peekV xs ys m a = el xs a.toNat * 256 + el xs (a.toNat + 1) := by simp [peekV, h]
  simp only [peekOk, Bool.and_eq_true, decide_eq_true_eq] at h
  obtain ⟨hg, ha, hc⟩ := h
  obtain ⟨l, hb, _, _⟩ := goodBus_ok hg
  simp [addr] at ha
  have := code_low hc ha.1
  refine ⟨a.toNat, by omega, by omega, bytesOk_at hb _ (by omega), bytesOk_at hb _ (by omega), hv⟩
theorem word_or {h l : Int} (h0 : 0 ≤ h) (h1 : h ≤ 255) (l0 : 0 ≤ l) (l1 : l ≤ 255) : bits .or .i64 (h * 256) l = h * 256 + l :=
  bits_join .i64 62 (by decide) wraps_i64 8 (h * 256) l (by omega) (by omega) (by omega) (by omega) (by omega) (by omega)
end Pl

set_option maxHeartbeats 1000000 in
theorem l4Code (k s a : Int) (w : World) (s0 : 1 ≤ s) (s1 : s ≤ 2) (a0 : 0 ≤ a) (a1 : a ≤ 65535) :
    Calls Try.prog 53 #[.int .i64 k, .int .i64 s, .int .i64 a] w fun e w' => e = .returned (.int .i64 (Pl.code k s a)) ∧ w' = w := by
  have hA := Pl.and1 a
  have G : Hid (Pl.code k s a = if ((s == 2) && (a % 2 == 1)) then 2 else if ((Pl.kind a == 1) || (Pl.kind (a + s - 1) == 1)) then 1 else if ((k == 2) && ((Pl.kind a == 3) || (Pl.kind (a + s - 1) == 3))) then 3 else 0) := hide (by
    unfold Pl.code; simp only [Bool.and_eq_true, Bool.or_eq_true, beq_iff_eq])
  cases h1 : (s == 2)
  · cases h3 : (Pl.kind a == 1)
    · cases h4 : (Pl.kind (a + s - 1) == 1)
      · cases h5 : (k == 2)
        · rw [h1, h3, h4, h5] at G
          go_enter Try.func53, Try.ntmps53
          go_wp2_with (go_at_call 59; refine (l4Kind _ _).mono ?_; rintro e w' ⟨rfl, rfl⟩)
          go_ret
          exact ⟨rI (by rw [G.out]; simp), rfl⟩
        · cases h6 : (Pl.kind a == 3)
          · cases h7 : (Pl.kind (a + s - 1) == 3)
            · rw [h1, h3, h4, h5, h6, h7] at G
              go_enter Try.func53, Try.ntmps53
              go_wp2_with (go_at_call 59; refine (l4Kind _ _).mono ?_; rintro e w' ⟨rfl, rfl⟩)
              go_ret
              exact ⟨rI (by rw [G.out]; simp), rfl⟩
            · rw [h1, h3, h4, h5, h6, h7] at G
              go_enter Try.func53, Try.ntmps53
              go_wp2_with (go_at_call 59; refine (l4Kind _ _).mono ?_; rintro e w' ⟨rfl, rfl⟩)
              go_ret
              exact ⟨rI (by rw [G.out]; simp), rfl⟩
          · rw [h1, h3, h4, h5, h6] at G
            go_enter Try.func53, Try.ntmps53
            go_wp2_with (go_at_call 59; refine (l4Kind _ _).mono ?_; rintro e w' ⟨rfl, rfl⟩)
            go_ret
            exact ⟨rI (by rw [G.out]; simp), rfl⟩
      · rw [h1, h3, h4] at G
        go_enter Try.func53, Try.ntmps53
        go_wp2_with (go_at_call 59; refine (l4Kind _ _).mono ?_; rintro e w' ⟨rfl, rfl⟩)
        go_ret
        exact ⟨rI (by rw [G.out]; simp), rfl⟩
    · rw [h1, h3] at G
      go_enter Try.func53, Try.ntmps53
      go_wp2_with (go_at_call 59; refine (l4Kind _ _).mono ?_; rintro e w' ⟨rfl, rfl⟩)
      go_ret
      exact ⟨rI (by rw [G.out]; simp), rfl⟩
  · cases h2 : (a % 2 == 1)
    · cases h3 : (Pl.kind a == 1)
      · cases h4 : (Pl.kind (a + s - 1) == 1)
        · cases h5 : (k == 2)
          · rw [h1, h2, h3, h4, h5] at G
            go_enter Try.func53, Try.ntmps53
            go_wp2_with (go_at_call 59; refine (l4Kind _ _).mono ?_; rintro e w' ⟨rfl, rfl⟩)
            go_ret
            exact ⟨rI (by rw [G.out]; simp), rfl⟩
          · cases h6 : (Pl.kind a == 3)
            · cases h7 : (Pl.kind (a + s - 1) == 3)
              · rw [h1, h2, h3, h4, h5, h6, h7] at G
                go_enter Try.func53, Try.ntmps53
                go_wp2_with (go_at_call 59; refine (l4Kind _ _).mono ?_; rintro e w' ⟨rfl, rfl⟩)
                go_ret
                exact ⟨rI (by rw [G.out]; simp), rfl⟩
              · rw [h1, h2, h3, h4, h5, h6, h7] at G
                go_enter Try.func53, Try.ntmps53
                go_wp2_with (go_at_call 59; refine (l4Kind _ _).mono ?_; rintro e w' ⟨rfl, rfl⟩)
                go_ret
                exact ⟨rI (by rw [G.out]; simp), rfl⟩
            · rw [h1, h2, h3, h4, h5, h6] at G
              go_enter Try.func53, Try.ntmps53
              go_wp2_with (go_at_call 59; refine (l4Kind _ _).mono ?_; rintro e w' ⟨rfl, rfl⟩)
              go_ret
              exact ⟨rI (by rw [G.out]; simp), rfl⟩
        · rw [h1, h2, h3, h4] at G
          go_enter Try.func53, Try.ntmps53
          go_wp2_with (go_at_call 59; refine (l4Kind _ _).mono ?_; rintro e w' ⟨rfl, rfl⟩)
          go_ret
          exact ⟨rI (by rw [G.out]; simp), rfl⟩
      · rw [h1, h2, h3] at G
        go_enter Try.func53, Try.ntmps53
        go_wp2_with (go_at_call 59; refine (l4Kind _ _).mono ?_; rintro e w' ⟨rfl, rfl⟩)
        go_ret
        exact ⟨rI (by rw [G.out]; simp), rfl⟩
    · rw [h1, h2] at G
      go_enter Try.func53, Try.ntmps53
      go_wp2_with (go_at_call 59; refine (l4Kind _ _).mono ?_; rintro e w' ⟨rfl, rfl⟩)
      go_ret
      exact ⟨rI (by rw [G.out]; simp), rfl⟩

theorem specPeekWord (w : World) (a b : Option Addr) (ca cb m : Nat) (xs ys : List Int) (q : Int) (ha : IRow w a xs) (hb : IRow w b ys) (lx : xs.length ≤ 2000000) (ly : ys.length = 5 * m) (bm : m ≤ 2000000) :
    Calls Try.prog 24 #[.agg #[.slice a xs.length ca, .slice b m cb], .int .i64 q] w fun e w' => e = .returned (.tuple #[.int .i64 (Pl.peekV xs ys m q), .bool (Pl.peekOk xs ys m q)]) ∧ Kept 0 0 w w' := by
  have HK0 := hide (kept_alloc w (.cells #[.slice a xs.length ca, .slice b m cb] 25))
  have HW := hide (Blk.new w #[.slice a xs.length ca, .slice b m cb] 25)
  have HA := hide ha
  have HB := hide hb
  have HY := hide ly
  clear ha hb ly
  cases h1 : Pl.goodBus xs ys m
  · have K : Hid (Pl.peekOk xs ys m q = false ∧ Pl.peekV xs ys m q = 0) := hide (by simp [Pl.peekV, Pl.peekOk, h1])
    go_enter Try.func24, Try.ntmps24
    go_wp2_with fail
    refine (specGoodBus _ a b ca cb m xs ys (HA.out.keptS HK0.out) (HB.out.keptS HK0.out) lx HY.out bm).mono ?_
    rintro e w1 ⟨rfl, k1⟩
    rw [h1]
    have HK1 := hide (HK0.out.trans k1)
    clear k1
    go_wp2_with fail
    go_ret2
    exact ⟨rIB K.out.2.symm K.out.1.symm, HK1.out⟩
  · cases h2 : Pl.addr q
    · have K : Hid (Pl.peekOk xs ys m q = false ∧ Pl.peekV xs ys m q = 0) := hide (by simp [Pl.peekV, Pl.peekOk, h2])
      go_enter Try.func24, Try.ntmps24
      go_wp2_with fail
      refine (specGoodBus _ a b ca cb m xs ys (HA.out.keptS HK0.out) (HB.out.keptS HK0.out) lx HY.out bm).mono ?_
      rintro e w1 ⟨rfl, k1⟩
      rw [h1]
      have HK1 := hide (HK0.out.trans k1)
      clear k1
      go_wp2_with fail
      refine (l4Addr _ _).mono ?_
      rintro e w' ⟨rfl, rfl⟩
      rw [h2]
      go_wp2_with fail
      go_ret2
      exact ⟨rIB K.out.2.symm K.out.1.symm, HK1.out⟩
    · have hq : 0 ≤ q ∧ q ≤ 65535 := by simpa [Pl.addr] using h2
      by_cases h3 : Pl.code 1 2 q = 0
      · have kp : Pl.peekOk xs ys m q = true := by simp [Pl.peekOk, h1, h2, h3]
        obtain ⟨i, rfl, hi, hx0, hx1, hv⟩ := Pl.peek_ok kp
        have K : Hid (Pl.peekOk xs ys m (i : Int) = true ∧ Pl.peekV xs ys m (i : Int) = el xs i * 256 + el xs (i + 1)) := hide ⟨kp, hv⟩
        have hor := Pl.word_or hx0.1 hx0.2 hx1.1 hx1.2
        have h3b : (Pl.code 1 2 (i : Int) != 0) = false := by simpa using h3
        clear kp hv h3
        go_enter Try.func24, Try.ntmps24
        go_wp2_with fail
        refine (specGoodBus _ a b ca cb m xs ys (HA.out.keptS HK0.out) (HB.out.keptS HK0.out) lx HY.out bm).mono ?_
        rintro e w1 ⟨rfl, k1⟩
        rw [h1]
        have HK1 := hide (HK0.out.trans k1)
        have B := HW.out.kept0 k1
        have c0 := B.cell (i := 0) rfl
        clear k1 B
        obtain ⟨g, off, rfl, p0⟩ := (HA.out.keptS HK1.out) i (by omega)
        obtain ⟨g', off', e', p1⟩ := (HA.out.keptS HK1.out) (i + 1) (by omega)
        cases e'
        rw [show xs[i]?.getD 0 = el xs i from rfl] at p0
        rw [show xs[i + 1]?.getD 0 = el xs (i + 1) from rfl] at p1
        go_wp2_with fail
        refine (l4Addr _ _).mono ?_
        rintro e w' ⟨rfl, rfl⟩
        rw [h2]
        go_wp2_with fail
        refine (l4Code 1 2 (i : Int) _ (by decide) (by decide) hq.1 hq.2).mono ?_
        rintro e w' ⟨rfl, rfl⟩
        go_wp2_with fail
        obtain ⟨x00, x01⟩ := hx0
        obtain ⟨x10, x11⟩ := hx1
        have hi2 : ((i : Int) + 1) < (xs.length : Int) := by omega
        have hi1 : (i : Int) < (xs.length : Int) := by omega
        go_region
        go_wp2
        go_ret2
        exact ⟨rIB K.out.2.symm K.out.1.symm, kept_drew HK1.out⟩
      · have K : Hid (Pl.peekOk xs ys m q = false ∧ Pl.peekV xs ys m q = 0) := hide (by simp [Pl.peekV, Pl.peekOk, h3])
        have h3b : (Pl.code 1 2 q != 0) = true := by simpa using h3
        clear h3
        go_enter Try.func24, Try.ntmps24
        go_wp2_with fail
        refine (specGoodBus _ a b ca cb m xs ys (HA.out.keptS HK0.out) (HB.out.keptS HK0.out) lx HY.out bm).mono ?_
        rintro e w1 ⟨rfl, k1⟩
        rw [h1]
        have HK1 := hide (HK0.out.trans k1)
        clear k1
        go_wp2_with fail
        refine (l4Addr _ _).mono ?_
        rintro e w' ⟨rfl, rfl⟩
        rw [h2]
        go_wp2_with fail
        refine (l4Code 1 2 q _ (by decide) (by decide) hq.1 hq.2).mono ?_
        rintro e w' ⟨rfl, rfl⟩
        go_wp2_with fail
        go_ret2
        exact ⟨rIB K.out.2.symm K.out.1.symm, HK1.out⟩

theorem l1Same (w : World) (a b : Option Addr) (ca cb : Nat) (xs ys : List Int) (ha : IRow w a xs) (hb : IRow w b ys) (lx : xs.length ≤ 2000000) (ly : ys.length ≤ 2000000) :
    Calls Try.prog 62 #[.slice a xs.length ca, .slice b ys.length cb] w fun e w' => e = .returned (.bool (decide (xs = ys))) ∧ w.grownBy w' none := by
  by_cases hl : xs.length = ys.length
  · have kl : (((xs.length : Nat) : Int) != ((ys.length : Nat) : Int)) = false := by simp [hl]
    have HL : Hid (xs.length = ys.length) := hl
    clear hl
    go_enter Try.func62, Try.ntmps62
    go_wp2
    go_loopw [5, 13] (fun i j wr => ∃ k : Nat, k ≤ xs.length ∧ j = .int .i64 k ∧ (∀ i, i < k → xs[i]?.getD 0 = ys[i]?.getD 0) ∧ w.grownBy wr none) (fun _ j _ => xs.length - (intOf j).toNat)
    case atStart => exact ⟨0, Nat.zero_le _, rfl, fun i hi => absurd hi (Nat.not_lt_zero i), World.grownBy.refl _ _⟩
    case round =>
      obtain ⟨k, hk, rfl, heq, hg⟩ := hrel
      by_cases hlt : k < xs.length
      · obtain ⟨g1, o1, rfl, hc1⟩ := ha.kept hg k hlt
        obtain ⟨g2, o2, rfl, hc2⟩ := hb.kept hg k (by have := HL.out; omega)
        have hlt2 : k < ys.length := by have := HL.out; omega
        have HE : Hid (∀ i, i < k → xs[i]?.getD 0 = ys[i]?.getD 0) := heq
        clear heq ha hb
        by_cases he : xs[k] = ys[k]
        · have ke : (xs[k] != ys[k]) = false := by simpa using he
          have HK : Hid (xs[k] = ys[k]) := he
          clear he
          go_wp2
          go_region
          go_wp2
          go_roundw
          case rel => exact ⟨k + 1, by omega, by go_num, snoc_all HE.out (by simpa [hlt, hlt2] using HK.out), grownBy_drew hg⟩
          case measure => simp [intOf]; omega
        · have ke : (xs[k] != ys[k]) = true := by simpa using he
          have HK : Hid (¬ xs[k] = ys[k]) := he
          clear he
          go_wp2
          go_region
          go_wp2
          go_ret
          exact ⟨rB (by symm; rw [decide_eq_false_iff_not]; intro e; apply HK.out; simp [e]), grownBy_drew hg⟩
      · have HE : Hid (∀ i, i < k → xs[i]?.getD 0 = ys[i]?.getD 0) := heq
        clear heq
        go_wp2
        go_ret
        exact ⟨rB (by symm; rw [decide_eq_true_iff]; exact ext_of HL.out (fun i hi => HE.out i (by omega))), hg⟩
  · have kl : (((xs.length : Nat) : Int) != ((ys.length : Nat) : Int)) = true := by rw [bne_iff_ne]; omega
    have HL : Hid (¬ xs.length = ys.length) := hl
    clear hl
    go_enter Try.func62, Try.ntmps62
    go_wp2
    go_ret
    exact ⟨rB (by symm; rw [decide_eq_false_iff_not]; intro e; apply HL.out; rw [e]), World.grownBy.refl _ _⟩

theorem specSameMemory (w : World) (a b c d : Option Addr) (ca cb cc cd m n : Nat) (xs ys us vs : List Int) (ha : IRow w a xs) (hb : IRow w b ys) (hc : IRow w c us) (hd : IRow w d vs) (lx : xs.length ≤ 2000000) (ly : ys.length = 5 * m) (bm : m ≤ 2000000) (lu : us.length ≤ 2000000) (lv : vs.length = 5 * n) (bn : n ≤ 2000000) :
    Calls Try.prog 33 #[.agg #[.slice a xs.length ca, .slice b m cb], .agg #[.slice c us.length cc, .slice d n cd]] w fun e w' => e = .returned (.tuple #[.bool ((Pl.goodBus xs ys m && Pl.goodBus us vs n) && decide (xs = us)), .bool (Pl.goodBus xs ys m && Pl.goodBus us vs n)]) ∧ Kept 0 0 w w' := by
  have HK0 := hide (kept_new (kept_alloc w (.cells #[.slice a xs.length ca, .slice b m cb] 25)) (.cells #[.slice c us.length cc, .slice d n cd] 25))
  have HW0 := hide ((Blk.new w #[.slice a xs.length ca, .slice b m cb] 25).alloc (.cells #[.slice c us.length cc, .slice d n cd] 25))
  have HW1 := Blk.new (w.alloc (.cells #[.slice a xs.length ca, .slice b m cb] 25)) #[.slice c us.length cc, .slice d n cd] 25
  simp only [World.size_alloc] at HW1
  replace HW1 := hide HW1
  have HA := hide ha
  have HB := hide hb
  have HC := hide hc
  have HD := hide hd
  have HY := hide ly
  have HV := hide lv
  clear ha hb hc hd ly lv
  cases h1 : Pl.goodBus xs ys m
  · go_enter Try.func33, Try.ntmps33
    go_wp2_with fail
    refine (specGoodBus _ a b ca cb m xs ys (HA.out.keptS HK0.out) (HB.out.keptS HK0.out) lx HY.out bm).mono ?_
    rintro e w1 ⟨rfl, k1⟩
    rw [h1]
    have HK1 := hide (HK0.out.trans k1)
    clear k1
    go_wp2_with fail
    go_ret2
    exact ⟨rfl, HK1.out⟩
  · cases h2 : Pl.goodBus us vs n
    · go_enter Try.func33, Try.ntmps33
      go_wp2_with fail
      refine (specGoodBus _ a b ca cb m xs ys (HA.out.keptS HK0.out) (HB.out.keptS HK0.out) lx HY.out bm).mono ?_
      rintro e w1 ⟨rfl, k1⟩
      rw [h1]
      have HK1 := hide (HK0.out.trans k1)
      have B := HW1.out.kept0 k1
      have c0 := B.cell (i := 0) rfl
      have c1 := B.cell (i := 1) rfl
      clear k1 B
      go_wp2_with fail
      refine (specGoodBus _ c d cc cd n us vs (HC.out.keptS HK1.out) (HD.out.keptS HK1.out) lu HV.out bn).mono ?_
      rintro e w2 ⟨rfl, k2⟩
      rw [h2]
      have HK2 := hide (HK1.out.trans k2)
      clear k2
      go_wp2_with fail
      go_ret2
      exact ⟨rfl, HK2.out⟩
    · go_enter Try.func33, Try.ntmps33
      go_wp2_with fail
      refine (specGoodBus _ a b ca cb m xs ys (HA.out.keptS HK0.out) (HB.out.keptS HK0.out) lx HY.out bm).mono ?_
      rintro e w1 ⟨rfl, k1⟩
      rw [h1]
      have HK1 := hide (HK0.out.trans k1)
      have B := HW1.out.kept0 k1
      have B0 := hide (HW0.out.kept0 k1)
      have B1 := hide B
      have c0 := B.cell (i := 0) rfl
      have c1 := B.cell (i := 1) rfl
      clear k1 B
      go_wp2_with fail
      refine (specGoodBus _ c d cc cd n us vs (HC.out.keptS HK1.out) (HD.out.keptS HK1.out) lu HV.out bn).mono ?_
      rintro e w2 ⟨rfl, k2⟩
      rw [h2]
      have HK2 := hide (HK1.out.trans k2)
      have d0 := (B0.out.kept0 k2).cell (i := 0) rfl
      have d1 := (B1.out.kept0 k2).cell (i := 0) rfl
      clear k2 c0 c1
      go_wp2_with fail
      refine (l1Same _ a c ca cc xs us (HA.out.keptS HK2.out) (HC.out.keptS HK2.out) lx lu).mono ?_
      rintro e w3 ⟨rfl, g3⟩
      have HK3 := hide (HK2.out.trans (kept_grown g3))
      clear g3
      go_wp2_with fail
      go_ret2
      exact ⟨rfl, HK3.out⟩
end Go.Proofs.Ytbkafdphagmgpaa
