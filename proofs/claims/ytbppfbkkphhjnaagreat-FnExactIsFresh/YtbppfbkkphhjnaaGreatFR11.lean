/- Whether a unit's words are there, of both sides. The law on IsFresh: of whatever bus and unit, its Go function returns true, and no block that was there has turned. Bits moved one place at a time, so often, and back; how many are 1; the other way round: plain arithmetic; no Go text is spoken of here. A step of a processor in numbers: plain arithmetic; no Go text is spoken of here. A processor that came in to a law, opened: four lists that lie in memory, the accesses spoken of as the row of their numbers. Units, buses and processors that came in to a law: opened out of a law's argument. -/
import Derived.Test.YtbppfbkkphhjnaaGreatFR2
import Derived.Test.YtbppfbkkphhjnaaGreatFR10
import Derived.Test.YtbppfbkkphhjnaaGreatFR1
import Derived.Deep.RegionHeld3
import Derived.Lib.SmallJoins
import Derived.Deep.Slices
import Derived.ProofKit
import Derived.OpenShut
namespace Go.Proofs.YtbppfbkkphhjnaaGreat
open Go.RowKit
set_option linter.unusedVariables false
set_option linter.unusedSimpArgs false
/-- whether the words ws lie from a place on -/
def Pl.lies (xs : List Int) (f : Int) (ws : List Int) : Bool := (List.range ws.length).all fun k => Pl.wdOk (f + 2 * (k : Int)) && (Pl.wdAt xs (f + 2 * (k : Int)) == el ws k)
theorem Pl.lies_no {xs ws : List Int} {f : Int} {k : Nat} (hk : k < ws.length) (h : (Pl.wdOk (f + 2 * (k : Int)) && (Pl.wdAt xs (f + 2 * (k : Int)) == el ws k)) = false) : Pl.lies xs f ws = false := by
  rw [Bool.eq_false_iff]
  intro q
  have := List.all_eq_true.1 q k (List.mem_range.2 hk)
  rw [h] at this
  cases this
theorem Pl.lies_yes {xs ws : List Int} {f : Int} (h : ∀ k, k < ws.length → (Pl.wdOk (f + 2 * (k : Int)) && (Pl.wdAt xs (f + 2 * (k : Int)) == el ws k)) = true) : Pl.lies xs f ws = true :=
  List.all_eq_true.2 fun k hk => h k (List.mem_range.1 hk)
theorem Pl.wd_same {xs : List Int} {q v : Int} (hv : 0 ≤ v) : (Pl.wdM xs q == v) = (Pl.wdOk q && (Pl.wdAt xs q == v)) := by
  unfold Pl.wdM
  cases h : Pl.wdOk q
  · simp; omega
  · simp
theorem Pl.encode_pos {x : Pl.In} (h : Pl.inOk x = true) : ∀ v ∈ Pl.encode x, 0 ≤ v := by
  have m := Pl.modeR h
  intro v hv
  unfold Pl.encode at hv
  have h1 : 0 ≤ Pl.word1 x := by unfold Pl.word1; omega
  split at hv
  · simp at hv; rcases hv with rfl | rfl
    · exact h1
    · omega
  · simp at hv; rw [hv]; exact h1
theorem Pl.encTo_mem {ys : List Int} {n : Nat} (h : ∀ k, k < n → Pl.inOk (Pl.inAt ys k) = true) : ∀ v ∈ Pl.encTo ys n, 0 ≤ v := by
  induction n with
  | zero => intro v hv; simp [Pl.encTo] at hv
  | succ n ih =>
    intro v hv
    unfold Pl.encTo at hv
    rcases List.mem_append.1 hv with hv | hv
    · exact ih (fun k hk => h k (by omega)) v hv
    · exact Pl.encode_pos (h n (by omega)) v hv
theorem Pl.encTo_pos {ys : List Int} {n : Nat} (h : ∀ k, k < n → Pl.inOk (Pl.inAt ys k) = true) (k : Nat) : 0 ≤ el (Pl.encTo ys n) k := by
  unfold el
  rcases Nat.lt_or_ge k (Pl.encTo ys n).length with hk | hk
  · have hm : (Pl.encTo ys n)[k]?.getD 0 ∈ Pl.encTo ys n := by simp [hk]
    exact Pl.encTo_mem h _ hm
  · rw [List.getElem?_eq_none hk]; exact Int.le_refl _
noncomputable def Pl.frOk (xs zs : List Int) (m : Nat) (f t : Int) (n : Nat) (ys ts : List Int) (sk : List Bool) : Bool := Pl.goodBus xs zs m && Pl.goodU f t n ys ts sk
noncomputable def Pl.frV (xs zs : List Int) (m : Nat) (f t : Int) (n : Nat) (ys ts : List Int) (sk : List Bool) : Bool := Pl.frOk xs zs m f t n ys ts sk && Pl.lies xs f (Pl.encTo ys n)
set_option maxRecDepth 100000 in
set_option maxHeartbeats 8000000 in
theorem specUFresh (w : World) (a b c : Option Addr) (ca cb cc m n : Nat) (xs : List Int) (f t : Int) (ys ts : List Int) (sk : List Bool) (ha : IRow w a xs) (hc : MRow w c n ys ts sk) (lx : xs.length = 512) (hb : Pl.bytesOk xs = true) (G : Pl.GU f t n ys ts sk) :
    Calls Tryz.prog 48 #[.agg #[.slice a xs.length ca, .slice b m cb], .agg #[iv f, iv t, .slice c n cc]] w fun e w' => e = .returned (.bool (Pl.lies xs f (Pl.encTo ys n))) ∧ Kept 0 0 w w' := by
  have K0 := hide (kept_new (kept_alloc w (.cells #[.slice a xs.length ca, .slice b m cb] 34)) (.cells #[iv f, iv t, .slice c n cc] 29))
  have B0 := hide ((Blk.new w #[.slice a xs.length ca, .slice b m cb] 34).alloc (.cells #[iv f, iv t, .slice c n cc] 29))
  have U0 := Blk.new (w.alloc (.cells #[.slice a xs.length ca, .slice b m cb] 34)) #[iv f, iv t, .slice c n cc] 29
  simp only [World.size_alloc] at U0
  replace U0 := hide U0
  have HA := hide ha
  have HC := hide hc
  have HX := hide lx
  have HBY := hide hb
  have f0 := G.f0
  have f1 := G.f1
  have n8 := G.n8
  have hel := Pl.encTo_len ys n
  have hpos := Pl.encTo_pos G.ok
  obtain ⟨Z, hZ⟩ : ∃ Z, Z = Pl.encTo ys n := ⟨_, rfl⟩
  rw [← hZ] at hel hpos
  have HZ := hide hZ
  have HP := hide hpos
  clear hZ hpos
  rw [show Pl.encTo ys n = Z from HZ.out.symm]
  have pu := U0.out.all
  clear hc lx hb ha
  go_enter Tryz.func48, Tryz.ntmps48
  go_wp2_with (first | (go_at_call 53; refine (specUWords _ f t c cc n ys ts sk (HC.out.keptS K0.out) G.ok (by omega)).mono ?_; rw [← HZ.out]; rintro e9 w2 ⟨b1, c1, rfl, s1, k1⟩; have K1 := hide (K0.out.trans k1); have U1 := hide (U0.out.kept0 k1); have B1 := hide (B0.out.kept0 k1); have S1 := hide s1; clear k1 s1 pu))
  go_loopw [5, 6, 10] (fun _ _ j wr => ∃ k : Nat, k ≤ Z.length ∧ j = .int .i64 k ∧ (∀ i, i < k → (Pl.wdOk (f + 2 * (i : Int)) && (Pl.wdAt xs (f + 2 * (i : Int)) == el Z i)) = true) ∧ Kept 0 0 w2 wr) (fun _ _ j _ => Z.length - (intOf j).toNat)
  case atStart => exact ⟨0, Nat.zero_le _, rfl, fun i hi => absurd hi (Nat.not_lt_zero i), Kept.refl _ _ _⟩
  case round =>
    obtain ⟨k, hk, rfl, hall, hkept⟩ := hrel
    have HK := hide hkept
    have HL := hide hall
    clear hkept hall
    by_cases hlt : k < Z.length
    · obtain ⟨g1, o1, rfl, q0⟩ := ((S1.out.kept HK.out (by omega)).row) k hlt
      rw [show Z[k]?.getD 0 = el Z k from rfl] at q0
      have U2 := hide (U1.out.kept0 HK.out)
      have pu := U2.out.all
      have vp := HP.out k
      obtain ⟨V, hV⟩ : ∃ V, V = el Z k := ⟨_, rfl⟩
      rw [← hV] at q0 vp
      have HV := hide hV
      clear hV
      have Q0 : 0 ≤ f + 2 * (k : Int) := by omega
      have Q1 : f + 2 * (k : Int) ≤ 2000 := by omega
      have B2 := hide (B1.out.kept0 HK.out)
      have pb := B2.out.all
      cases hx : (Pl.wdM xs (f + 2 * (k : Int)) == V)
      · have E : Hid (Pl.lies xs f Z = false) := hide (Pl.lies_no hlt (by rw [← HV.out, ← Pl.wd_same vp]; exact hx))
        go_wp2_with (first | (go_at_call 65; refine (specUWord _ a b ca cb m xs (f + 2 * (k : Int)) (HA.out.keptS (K1.out.trans HK.out)) HX.out HBY.out Q0 Q1).mono ?_; rintro e9 w3 ⟨rfl, k3⟩; have K3 := hide (HK.out.trans k3); clear k3))
        go_ret
        exact ⟨rB E.out.symm, K1.out.trans K3.out⟩
      · have E : Hid ((Pl.wdOk (f + 2 * (k : Int)) && (Pl.wdAt xs (f + 2 * (k : Int)) == el Z k)) = true) := hide (by rw [← HV.out, ← Pl.wd_same vp]; exact hx)
        go_wp2_with (first | (go_at_call 65; refine (specUWord _ a b ca cb m xs (f + 2 * (k : Int)) (HA.out.keptS (K1.out.trans HK.out)) HX.out HBY.out Q0 Q1).mono ?_; rintro e9 w3 ⟨rfl, k3⟩; have K3 := hide (HK.out.trans k3); clear k3))
        go_roundw
        case rel => exact ⟨k + 1, by omega, by go_num, snoc_all HL.out E.out, K3.out⟩
        case measure => simp [intOf]; omega
    · obtain rfl : k = Z.length := by omega
      have E : Hid (Pl.lies xs f Z = true) := hide (Pl.lies_yes HL.out)
      go_wp2_with fail
      go_ret
      exact ⟨rB E.out.symm, K1.out.trans HK.out⟩
set_option maxRecDepth 100000 in
set_option maxHeartbeats 8000000 in
theorem implUFresh (w : World) (bk : Nat) (c : Option Addr) (cc n : Nat) (xs : List Int) (f t : Int) (ys ts : List Int) (sk : List Bool) (hB : Blk w bk (cellsOf xs) 84) (hc : MRow w c n ys ts sk) (lx : xs.length = 512) (hb : Pl.bytesOk xs = true) (G : Pl.GU f t n ys ts sk) :
    Calls Tryz.prog 52 #[.pointer (some ⟨bk, 0, none⟩), .agg #[iv f, iv t, .slice c n cc]] w fun e w' => e = .returned (.bool (Pl.lies xs f (Pl.encTo ys n))) ∧ Kept 0 0 w w' := by
  have K0 := hide (kept_alloc w (.cells #[iv f, iv t, .slice c n cc] 29))
  have U0 := hide (Blk.new w #[iv f, iv t, .slice c n cc] 29)
  have HB := hide hB
  have HC := hide hc
  have HX := hide lx
  have HBY := hide hb
  have f0 := G.f0
  have f1 := G.f1
  have n8 := G.n8
  have hel := Pl.encTo_len ys n
  have hpos := Pl.encTo_pos G.ok
  obtain ⟨Z, hZ⟩ : ∃ Z, Z = Pl.encTo ys n := ⟨_, rfl⟩
  rw [← hZ] at hel hpos
  have HZ := hide hZ
  have HP := hide hpos
  clear hZ hpos
  rw [show Pl.encTo ys n = Z from HZ.out.symm]
  have pu := U0.out.all
  clear hc lx hb hB
  go_enter Tryz.func52, Tryz.ntmps52
  go_wp2_with (first | (go_at_call 54; refine (implUWords _ f t c cc n ys ts sk (HC.out.keptS K0.out) G.ok (by omega)).mono ?_; rw [← HZ.out]; rintro e9 w2 ⟨b1, c1, rfl, s1, k1⟩; have K1 := hide (K0.out.trans k1); have U1 := hide (U0.out.kept0 k1); have S1 := hide s1; clear k1 s1 pu))
  go_loopw [5, 6, 7, 8, 12] (fun _ _ _ _ j wr => ∃ k : Nat, k ≤ Z.length ∧ j = .int .i64 k ∧ (∀ i, i < k → (Pl.wdOk (f + 2 * (i : Int)) && (Pl.wdAt xs (f + 2 * (i : Int)) == el Z i)) = true) ∧ Kept 0 0 w2 wr) (fun _ _ _ _ j _ => Z.length - (intOf j).toNat)
  case atStart => exact ⟨0, Nat.zero_le _, rfl, fun i hi => absurd hi (Nat.not_lt_zero i), Kept.refl _ _ _⟩
  case round =>
    obtain ⟨k, hk, rfl, hall, hkept⟩ := hrel
    have HK := hide hkept
    have HL := hide hall
    clear hkept hall
    by_cases hlt : k < Z.length
    · obtain ⟨g1, o1, rfl, q0⟩ := ((S1.out.kept HK.out (by omega)).row) k hlt
      rw [show Z[k]?.getD 0 = el Z k from rfl] at q0
      have U2 := hide (U1.out.kept0 HK.out)
      have pu := U2.out.all
      have vp := HP.out k
      obtain ⟨V, hV⟩ : ∃ V, V = el Z k := ⟨_, rfl⟩
      rw [← hV] at q0 vp
      have HV := hide hV
      clear hV
      have Q0 : 0 ≤ f + 2 * (k : Int) := by omega
      have Q1 : f + 2 * (k : Int) ≤ 2000 := by omega
      have HKK : Hid (f + (k : Int) * 2 = f + 2 * (k : Int)) := hide (by omega)
      cases h1 : Pl.wdOk (f + 2 * (k : Int))
      · have E : Hid (Pl.lies xs f Z = false) := hide (Pl.lies_no hlt (by rw [h1]; rfl))
        go_wp2_with (first | (go_at_call 88; refine (implUPeek _ bk xs (f + (k : Int) * 2) ((HB.out.kept0 K1.out).kept0 HK.out) HX.out HBY.out (by omega) (by omega)).mono ?_; rw [HKK.out]; rintro e9 w3 ⟨rfl, k3⟩; have K3 := hide (HK.out.trans k3); clear k3))
        go_ret
        exact ⟨rB E.out.symm, K1.out.trans K3.out⟩
      · cases hx : (Pl.wdP xs (f + 2 * (k : Int)) == V)
        · have E : Hid (Pl.lies xs f Z = false) := hide (Pl.lies_no hlt (by rw [← HV.out, h1]; unfold Pl.wdP at hx; rw [h1] at hx; exact hx))
          go_wp2_with (first | (go_at_call 88; refine (implUPeek _ bk xs (f + (k : Int) * 2) ((HB.out.kept0 K1.out).kept0 HK.out) HX.out HBY.out (by omega) (by omega)).mono ?_; rw [HKK.out]; rintro e9 w3 ⟨rfl, k3⟩; have K3 := hide (HK.out.trans k3); clear k3))
          go_ret
          exact ⟨rB E.out.symm, K1.out.trans K3.out⟩
        · have E : Hid ((Pl.wdOk (f + 2 * (k : Int)) && (Pl.wdAt xs (f + 2 * (k : Int)) == el Z k)) = true) := hide (by rw [← HV.out, h1]; unfold Pl.wdP at hx; rw [h1] at hx; exact hx)
          go_wp2_with (first | (go_at_call 88; refine (implUPeek _ bk xs (f + (k : Int) * 2) ((HB.out.kept0 K1.out).kept0 HK.out) HX.out HBY.out (by omega) (by omega)).mono ?_; rw [HKK.out]; rintro e9 w3 ⟨rfl, k3⟩; have K3 := hide (HK.out.trans k3); clear k3))
          go_roundw
          case rel => exact ⟨k + 1, by omega, by go_num, snoc_all HL.out E.out, K3.out⟩
          case measure => simp [intOf]; omega
    · obtain rfl : k = Z.length := by omega
      have E : Hid (Pl.lies xs f Z = true) := hide (Pl.lies_yes HL.out)
      go_wp2_with fail
      go_ret
      exact ⟨rB E.out.symm, K1.out.trans HK.out⟩
set_option maxRecDepth 100000 in
set_option maxHeartbeats 8000000 in
theorem specXFresh (w : World) (a b c : Option Addr) (ca cb cc m n : Nat) (xs zs : List Int) (f t : Int) (ys ts : List Int) (sk : List Bool) (ha : IRow w a xs) (hz : IRow w b zs) (lm : zs.length = 5 * m) (hc : MRow w c n ys ts sk) (ly : ys.length = 7 * n) (bx : xs.length ≤ 2000000) (bm : m ≤ 2000000) (bn : n ≤ 2000000) :
    Calls Tryz.prog 17 #[.agg #[.slice a xs.length ca, .slice b m cb], .agg #[iv f, iv t, .slice c n cc]] w fun e w' => e = .returned (.tuple #[.bool (Pl.frV xs zs m f t n ys ts sk), .bool (Pl.frOk xs zs m f t n ys ts sk)]) ∧ Kept 0 0 w w' := by
  have K0 := hide (kept_new (kept_alloc w (.cells #[.slice a xs.length ca, .slice b m cb] 34)) (.cells #[iv f, iv t, .slice c n cc] 29))
  have B0 := hide ((Blk.new w #[.slice a xs.length ca, .slice b m cb] 34).alloc (.cells #[iv f, iv t, .slice c n cc] 29))
  have U0 := Blk.new (w.alloc (.cells #[.slice a xs.length ca, .slice b m cb] 34)) #[iv f, iv t, .slice c n cc] 29
  simp only [World.size_alloc] at U0
  replace U0 := hide U0
  have HA := hide ha
  have HZ := hide hz
  have HC := hide hc
  have HM := hide lm
  have HY := hide ly
  clear ha hz hc lm ly
  cases h1 : Pl.goodBus xs zs m
  · have E : Hid (Pl.frOk xs zs m f t n ys ts sk = false ∧ Pl.frV xs zs m f t n ys ts sk = false) := hide (by unfold Pl.frV Pl.frOk; rw [h1]; exact ⟨rfl, rfl⟩)
    go_enter Tryz.func17, Tryz.ntmps17
    go_wp2_with (first | (go_at_call 32; refine (specGoodBus _ a b ca cb m xs zs (HA.out.keptS K0.out) (HZ.out.keptS K0.out) bx HM.out bm).mono ?_; rw [h1]; rintro e9 w2 ⟨rfl, k2⟩; have K2 := hide (K0.out.trans k2); have B2 := hide (B0.out.kept0 k2); have U2 := hide (U0.out.kept0 k2); have pb := B2.out.all; have pu := U2.out.all; clear k2))
    go_ret2
    exact ⟨by rw [E.out.1, E.out.2]; rfl, K2.out⟩
  · cases h2 : Pl.goodU f t n ys ts sk
    · have E : Hid (Pl.frOk xs zs m f t n ys ts sk = false ∧ Pl.frV xs zs m f t n ys ts sk = false) := hide (by unfold Pl.frV Pl.frOk; rw [h1, h2]; exact ⟨rfl, rfl⟩)
      go_enter Tryz.func17, Tryz.ntmps17
      go_wp2_with (first | (go_at_call 32; refine (specGoodBus _ a b ca cb m xs zs (HA.out.keptS K0.out) (HZ.out.keptS K0.out) bx HM.out bm).mono ?_; rw [h1]; rintro e9 w2 ⟨rfl, k2⟩; have K2 := hide (K0.out.trans k2); have B2 := hide (B0.out.kept0 k2); have U2 := hide (U0.out.kept0 k2); have pb := B2.out.all; have pu := U2.out.all; clear k2) | (go_at_call 47; refine (specGoodUnit _ f t c cc n ys ts sk (HC.out.keptS K2.out) HY.out bn).mono ?_; rw [h2]; rintro e9 w3 ⟨rfl, k3⟩; have K3 := hide (K2.out.trans k3); have B3 := hide (B2.out.kept0 k3); have U3 := hide (U2.out.kept0 k3); clear pb pu; have pb := B3.out.all; have pu := U3.out.all; clear k3))
      go_ret2
      exact ⟨by rw [E.out.1, E.out.2]; rfl, K3.out⟩
    · obtain ⟨l5, hby, _, _⟩ := Pl.goodBus_ok h1
      have L5 := hide l5
      clear l5
      have G := Pl.goodU_out h2
      obtain ⟨LV, hL⟩ : ∃ LV, LV = Pl.lies xs f (Pl.encTo ys n) := ⟨_, rfl⟩
      have E : Hid (Pl.frOk xs zs m f t n ys ts sk = true ∧ Pl.frV xs zs m f t n ys ts sk = LV) := hide (by unfold Pl.frV Pl.frOk; rw [h1, h2, hL]; exact ⟨rfl, rfl⟩)
      have HL := hide hL
      clear hL
      go_enter Tryz.func17, Tryz.ntmps17
      go_wp2_with (first | (go_at_call 32; refine (specGoodBus _ a b ca cb m xs zs (HA.out.keptS K0.out) (HZ.out.keptS K0.out) bx HM.out bm).mono ?_; rw [h1]; rintro e9 w2 ⟨rfl, k2⟩; have K2 := hide (K0.out.trans k2); have B2 := hide (B0.out.kept0 k2); have U2 := hide (U0.out.kept0 k2); have pb := B2.out.all; have pu := U2.out.all; clear k2) | (go_at_call 47; refine (specGoodUnit _ f t c cc n ys ts sk (HC.out.keptS K2.out) HY.out bn).mono ?_; rw [h2]; rintro e9 w3 ⟨rfl, k3⟩; have K3 := hide (K2.out.trans k3); have B3 := hide (B2.out.kept0 k3); have U3 := hide (U2.out.kept0 k3); clear pb pu; have pb := B3.out.all; have pu := U3.out.all; clear k3) | (go_at_call 48; refine (specUFresh _ a b c ca cb cc m n xs f t ys ts sk (HA.out.keptS K3.out) (HC.out.keptS K3.out) L5.out hby G).mono ?_; rw [← HL.out]; rintro e9 w4 ⟨rfl, k4⟩; have K4 := hide (K3.out.trans k4); clear k4))
      go_ret2
      exact ⟨by rw [E.out.1, E.out.2]; rfl, K4.out⟩
set_option maxRecDepth 100000 in
set_option maxHeartbeats 8000000 in
theorem implXFresh (w : World) (a b c : Option Addr) (ca cb cc m n : Nat) (xs zs : List Int) (f t : Int) (ys ts : List Int) (sk : List Bool) (ha : Came w a xs) (hz : Came w b zs) (lm : zs.length = 5 * m) (hc : MRow w c n ys ts sk) (ly : ys.length = 7 * n) (wy : Wide ys) (bx : xs.length ≤ 2000000) (bm : m ≤ 2000000) (bn : n ≤ 2000000) :
    Calls Tryz.prog 19 #[.agg #[.slice a xs.length ca, .slice b m cb], .agg #[iv f, iv t, .slice c n cc]] w fun e w' => e = .returned (.tuple #[.bool (Pl.frV xs zs m f t n ys ts sk), .bool (Pl.frOk xs zs m f t n ys ts sk)]) ∧ Kept 0 0 w w' := by
  have K0 := hide (kept_new (kept_alloc w (.cells #[.slice a xs.length ca, .slice b m cb] 34)) (.cells #[iv f, iv t, .slice c n cc] 29))
  have B0 := hide ((Blk.new w #[.slice a xs.length ca, .slice b m cb] 34).alloc (.cells #[iv f, iv t, .slice c n cc] 29))
  have U0 := Blk.new (w.alloc (.cells #[.slice a xs.length ca, .slice b m cb] 34)) #[iv f, iv t, .slice c n cc] 29
  simp only [World.size_alloc] at U0
  replace U0 := hide U0
  have HA := hide ha
  have HZ := hide hz
  have HC := hide hc
  have HM := hide lm
  have HY := hide ly
  have HW := hide wy
  clear wy
  clear ha hz hc lm ly
  cases h1 : Pl.goodBus xs zs m
  · have E : Hid (Pl.frOk xs zs m f t n ys ts sk = false ∧ Pl.frV xs zs m f t n ys ts sk = false) := hide (by unfold Pl.frV Pl.frOk; rw [h1]; exact ⟨rfl, rfl⟩)
    go_enter Tryz.func19, Tryz.ntmps19
    go_wp2_with (first | (go_at_call 37; refine (goodBus _ a b ca cb m xs zs (HA.out.keptS K0.out) (HZ.out.keptS K0.out) bx HM.out bm).mono ?_; rw [h1]; rintro e9 w2 ⟨rfl, k2⟩; have K2 := hide (K0.out.trans k2); have B2 := hide (B0.out.kept0 k2); have U2 := hide (U0.out.kept0 k2); have pb := B2.out.all; have pu := U2.out.all; clear k2))
    go_ret2
    exact ⟨by rw [E.out.1, E.out.2]; rfl, K2.out⟩
  · cases h2 : Pl.goodU f t n ys ts sk
    · have E : Hid (Pl.frOk xs zs m f t n ys ts sk = false ∧ Pl.frV xs zs m f t n ys ts sk = false) := hide (by unfold Pl.frV Pl.frOk; rw [h1, h2]; exact ⟨rfl, rfl⟩)
      go_enter Tryz.func19, Tryz.ntmps19
      go_wp2_with (first | (go_at_call 37; refine (goodBus _ a b ca cb m xs zs (HA.out.keptS K0.out) (HZ.out.keptS K0.out) bx HM.out bm).mono ?_; rw [h1]; rintro e9 w2 ⟨rfl, k2⟩; have K2 := hide (K0.out.trans k2); have B2 := hide (B0.out.kept0 k2); have U2 := hide (U0.out.kept0 k2); have pb := B2.out.all; have pu := U2.out.all; clear k2) | (go_at_call 50; refine (implGoodUnit _ f t c cc n ys ts sk (HC.out.keptS K2.out) HY.out HW.out bn).mono ?_; rw [h2]; rintro e9 w3 ⟨rfl, k3⟩; have K3 := hide (K2.out.trans k3); have B3 := hide (B2.out.kept0 k3); have U3 := hide (U2.out.kept0 k3); clear pb pu; have pb := B3.out.all; have pu := U3.out.all; clear k3))
      go_ret2
      exact ⟨by rw [E.out.1, E.out.2]; rfl, K3.out⟩
    · obtain ⟨l5, hby, _, _⟩ := Pl.goodBus_ok h1
      have L5 := hide l5
      clear l5
      have G := Pl.goodU_out h2
      obtain ⟨LV, hL⟩ : ∃ LV, LV = Pl.lies xs f (Pl.encTo ys n) := ⟨_, rfl⟩
      have E : Hid (Pl.frOk xs zs m f t n ys ts sk = true ∧ Pl.frV xs zs m f t n ys ts sk = LV) := hide (by unfold Pl.frV Pl.frOk; rw [h1, h2, hL]; exact ⟨rfl, rfl⟩)
      have HL := hide hL
      have mz := Tryz.memZero
      have HZS : Hid ((Tryz.prog.info? 84).map (·.size) = some (cellsOf xs).size) := hide (by rw [cellsOf_size, L5.out]; exact Tryz.memSize)
      have HZ2 : Hid ((cellsOf zeros).size = (cellsOf xs).size) := hide (by rw [cellsOf_size, cellsOf_size, L5.out, zeros_len])
      clear hL
      go_enter Tryz.func19, Tryz.ntmps19
      go_wp2_with (first | (go_at_call 37; refine (goodBus _ a b ca cb m xs zs (HA.out.keptS K0.out) (HZ.out.keptS K0.out) bx HM.out bm).mono ?_; rw [h1]; rintro e9 w2 ⟨rfl, k2⟩; have K2 := hide (K0.out.trans k2); have B2 := hide (B0.out.kept0 k2); have U2 := hide (U0.out.kept0 k2); have pb := B2.out.all; have pu := U2.out.all; clear k2) | (go_at_call 50; refine (implGoodUnit _ f t c cc n ys ts sk (HC.out.keptS K2.out) HY.out HW.out bn).mono ?_; rw [h2]; rintro e9 w3 ⟨rfl, k3⟩; have K3 := hide (K2.out.trans k3); have B3 := hide (B2.out.kept0 k3); have U3 := hide (U2.out.kept0 k3); clear pb pu; have pb := B3.out.all; have pu := U3.out.all; clear k3) | (go_at_call 51; refine (memoryOf _ a b ca cb m xs (HA.out.keptS K3.out).1 L5.out).mono ?_; rintro e9 w5 ⟨rfl, k5⟩; have z5 := (K3.out.trans k5).size; have zu := (U3.out.kept0 k5).lt; have D5 := hide (Blk.new w5 (cellsOf zeros) 84); have K5 := hide (kept_setRow (kept_new (K3.out.trans k5) (.cells (cellsOf zeros) 84)) w5.heap.size (cellsOf xs) (by omega)); have U5 := hide (Blk.setRowOther (g := w5.heap.size) (ds := cellsOf xs) ((U3.out.kept0 k5).alloc (.cells (cellsOf zeros) 84)) (by omega)); have M5 := hide (Blk.setRow (ds := cellsOf xs) D5.out); clear pb pu k5; have pu := U5.out.all) | (refine wpList_store_row rfl 84 (.tmp 6) (.tmp 16) rfl w5.heap.size (cellsOf xs) rfl rfl 84 (cellsOf zeros) D5.out HZS.out HZ2.out (cellsOf_one xs) ?_) | (go_at_call 52; refine (implUFresh _ w5.heap.size c cc n xs f t ys ts sk M5.out (HC.out.keptS K5.out) L5.out hby G).mono ?_; rw [← HL.out]; rintro e9 w4 ⟨rfl, k4⟩; have K4 := hide (K5.out.trans k4); clear k4))
      go_ret2
      exact ⟨by rw [E.out.1, E.out.2]; rfl, K4.out⟩
end Go.Proofs.YtbppfbkkphhjnaaGreat

namespace Go.Proofs.YtbppfbkkphhjnaaGreat
open Go.RowKit
set_option linter.unusedVariables false
set_option linter.unusedSimpArgs false
set_option maxRecDepth 100000 in
set_option maxHeartbeats 16000000 in
theorem lawIsFresh (a b c : Option Addr) (ca cb cc m n : Nat) (xs zs : List Int) (f t : Int) (ys ts : List Int) (sk : List Bool) (w : World) (ha : Came w a xs) (hz : Came w b zs) (lm : zs.length = 5 * m) (hc : MRow w c n ys ts sk) (ly : ys.length = 7 * n) (wy : Wide ys) (lx : xs.length ≤ 9223372036854775807) (mx : m ≤ 9223372036854775807) (nx : n ≤ 9223372036854775807) :
    Calls Tryz.prog 4 #[.agg #[.slice a xs.length ca, .slice b m cb], .agg #[iv f, iv t, .slice c n cc]] w fun r' w' => r' = .returned (.bool true) ∧ Below w.heap.size w w' := by
  have K0 := hide (kept_new (kept_alloc w (.cells #[.slice a xs.length ca, .slice b m cb] 25)) (.cells #[iv f, iv t, .slice c n cc] 43))
  have A0 := hide ((Blk.new w #[.slice a xs.length ca, .slice b m cb] 25).alloc (.cells #[iv f, iv t, .slice c n cc] 43))
  have U0 := Blk.new (w.alloc (.cells #[.slice a xs.length ca, .slice b m cb] 25)) #[iv f, iv t, .slice c n cc] 43
  simp only [World.size_alloc] at U0
  replace U0 := hide U0
  have HA := hide ha
  have HZ := hide hz
  have HM := hide lm
  have HC := hide hc
  have HY := hide ly
  have HW := hide wy
  clear ha hz lm hc ly wy
  by_cases hs : szB xs.length m 1048576 < 0
  · go_enter Tryz.func4, Tryz.ntmps4
    go_wp2_with fail
    refine (szBus _ a b ca cb xs.length m 1048576 lx mx (by decide) (by decide)).mono ?_
    rintro e9 w1 ⟨rfl, k1⟩
    have K1 := hide (K0.out.trans k1)
    clear k1
    go_wp2_with fail
    go_ret
    exact ⟨rfl, K1.out.below⟩
  · have hb := szB_neg hs
    have hb2 := szB_le (n := xs.length) (m := m) (left := 1048576) (by decide) hs
    have bx : xs.length ≤ 2000000 := by omega
    have bm : m ≤ 2000000 := by omega
    obtain ⟨L1, hL1⟩ : ∃ L1, L1 = szB xs.length m 1048576 := ⟨_, rfl⟩
    rw [← hL1] at hs hb2
    have HL1 := hide hL1
    clear hL1 hb
    by_cases hn : L1 - (n : Int) < 0
    · have hsz : (if L1 - (n : Int) < 0 then (-1 : Int) else L1 - (n : Int)) = -1 := if_pos hn
      go_enter Tryz.func4, Tryz.ntmps4
      go_wp2_with fail
      refine (szBus _ a b ca cb xs.length m 1048576 lx mx (by decide) (by decide)).mono ?_
      rw [← HL1.out]
      rintro e9 w1 ⟨rfl, k1⟩
      have K1 := hide (K0.out.trans k1)
      have U1 := hide (U0.out.kept0 k1)
      have pu := U1.out.all
      clear k1
      go_wp2_with fail
      refine (szUnit _ f t c cc n L1 nx hb2.1 (by omega)).mono ?_
      rw [hsz]
      rintro e9 w2 ⟨rfl, k2⟩
      have K2 := hide (K1.out.trans k2)
      clear k2
      go_wp2_with fail
      go_ret
      exact ⟨rfl, K2.out.below⟩
    · obtain ⟨L2, hL2⟩ : ∃ L2, L2 = L1 - (n : Int) := ⟨_, rfl⟩
      have hsz : (if L1 - (n : Int) < 0 then (-1 : Int) else L1 - (n : Int)) = L2 := (if_neg hn).trans hL2.symm
      have bn : n ≤ 2000000 := by omega
      have q9 : 0 ≤ L2 := by omega
      clear hn hL2
      obtain ⟨G, hG⟩ : ∃ G, G = Pl.frV xs zs m f t n ys ts sk := ⟨_, rfl⟩
      obtain ⟨G2, hG2⟩ : ∃ G2, G2 = Pl.frOk xs zs m f t n ys ts sk := ⟨_, rfl⟩
      have HG := hide hG
      have HG2 := hide hG2
      clear hG hG2
      have qq : (G != G) = false := by cases G <;> rfl
      have qq2 : (G2 != G2) = false := by cases G2 <;> rfl
      go_enter Tryz.func4, Tryz.ntmps4
      go_wp2_with fail
      refine (szBus _ a b ca cb xs.length m 1048576 lx mx (by decide) (by decide)).mono ?_
      rw [← HL1.out]
      rintro e9 w1 ⟨rfl, k1⟩
      have K1 := hide (K0.out.trans k1)
      have A1 := hide (A0.out.kept0 k1)
      have U1 := hide (U0.out.kept0 k1)
      have pu := U1.out.all
      clear k1
      go_wp2_with fail
      clear pu
      refine (szUnit _ f t c cc n L1 nx hb2.1 (by omega)).mono ?_
      rw [hsz]
      rintro e9 w2 ⟨rfl, k2⟩
      have K2 := hide (K1.out.trans k2)
      have A2 := hide (A1.out.kept0 k2)
      have U2 := hide (U1.out.kept0 k2)
      clear k2
      go_wp2_with fail
      go_region_held3 (fun w' => (∀ i, w'.cell? ⟨w.heap.size, i, none⟩ = ((#[.slice a xs.length ca, .slice b m cb] : Array Value))[i]?) ∧ (∀ i, w'.cell? ⟨w.heap.size + 1, i, none⟩ = ((#[iv f, iv t, .slice c n cc] : Array Value))[i]?)) (first | with_reducible exact ⟨A5.out.all, U5.out.all⟩ | with_reducible exact ⟨A4.out.all, U4.out.all⟩ | with_reducible exact ⟨A3.out.all, U3.out.all⟩ | exact ⟨(show Blk _ _ _ _ from A2.out).all, (show Blk _ _ _ _ from U2.out).all⟩) (first | (go_at_call 9; refine (toBus _ a b ca cb m xs zs (HA.out.keptS (kept_drew K2.out)).1 (HZ.out.keptS (kept_drew K2.out)).1 bx HM.out bm).mono ?_; rintro e9 w3 ⟨p1, p2, rfl, o1, o2, h1, h2, h3, kd⟩; have k3 := undrewK kd; have K3 := hide (K2.out.trans k3); have A3 := hide (A2.out.kept0 k3); have U3 := hide (U2.out.kept0 k3); have O1 := hide o1; have O2 := hide o2; clear kd k3 o1 o2) | (go_at_call 18; refine (toUnit _ f t c cc n ys ts sk (HC.out.keptS K3.out) bn).mono ?_; rintro e9 w4 ⟨p3, rfl, h4, h5, m4, k4⟩; have K4 := hide (K3.out.trans k4); have A4 := hide (A3.out.kept0 k4); have U4 := hide (U3.out.kept0 k4); have O1b := hide (O1.out.keptS k4 (by omega)); have O2b := hide (O2.out.keptS k4 (by omega)); have M4 := hide m4; clear k4 m4) | (go_at_call 17; refine (specXFresh _ _ _ _ _ _ _ m n xs zs f t ys ts sk O1b.out.row O2b.out.row HM.out M4.out.row HY.out bx bm bn).mono ?_; rw [← HG.out, ← HG2.out]; rintro e9 w5 ⟨rfl, k5⟩; have K5 := hide (K4.out.trans k5); have A5 := hide (A4.out.kept0 k5); have U5 := hide (U4.out.kept0 k5); clear k5))
      have pa := A5.out.all
      go_wp2_with fail
      clear pa
      refine (toBus _ a b ca cb m xs zs (HA.out.keptS K5.out).1 (HZ.out.keptS K5.out).1 bx HM.out bm).mono ?_
      rintro e9 w6 ⟨r1, r2, rfl, o3, o4, h6, h7, h8, k6⟩
      have k6b := kept_alloc w6 (.cells #[.slice (some ⟨r1, 0, none⟩) xs.length xs.length, .slice (some ⟨r2, 0, none⟩) m m] 34)
      have K6 := hide ((K5.out.trans k6).trans k6b)
      have A6 := hide ((A5.out.kept0 k6).kept0 k6b)
      have U6 := hide ((U5.out.kept0 k6).kept0 k6b)
      have X6 := hide (Blk.new w6 #[.slice (some ⟨r1, 0, none⟩) xs.length xs.length, .slice (some ⟨r2, 0, none⟩) m m] 34)
      have P6 := hide (o3.keptS k6b (by omega))
      have R6 := hide (o4.keptS k6b (by omega))
      have z6 : (w6.alloc (.cells #[.slice (some ⟨r1, 0, none⟩) xs.length xs.length, .slice (some ⟨r2, 0, none⟩) m m] 34)).heap.size = w6.heap.size + 1 := by simp
      obtain ⟨W6, hW6⟩ : ∃ W6, W6 = w6.alloc (.cells #[.slice (some ⟨r1, 0, none⟩) xs.length xs.length, .slice (some ⟨r2, 0, none⟩) m m] 34) := ⟨_, rfl⟩
      have pu := U6.out.all
      clear k6 o3 o4
      go_wp2_with fail
      clear pu
      refine (toUnit _ f t c cc n ys ts sk (HC.out.keptS K6.out) bn).mono ?_
      rintro e9 w7 ⟨r3, rfl, h9, h10, m7, k7⟩
      have k7b := kept_alloc w7 (.cells #[iv f, iv t, .slice (some ⟨r3, 0, none⟩) n n] 29)
      have K7 := hide ((K6.out.trans k7).trans k7b)
      have A7 := hide ((A6.out.kept0 k7).kept0 k7b)
      have U7 := hide ((U6.out.kept0 k7).kept0 k7b)
      have X7 := hide ((X6.out.kept0 k7).kept0 k7b)
      have P7 := hide ((P6.out.keptS k7 (by omega)).keptS k7b (by omega))
      have R7 := hide ((R6.out.keptS k7 (by omega)).keptS k7b (by omega))
      have Y7 := hide (Blk.new w7 #[iv f, iv t, .slice (some ⟨r3, 0, none⟩) n n] 29)
      have M7 := hide (MOwn.keptS m7 k7b (by omega))
      have px := X7.out.all
      have py := Y7.out.all
      clear k7 m7
      go_wp2_with fail
      clear px py
      refine (implXFresh _ _ _ _ _ _ _ m n xs zs f t ys ts sk (P7.out.came HA.out.2) (R7.out.came HZ.out.2) HM.out M7.out.row HY.out HW.out bx bm bn).mono ?_
      rw [← HG.out, ← HG2.out]
      rintro e9 w8 ⟨rfl, k8⟩
      have K8 := hide (K7.out.trans k8)
      have A8 := hide (A7.out.kept0 k8)
      have U8 := hide (U7.out.kept0 k8)
      have X8 := hide (X7.out.kept0 k8)
      have Y8 := hide (Y7.out.kept0 k8)
      have P8 := hide (P7.out.keptS k8 (by omega))
      have R8 := hide (R7.out.keptS k8 (by omega))
      have M8 := hide (MOwn.keptS M7.out k8 (by omega))
      clear k8
      go_wp2_with fail
      go_region_held3 (fun w' => (∀ i, w'.cell? ⟨w.heap.size, i, none⟩ = ((#[.slice a xs.length ca, .slice b m cb] : Array Value))[i]?) ∧ (∀ i, w'.cell? ⟨w6.heap.size, i, none⟩ = ((#[.slice (some ⟨r1, 0, none⟩) xs.length xs.length, .slice (some ⟨r2, 0, none⟩) m m] : Array Value))[i]?)) (first | with_reducible exact ⟨Aa.out.all, Xa.out.all⟩ | with_reducible exact ⟨A9.out.all, X9.out.all⟩ | exact ⟨(show Blk _ _ _ _ from A8.out).all, (show Blk _ _ _ _ from X8.out).all⟩) (first | (go_at_call 9; refine (toBus _ a b ca cb m xs zs (HA.out.keptS (kept_drew K8.out)).1 (HZ.out.keptS (kept_drew K8.out)).1 bx HM.out bm).mono ?_; rintro e9 w9 ⟨s1, s2, rfl, o5, o6, h11, h12, h13, kd⟩; have k9 := undrewK kd; have K9 := hide (K8.out.trans k9); have A9 := hide (A8.out.kept0 k9); have U9 := hide (U8.out.kept0 k9); have X9 := hide (X8.out.kept0 k9); have Y9 := hide (Y8.out.kept0 k9); have P9 := hide (P8.out.keptS k9 (by omega)); have R9 := hide (R8.out.keptS k9 (by omega)); have M9 := hide (MOwn.keptS M8.out k9 (by omega)); have P9s := hide o5; have R9s := hide o6; clear kd k9 o5 o6) | (go_at_call 12; refine (eqBus _ _ _ _ _ _ _ _ _ m m xs zs xs zs P9.out.row R9.out.row P9s.out.row R9s.out.row bx bx HM.out HM.out bm bm).mono ?_; rw [decide_eq_true (rfl : xs = xs), decide_eq_true (rfl : zs = zs)]; rintro e9 wa ⟨rfl, ka⟩; have Ka := hide (K9.out.trans ka); have Aa := hide (A9.out.kept0 ka); have Ua := hide (U9.out.kept0 ka); have Xa := hide (X9.out.kept0 ka); have Ya := hide (Y9.out.kept0 ka); have Ma := hide (MOwn.keptS M9.out ka (by omega)); clear ka))
      go_wp2_with fail
      go_region_held3 (fun w' => (∀ i, w'.cell? ⟨w.heap.size + 1, i, none⟩ = ((#[iv f, iv t, .slice c n cc] : Array Value))[i]?) ∧ (∀ i, w'.cell? ⟨w7.heap.size, i, none⟩ = ((#[iv f, iv t, .slice (some ⟨r3, 0, none⟩) n n] : Array Value))[i]?)) (first | with_reducible exact ⟨Uc.out.all, Yc.out.all⟩ | with_reducible exact ⟨Ub.out.all, Yb.out.all⟩ | exact ⟨(show Blk _ _ _ _ from Ua.out).all, (show Blk _ _ _ _ from Ya.out).all⟩) (first | (go_at_call 18; refine (toUnit _ f t c cc n ys ts sk (HC.out.keptS (kept_drew Ka.out)) bn).mono ?_; rintro e9 wb ⟨s3, rfl, h14, h15, mb, kd⟩; have kb := undrewK kd; have Kb := hide (Ka.out.trans kb); have Ub := hide (Ua.out.kept0 kb); have Yb := hide (Ya.out.kept0 kb); have Mb := hide (MOwn.keptS Ma.out kb (by omega)); have Mc := hide mb; clear kd kb mb) | (go_at_call 11; refine (eqUnit _ f t _ _ n n n ys ts sk Mb.out.row Mc.out.row bn).mono ?_; rintro e9 wc ⟨rfl, kc⟩; have Kc := hide (Kb.out.trans kc); have Uc := hide (Ub.out.kept0 kc); have Yc := hide (Yb.out.kept0 kc); clear kc))
      go_wp2_with fail
      go_ret
      exact ⟨rfl, Kc.out.below⟩
end Go.Proofs.YtbppfbkkphhjnaaGreat

namespace Go.Proofs.YtbppfbkkphhjnaaGreat.Pl
set_option linter.unusedVariables false

/-- the highest bit -/
def hi (s v : Int) : Int := if top s / 2 ≤ v then 1 else 0
/-- what falls out -/
def fell (k s v : Int) : Int := if k % 2 = 0 then hi s v else v % 2
/-- what comes in -/
def inn (k s x v : Int) : Int := if k = 1 then hi s v else if k = 4 ∨ k = 5 then fell k s v else if 6 ≤ k then x else 0
def nv (k s x v : Int) : Int := if k % 2 = 0 then v * 2 % top s + inn k s x v else v / 2 + inn k s x v * (top s / 2)
def nx (k s x v : Int) : Int := if k = 4 ∨ k = 5 then x else fell k s v
/-- a value and the kept bit, one place on -/
def stp (k s : Int) (p : Int × Int) : Int × Int := (nv k s p.2 p.1, nx k s p.2 p.1)
def st (k s : Int) (p : Int × Int) : Nat → Int × Int
  | 0 => p
  | n + 1 => stp k s (st k s p n)
/-! ### what a call answers -/
end Go.Proofs.YtbppfbkkphhjnaaGreat.Pl

namespace Go.Proofs.YtbppfbkkphhjnaaGreat.Pl
set_option linter.unusedVariables false

/-- a fault -/
structure Ft where
  v : Int
  pc : Int
  ad : Int
  wo : Int
  wr : Bool
/-- a step on its way -/
structure Mc where
  r : Rg
  bx : List Int
  bl : List Int
  bm : Nat
  st : Bool
  f : Ft
namespace Mc
def fine (c : Mc) : Bool := c.f.v == 0
def accF (f : Ft) (k s a : Int) : Ft := bif (code k s a != 0) && (f.v == 0) then { f with v := bif code k s a == 2 then 3 else 2, ad := a, wr := k == 2 } else f
def acc (c : Mc) (k s a v : Int) : Mc := { c with bx := nb c.bx k s a v, bl := nl c.bx c.bl c.bm k s a v, bm := nm c.bm k s a, f := accF c.f k s a }
def accV (c : Mc) (k s a v : Int) : Int := lv c.bx k s a v
def setR (c : Mc) (r : Rg) : Mc := { c with r := r }
/- the instruction at PC -/
def fe0 (c : Mc) : Mc := { c with f := { c.f with pc := c.r.p } }
def fe1 (c : Mc) : Mc := c.fe0.acc 3 2 c.r.p 0
def feW (c : Mc) : Int := c.fe0.accV 3 2 c.r.p 0
def fe2 (c : Mc) : Mc := { c.fe1 with f := { c.fe1.f with wo := c.feW } }
def feA (c : Mc) : Int := (c.r.p + 2) % 65536
def fe3 (c : Mc) : Mc := bif longW c.feW == 2 then c.fe2.acc 3 2 c.feA 0 else c.fe2
def feN (c : Mc) : Int := bif longW c.feW == 2 then c.fe2.accV 3 2 c.feA 0 else 0
def feX (c : Mc) : In := decode c.feW c.feN
def fe4 (c : Mc) : Mc := { c.fe3 with f := { c.fe3.f with v := 4 } }
def fetch (c : Mc) : Mc := bif !c.fe1.fine then c.fe1 else bif !c.fe3.fine then c.fe3 else bif !inOk c.feX then c.fe4 else c.fe3
def fetI (c : Mc) : In := bif c.fe1.fine && (c.fe3.fine && inOk c.feX) then c.feX else inNo
/- operands -/
def put (c : Mc) (z k v : Int) : Mc := c.setR (putR c.r z k v)
def vec (c : Mc) (v : Int) : Mc := { c with f := { c.f with v := v } }
/- a step -/
def s1 (c : Mc) : Mc := bif c.fetch.fine && (priv c.fetI && !c.fetch.r.s) then c.fetch.vec 8 else c.fetch
end Mc
end Go.Proofs.YtbppfbkkphhjnaaGreat.Pl
namespace Go.Proofs.YtbppfbkkphhjnaaGreat
end Go.Proofs.YtbppfbkkphhjnaaGreat

namespace Go.Proofs.YtbppfbkkphhjnaaGreat
open Go.RowKit Go.WideShapes Go.ChangeShapes Go.ChangeAt
set_option linter.unusedVariables false
set_option linter.unusedSimpArgs false

theorem Tryz.cellsInt : Tryz.prog.cellsOf 3 = 1 := by kernel_rfl
theorem Tryz.cellsAcc : Tryz.prog.cellsOf 114 = 5 := by kernel_rfl
theorem Tryz.cellsBus : Tryz.prog.cellsOf 25 = 2 := by kernel_rfl
theorem Tryz.cellsBool : Tryz.prog.cellsOf 4 = 1 := by kernel_rfl
/-- from numbers at each place to the row of them -/
theorem Addr.add_add_own (a : Addr) (i j : Nat) : (a.add i).add j = a.add (i + j) := by
  unfold Addr.add
  by_cases hi : i = 0 <;> by_cases hj : j = 0 <;> simp [hi, hj, Nat.add_assoc]
set_option maxRecDepth 100000 in
theorem came_of {w : World} {x : Addr} {n : Nat} (h : ∀ i, i < n → ∃ z : Int, w.cell? (x.add i) = some (iv z) ∧ (Lit.int .i64 z).wf = true) : ∃ xs : List Int, xs.length = n ∧ Came w (some x) xs := by
  obtain ⟨f, hf⟩ := Go.Deep.choose_lt h
  refine ⟨(List.range n).map f, by simp, ?_, ?_⟩
  · intro i hi
    have hi' : i < n := by simpa using hi
    obtain ⟨g, off, spot⟩ := x
    have hspot : spot = none := by simpa [Addr.add] using World.cell?_spot (hf 0 (by omega)).1
    subst hspot
    refine ⟨g, off, rfl, ?_⟩
    have hc := (hf i hi').1
    by_cases h0 : i = 0
    · subst h0; simpa [Addr.add, hi'] using hc
    · simpa [Addr.add, h0, hi'] using hc
  · intro i hi
    have hi' : i < n := by simpa using hi
    have := bounds_i64 (hf i hi').2
    simpa [hi'] using this

section
variable {H : Type} {enc : TypeId × Value → H} {w : World} {base : Nat} {spare : Nat → Bool} {held : Bool}

set_option maxRecDepth 100000 in
theorem open_intRow {fuel : Nat} {v : Value} {y : DataW H × List MemPlace} (h : DataW.trod enc Tryz.prog w base spare held fuel 22 [v] = some y) :
    ∃ (a : Option Addr) (cap : Nat) (xs : List Int), v = .slice a xs.length cap ∧ Came w a xs ∧ xs.length ≤ maxLen := by
  rcases open_ints Tryz.underlying22 Tryz.underlying3 Tryz.cellsInt h with ⟨hc, _⟩ | ⟨x, len, cap, zs, hc, _, hl, hm, hz, _, hcell, hwz⟩
  · simp at hc
    exact ⟨none, 0, [], hc, ⟨fun i hi => absurd hi (Nat.not_lt_zero i), fun i hi => absurd hi (Nat.not_lt_zero i)⟩, Nat.zero_le _⟩
  · simp at hc
    have hlen : len ≤ zs.length := by rw [hz]; split <;> omega
    obtain ⟨xs, rfl, hx⟩ := came_of (w := w) (x := x) (n := len) (fun i hi => ⟨zs.getD i 0, hcell i (by omega), hwz _ (by
      have : i < zs.length := by omega
      simp [List.getD, this])⟩)
    exact ⟨some x, cap, xs, hc, hx, by omega⟩

set_option maxRecDepth 100000 in
theorem open_accRow {fuel : Nat} {v : Value} {y : DataW H × List MemPlace} (h : DataW.trod enc Tryz.prog w base spare held fuel 23 [v] = some y) :
    ∃ (a : Option Addr) (m cap : Nat) (ys : List Int), v = .slice a m cap ∧ Came w a ys ∧ ys.length = 5 * m ∧ m ≤ maxLen := by
  rcases Go.Deep.open_slice Tryz.underlying23 h with ⟨hc, _⟩ | ⟨x, len, cap, m, n, D, Pl, hc, _, hl, hm, hmm, _, hel⟩
  · simp at hc
    exact ⟨none, 0, 0, [], hc, ⟨fun i hi => absurd hi (Nat.not_lt_zero i), fun i hi => absurd hi (Nat.not_lt_zero i)⟩, rfl, Nat.zero_le _⟩
  · simp at hc
    have hlen : len ≤ m := by rw [hmm]; split <;> omega
    obtain ⟨ys, hy, hx⟩ := came_of (w := w) (x := x) (n := 5 * len) (by
      intro i hi
      obtain ⟨cs', h1, h2⟩ := hel (i / 5) (by omega)
      rw [Tryz.cellsAcc] at h1
      obtain ⟨_, hl5, hcs⟩ := World.cells?_some h1
      obtain ⟨zs, k, _, _, _, hzl, hf⟩ := DataW.trod_struct Tryz.underlying114 h2
      have hget := hcs (i % 5) (by omega)
      rw [Addr.add_add_own, show i / 5 * 5 + i % 5 = i from by omega] at hget
      rw [hget]
      obtain ⟨c0, c1, c2, c3, c4, rfl⟩ : ∃ c0 c1 c2 c3 c4, cs' = [c0, c1, c2, c3, c4] := by
        match cs', hl5 with
        | [c0, c1, c2, c3, c4], _ => exact ⟨c0, c1, c2, c3, c4, rfl⟩
      obtain ⟨z0, z1, z2, z3, z4, rfl⟩ : ∃ z0 z1 z2 z3 z4, zs = [z0, z1, z2, z3, z4] := by
        match zs, hzl with
        | [z0, z1, z2, z3, z4], _ => exact ⟨z0, z1, z2, z3, z4, rfl⟩
      have t0 := hf 0 _ rfl
      have t1 := hf 1 _ rfl
      have t2 := hf 2 _ rfl
      have t3 := hf 3 _ rfl
      have t4 := hf 4 _ rfl
      simp [Tryz.cellsInt] at t0 t1 t2 t3 t4
      obtain ⟨n0, e0, _, b0⟩ := DataW.trod_int Tryz.underlying3 t0
      obtain ⟨n1, e1, _, b1⟩ := DataW.trod_int Tryz.underlying3 t1
      obtain ⟨n2, e2, _, b2⟩ := DataW.trod_int Tryz.underlying3 t2
      obtain ⟨n3, e3, _, b3⟩ := DataW.trod_int Tryz.underlying3 t3
      obtain ⟨n4, e4, _, b4⟩ := DataW.trod_int Tryz.underlying3 t4
      simp at e0 e1 e2 e3 e4
      subst e0 e1 e2 e3 e4
      obtain h | h | h | h | h : i % 5 = 0 ∨ i % 5 = 1 ∨ i % 5 = 2 ∨ i % 5 = 3 ∨ i % 5 = 4 := by omega
      all_goals rw [h]
      · exact ⟨n0, rfl, b0⟩
      · exact ⟨n1, rfl, b1⟩
      · exact ⟨n2, rfl, b2⟩
      · exact ⟨n3, rfl, b3⟩
      · exact ⟨n4, rfl, b4⟩)
    exact ⟨some x, len, cap, ys, hc, hx, hy, by omega⟩

end
end Go.Proofs.YtbppfbkkphhjnaaGreat

namespace Go.Proofs.YtbppfbkkphhjnaaGreat
open Go.RowKit Go.WideShapes Go.ChangeShapes Go.ChangeAt
set_option linter.unusedVariables false
set_option maxRecDepth 100000
theorem Tryz.cellsOpnd : Tryz.prog.cellsOf 133 = 3 := by kernel_rfl
theorem Tryz.cellsIns : Tryz.prog.cellsOf 135 = 7 := by kernel_rfl
section
variable {H : Type} {enc : TypeId × Value → H} {w : World} {base : Nat} {spare : Nat → Bool} {held : Bool}
theorem open_insCells {fuel : Nat} {c0 c1 c2 c3 c4 c5 c6 : Value} {y : DataW H × List MemPlace} (h : DataW.trod enc Tryz.prog w base spare held fuel 135 [c0, c1, c2, c3, c4, c5, c6] = some y) :
    ∃ i0 i1 i2 i3 i4 i5 i6 : Int, (c0 = .int .i64 i0 ∧ c1 = .int .i64 i1 ∧ c2 = .int .i64 i2 ∧ c3 = .int .i64 i3 ∧ c4 = .int .i64 i4 ∧ c5 = .int .i64 i5 ∧ c6 = .int .i64 i6) ∧ (Lit.int .i64 i0).wf = true ∧ (Lit.int .i64 i1).wf = true ∧ (Lit.int .i64 i2).wf = true ∧ (Lit.int .i64 i3).wf = true ∧ (Lit.int .i64 i4).wf = true ∧ (Lit.int .i64 i5).wf = true ∧ (Lit.int .i64 i6).wf = true := by
  obtain ⟨zs, k, _, _, _, hzl, hf⟩ := DataW.trod_struct Tryz.underlying135 h
  obtain ⟨z0, z1, z2, z3, z4, rfl⟩ : ∃ z0 z1 z2 z3 z4, zs = [z0, z1, z2, z3, z4] := by
    match zs, hzl with
    | [z0, z1, z2, z3, z4], _ => exact ⟨z0, z1, z2, z3, z4, rfl⟩
  have t0 := hf 0 _ rfl
  have t1 := hf 1 _ rfl
  have t2 := hf 2 _ rfl
  have t3 := hf 3 _ rfl
  have t4 := hf 4 _ rfl
  simp [Tryz.cellsInt, Tryz.cellsOpnd] at t0 t1 t2 t3 t4
  obtain ⟨ys, k2, _, _, _, hyl, hg⟩ := DataW.trod_struct Tryz.underlying133 t3
  obtain ⟨y0, y1, y2, rfl⟩ : ∃ y0 y1 y2, ys = [y0, y1, y2] := by
    match ys, hyl with
    | [y0, y1, y2], _ => exact ⟨y0, y1, y2, rfl⟩
  have s0 := hg 0 _ rfl
  have s1 := hg 1 _ rfl
  have s2 := hg 2 _ rfl
  simp [Tryz.cellsInt] at s0 s1 s2
  obtain ⟨i0, e0, _, b0⟩ := DataW.trod_int Tryz.underlying3 t0
  obtain ⟨i1, e1, _, b1⟩ := DataW.trod_int Tryz.underlying3 t1
  obtain ⟨i2, e2, _, b2⟩ := DataW.trod_int Tryz.underlying3 t2
  obtain ⟨i3, e3, _, b3⟩ := DataW.trod_int Tryz.underlying3 s0
  obtain ⟨i4, e4, _, b4⟩ := DataW.trod_int Tryz.underlying3 s1
  obtain ⟨i5, e5, _, b5⟩ := DataW.trod_int Tryz.underlying3 s2
  obtain ⟨i6, e6, _, b6⟩ := DataW.trod_int Tryz.underlying3 t4
  simp at e0 e1 e2 e3 e4 e5 e6
  exact ⟨i0, i1, i2, i3, i4, i5, i6, ⟨e0, e1, e2, e3, e4, e5, e6⟩, b0, b1, b2, b3, b4, b5, b6⟩
theorem open_Bus {r : Reach} {b0 : Nat} {v : Value} {d : DataW H} {p : List MemPlace} (hv : Value.okWide Tryz.prog w r b0 25 v) (h : DataW.Trod enc Tryz.prog w base spare held 25 v d p) :
    ∃ (a : Option Addr) (ca : Nat) (xs : List Int) (b : Option Addr) (m cb : Nat) (ys : List Int), v = .agg #[.slice a xs.length ca, .slice b m cb] ∧ (Came w a xs ∧ xs.length ≤ maxLen) ∧ (Came w b ys ∧ ys.length = 5 * m ∧ m ≤ maxLen) := by
  obtain ⟨v0, v1, y0, y1, n, rfl, _, _, h0, h1⟩ := Go.Joins.open_agg2 Tryz.underlying25 (by kernel_rfl) Tryz.cellsBus hv h
  obtain ⟨a, ca, xs, rfl, hx, lx⟩ := open_intRow h0
  obtain ⟨b, m, cb, ys, rfl, hy, ly, lm⟩ := open_accRow h1
  exact ⟨a, ca, xs, b, m, cb, ys, rfl, ⟨hx, lx⟩, ⟨hy, ly, lm⟩⟩
end
theorem Tryz.cellsMicro : Tryz.prog.cellsOf 137 = 9 := by kernel_rfl
theorem Tryz.cellsMicros : Tryz.prog.cellsOf 41 = 1 := by kernel_rfl
theorem Tryz.cellsUnit : Tryz.prog.cellsOf 43 = 3 := by kernel_rfl
/-- the numbers of an instruction, in their order -/
def inC (y : Pl.In) : Nat → Int
  | 0 => y.op
  | 1 => y.z
  | 2 => y.r
  | 3 => y.m
  | 4 => y.k
  | 5 => y.e
  | _ => y.s
theorem micros_of {w : World} {x : Addr} {len : Nat} (h : ∀ k, k < len → ∃ r : Pl.In × Int × Bool, (∀ j, j < 7 → w.cell? (x.add (k * 9 + j)) = some (.int .i64 (inC r.1 j)) ∧ (Lit.int .i64 (inC r.1 j)).wf = true) ∧ w.cell? (x.add (k * 9 + 7)) = some (.int .i64 r.2.1) ∧ (Lit.int .i64 r.2.1).wf = true ∧ w.cell? (x.add (k * 9 + 8)) = some (.bool r.2.2)) :
    ∃ (ys ts : List Int) (sk : List Bool), MRow w (some x) len ys ts sk ∧ ys.length = 7 * len ∧ ts.length = len ∧ sk.length = len ∧ Wide ys ∧ Wide ts := by
  obtain ⟨f, hf⟩ : ∃ f : Nat → Pl.In × Int × Bool, ∀ k, k < len → ((∀ j, j < 7 → w.cell? (x.add (k * 9 + j)) = some (.int .i64 (inC (f k).1 j)) ∧ (Lit.int .i64 (inC (f k).1 j)).wf = true) ∧ w.cell? (x.add (k * 9 + 7)) = some (.int .i64 (f k).2.1) ∧ (Lit.int .i64 (f k).2.1).wf = true ∧ w.cell? (x.add (k * 9 + 8)) = some (.bool (f k).2.2)) := by
    have h2 : ∀ k, ∃ r : Pl.In × Int × Bool, k < len → ((∀ j, j < 7 → w.cell? (x.add (k * 9 + j)) = some (.int .i64 (inC r.1 j)) ∧ (Lit.int .i64 (inC r.1 j)).wf = true) ∧ w.cell? (x.add (k * 9 + 7)) = some (.int .i64 r.2.1) ∧ (Lit.int .i64 r.2.1).wf = true ∧ w.cell? (x.add (k * 9 + 8)) = some (.bool r.2.2)) := by
      intro k
      by_cases hk : k < len
      · obtain ⟨r, hr⟩ := h k hk
        exact ⟨r, fun _ => hr⟩
      · exact ⟨(Pl.inNo, 0, false), fun q => absurd q hk⟩
    exact ⟨fun k => Classical.choose (h2 k), fun k hk => Classical.choose_spec (h2 k) hk⟩
  obtain ⟨ys, hys⟩ : ∃ ys : List Int, ys = (List.range (7 * len)).map fun i => inC (f (i / 7)).1 (i % 7) := ⟨_, rfl⟩
  obtain ⟨ts, hts⟩ : ∃ ts : List Int, ts = (List.range len).map fun k => (f k).2.1 := ⟨_, rfl⟩
  obtain ⟨sk, hsk⟩ : ∃ sk : List Bool, sk = (List.range len).map fun k => (f k).2.2 := ⟨_, rfl⟩
  have ey : ∀ i, i < 7 * len → el ys i = inC (f (i / 7)).1 (i % 7) := fun i hi => by rw [hys]; unfold el; rw [List.getElem?_map, List.getElem?_range hi]; rfl
  have et : ∀ i, i < len → el ts i = (f i).2.1 := fun i hi => by rw [hts]; unfold el; rw [List.getElem?_map, List.getElem?_range hi]; rfl
  have es : ∀ i, i < len → bl sk i = (f i).2.2 := fun i hi => by rw [hsk]; unfold bl; rw [List.getElem?_map, List.getElem?_range hi]; rfl
  refine ⟨ys, ts, sk, ?_, by rw [hys]; simp, by rw [hts]; simp, by rw [hsk]; simp, ?_, ?_⟩
  · intro i hi
    rw [miL_len] at hi
    have hk : i / 9 < len := by omega
    obtain ⟨q7, q8, _, q9⟩ := hf (i / 9) hk
    obtain ⟨m7, m8, m9⟩ := miL_at ys ts sk hk
    have hc : w.cell? (x.add i) = some (vl (miL ys ts sk len) i) := by
      rcases Nat.lt_or_ge (i % 9) 7 with hj | hj
      · have e : i / 9 * 9 + i % 9 = i := by omega
        have h1 := (q7 (i % 9) hj).1
        have h2 := m7 (i % 9) hj
        rw [e] at h1 h2
        rw [h1, h2, ey _ (by omega), show (i / 9 * 7 + i % 9) / 7 = i / 9 from by omega, show (i / 9 * 7 + i % 9) % 7 = i % 9 from by omega]
      · rcases (show i % 9 = 7 ∨ i % 9 = 8 by omega) with h7 | h8
        · have e : i / 9 * 9 + 7 = i := by omega
          rw [e] at q8 m8
          rw [q8, m8, et _ hk]
        · have e : i / 9 * 9 + 8 = i := by omega
          rw [e] at q9 m9
          rw [q9, m9, es _ hk]
    obtain ⟨g, off, spot⟩ := x
    have hspot : spot = none := by
      have h0 := (hf 0 (by omega)).1 0 (by decide)
      simpa [Addr.add] using World.cell?_spot h0.1
    subst hspot
    refine ⟨g, off, rfl, ?_⟩
    by_cases h0 : i = 0
    · subst h0; simpa [Addr.add] using hc
    · simpa [Addr.add, h0] using hc
  · intro i hi
    have hi7 : i < 7 * len := by rw [hys] at hi; simpa using hi
    have hq := ((hf (i / 7) (by omega)).1 (i % 7) (by omega)).2
    rw [← ey i hi7] at hq
    have := bounds_i64 hq
    unfold el at this
    exact this
  · intro i hi
    have hi7 : i < len := by rw [hts] at hi; simpa using hi
    have hq := (hf i hi7).2.2.1
    rw [← et i hi7] at hq
    have := bounds_i64 hq
    unfold el at this
    exact this
section
variable {H : Type} {enc : TypeId × Value → H} {w : World} {base : Nat} {spare : Nat → Bool} {held : Bool}
theorem open_MicroRow {fuel : Nat} {v : Value} {y : DataW H × List MemPlace} (h : DataW.trod enc Tryz.prog w base spare held fuel 41 [v] = some y) :
    ∃ (a : Option Addr) (m cap : Nat) (ys ts : List Int) (sk : List Bool), v = .slice a m cap ∧ MRow w a m ys ts sk ∧ ys.length = 7 * m ∧ ts.length = m ∧ sk.length = m ∧ Wide ys ∧ Wide ts ∧ m ≤ maxLen := by
  rcases Go.Deep.open_slice Tryz.underlying41 h with ⟨hc, _⟩ | ⟨x, len, cap, m, n, D, Pl, hc, _, hl, hm, hmm, _, hel⟩
  · simp at hc
    exact ⟨none, 0, 0, [], [], [], hc, fun i hi => absurd hi (by simp [miL]), rfl, rfl, rfl, fun i hi => absurd hi (Nat.not_lt_zero i), fun i hi => absurd hi (Nat.not_lt_zero i), Nat.zero_le _⟩
  · simp at hc
    have hlen : len ≤ m := by rw [hmm]; split <;> omega
    obtain ⟨ys, ts, sk, h1, h2, h3, h4, h5, h6⟩ := micros_of (w := w) (x := x) (len := len) (by
      intro k hk
      obtain ⟨cs', h1, h2⟩ := hel k (by omega)
      rw [Tryz.cellsMicro] at h1
      obtain ⟨_, hl5, hcs⟩ := World.cells?_some h1
      obtain ⟨c0, c1, c2, c3, c4, c5, c6, c7, c8, rfl⟩ : ∃ c0 c1 c2 c3 c4 c5 c6 c7 c8, cs' = [c0, c1, c2, c3, c4, c5, c6, c7, c8] := by
        match cs', hl5 with
        | [c0, c1, c2, c3, c4, c5, c6, c7, c8], _ => exact ⟨c0, c1, c2, c3, c4, c5, c6, c7, c8, rfl⟩
      have hget : ∀ j, j < 9 → w.cell? (x.add (k * 9 + j)) = [c0, c1, c2, c3, c4, c5, c6, c7, c8][j]? := fun j hj => by
        have h9 := hcs j (by omega)
        rw [Addr.add_add_own] at h9
        exact h9
      obtain ⟨zs, k2, _, _, _, hzl, hf⟩ := DataW.trod_struct Tryz.underlying137 h2
      obtain ⟨z0, z1, z2, rfl⟩ : ∃ z0 z1 z2, zs = [z0, z1, z2] := by
        match zs, hzl with
        | [z0, z1, z2], _ => exact ⟨z0, z1, z2, rfl⟩
      have t0 := hf 0 _ rfl
      have t1 := hf 1 _ rfl
      have t2 := hf 2 _ rfl
      simp [Tryz.cellsInt, Tryz.cellsIns, Tryz.cellsBool] at t0 t1 t2
      obtain ⟨n0, n1, n2, n3, n4, n5, n6, ⟨e0, e1, e2, e3, e4, e5, e6⟩, b0, b1, b2, b3, b4, b5, b6⟩ := open_insCells t0
      obtain ⟨n7, e7, _, b7⟩ := DataW.trod_int Tryz.underlying3 t1
      obtain ⟨n8, e8, _⟩ := DataW.trod_bool Tryz.underlying4 t2
      simp at e7 e8
      subst e0 e1 e2 e3 e4 e5 e6 e7 e8
      refine ⟨(⟨n0, n1, n2, n3, n4, n5, n6⟩, n7, n8), ?_, hget 7 (by decide), b7, hget 8 (by decide)⟩
      intro j hj
      obtain rfl | rfl | rfl | rfl | rfl | rfl | rfl : j = 0 ∨ j = 1 ∨ j = 2 ∨ j = 3 ∨ j = 4 ∨ j = 5 ∨ j = 6 := by omega
      · exact ⟨hget 0 (by decide), b0⟩
      · exact ⟨hget 1 (by decide), b1⟩
      · exact ⟨hget 2 (by decide), b2⟩
      · exact ⟨hget 3 (by decide), b3⟩
      · exact ⟨hget 4 (by decide), b4⟩
      · exact ⟨hget 5 (by decide), b5⟩
      · exact ⟨hget 6 (by decide), b6⟩)
    exact ⟨some x, len, cap, ys, ts, sk, hc, h1, h2, h3, h4, h5, h6, by omega⟩
theorem open_Unit {r : Reach} {b0 : Nat} {v : Value} {d : DataW H} {p : List MemPlace} (hv : Value.okWide Tryz.prog w r b0 43 v) (h : DataW.Trod enc Tryz.prog w base spare held 43 v d p) :
    ∃ (i0 i1 : Int) (a2 : Option Addr) (m2 c2 : Nat) (y2 t2 : List Int) (s2 : List Bool), v = .agg #[.int .i64 i0, .int .i64 i1, .slice a2 m2 c2] ∧ (Lit.int .i64 i0).wf = true ∧ (Lit.int .i64 i1).wf = true ∧ (MRow w a2 m2 y2 t2 s2 ∧ y2.length = 7 * m2 ∧ t2.length = m2 ∧ s2.length = m2 ∧ Wide y2 ∧ Wide t2 ∧ m2 ≤ maxLen) := by
  obtain ⟨cs, rfl, hsz⟩ := okWide_struct Tryz.underlying43 hv
  rw [Tryz.cellsUnit] at hsz
  obtain ⟨cl⟩ := cs
  obtain ⟨c_0, c_1, c_2, rfl⟩ : ∃ c_0 c_1 c_2, cl = [c_0, c_1, c_2] := by
    match cl, hsz with
    | [c_0, c_1, c_2], _ => exact ⟨c_0, c_1, c_2, rfl⟩
  obtain ⟨fuel, hf0⟩ := h
  obtain ⟨zs, k, _, _, _, hzl, hf⟩ := DataW.trod_struct Tryz.underlying43 hf0
  obtain ⟨z_0, z_1, z_2, rfl⟩ : ∃ z_0 z_1 z_2, zs = [z_0, z_1, z_2] := by
    match zs, hzl with
    | [z_0, z_1, z_2], _ => exact ⟨z_0, z_1, z_2, rfl⟩
  have t0 := hf 0 _ rfl
  have t1 := hf 1 _ rfl
  have t2 := hf 2 _ rfl
  simp [Value.cells, Tryz.cellsInt, Tryz.cellsMicros] at t0 t1 t2
  obtain ⟨i0, q0, _, w0⟩ := DataW.trod_int Tryz.underlying3 t0
  obtain ⟨i1, q1, _, w1⟩ := DataW.trod_int Tryz.underlying3 t1
  obtain ⟨a2, m2, c2, y2, tt2, s2, q2, hh⟩ := open_MicroRow t2
  simp at q0 q1
  subst q0 q1 q2
  exact ⟨i0, i1, a2, m2, c2, y2, tt2, s2, rfl, w0, w1, hh⟩
end
end Go.Proofs.YtbppfbkkphhjnaaGreat

