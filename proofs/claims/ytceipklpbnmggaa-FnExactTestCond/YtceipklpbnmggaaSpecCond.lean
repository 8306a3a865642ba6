/- What the model's conditions answer. -/
import Derived.Test.YtceipklpbnmggaaCondPl
import Derived.Test.YtceipklpbnmggaaMore
import Derived.Test.YtceipklpbnmggaaBools
import Derived.Deep.AppendLies
namespace Go.Proofs.Ytceipklpbnmggaa
open Go.RowKit
set_option linter.unusedVariables false
theorem specEven (c : Int) (j : Nat) (hj : j < 32) (w : World) (hc : c = 0 ∨ c = 2 ∨ c = 4 ∨ c = 6 ∨ c = 8 ∨ c = 10 ∨ c = 12 ∨ c = 14) :
    Calls Try.prog 52 #[.int .i64 c, .int .i64 (j : Int)] w fun e w' => e = .returned (.bool (Pl.ev c j)) ∧ w' = w := by
  have HC := hide (Pl.bit_c j hj)
  have HV := hide (Pl.bit_v j hj)
  have HZ := hide (Pl.bit_z j hj)
  have HN := hide (Pl.bit_n j hj)
  have HX := hide (Pl.bit_cz j hj)
  rcases hc with rfl | rfl | rfl | rfl | rfl | rfl | rfl | rfl
  · go_enter Try.func52, Try.ntmps52
    go_wp2
    go_ret
    exact ⟨rB rfl, rfl⟩
  · go_enter Try.func52, Try.ntmps52
    go_wp2
    go_ret
    exact ⟨rB (by rw [HX.out]; rfl), rfl⟩
  · go_enter Try.func52, Try.ntmps52
    go_wp2
    go_ret
    exact ⟨rB (by rw [HC.out]; rfl), rfl⟩
  · go_enter Try.func52, Try.ntmps52
    go_wp2
    go_ret
    exact ⟨rB (by rw [HZ.out]; rfl), rfl⟩
  · go_enter Try.func52, Try.ntmps52
    go_wp2
    go_ret
    exact ⟨rB (by rw [HV.out]; rfl), rfl⟩
  · go_enter Try.func52, Try.ntmps52
    go_wp2
    go_ret
    exact ⟨rB (by rw [HN.out]; rfl), rfl⟩
  · go_enter Try.func52, Try.ntmps52
    go_wp2
    go_ret
    exact ⟨rB (by simp only [bne, HN.out, HV.out]; simp [Pl.ev]), rfl⟩
  · cases hl : ((bits .and .i64 (j : Int) 8 != 0) == (bits .and .i64 (j : Int) 2 != 0))
    · go_enter Try.func52, Try.ntmps52
      go_wp2
      go_ret
      exact ⟨rB (by simp only [bne, HN.out, HV.out] at hl; simp [Pl.ev]; simp at hl; simp [hl]), rfl⟩
    · go_enter Try.func52, Try.ntmps52
      go_wp2
      go_ret
      exact ⟨rB (by simp only [bne, HN.out, HV.out] at hl; rw [HZ.out]; simp [Pl.ev]; simp at hl; simp [hl]), rfl⟩
theorem specTst (k j : Nat) (hk : k < 16) (hj : j < 32) (w : World) :
    Calls Try.prog 36 #[.int .i64 (k : Int), .int .i64 (j : Int)] w fun e w' => e = .returned (.bool (Pl.tst k j)) ∧ w' = w := by
  have hE := Pl.bit_even k hk
  have hO := Pl.and1 (k : Int)
  go_enter Try.func36, Try.ntmps36
  go_wp2_with (go_at_call 52; refine (specEven _ j hj _ (by omega)).mono ?_; rintro e w' ⟨rfl, hw⟩; have hw2 := hw.symm; clear hw; subst hw2)
  go_ret
  exact ⟨rB (by unfold Pl.tst; rfl), rfl⟩
theorem l8Cond (k : Int) (w : World) : Calls Try.prog 34 #[.int .i64 k] w fun e w' => e = .returned (.bool (Pl.cOk k)) ∧ w' = w := by
  go_enter Try.func34, Try.ntmps34
  go_wp2_with (go_at_call 51; refine (l1In _ _ _ _).mono ?_; rintro e9 w9 ⟨rfl, hw⟩; have hw2 := hw.symm; clear hw; subst hw2)
  go_ret
  exact ⟨rfl, rfl⟩
theorem specTestCond (k f : Int) (w : World) : Calls Try.prog 12 #[.int .i64 k, .int .i64 f] w fun e w' => e = .returned (.tuple #[.bool ((Pl.cOk k && Pl.flags f) && Pl.tst k f), .bool (Pl.cOk k && Pl.flags f)]) ∧ w' = w := by
  cases hk : Pl.cOk k
  · go_enter Try.func12, Try.ntmps12
    go_wp2_with (go_at_call 34; refine (l8Cond _ _).mono ?_; rintro e9 w9 ⟨rfl, hw⟩; have hw2 := hw.symm; clear hw; subst hw2; rw [hk])
    go_ret2
    exact ⟨rfl, rfl⟩
  · cases hf : Pl.flags f
    · go_enter Try.func12, Try.ntmps12
      go_wp2_with (first | (go_at_call 34; refine (l8Cond _ _).mono ?_; rintro e9 w9 ⟨rfl, hw⟩; have hw2 := hw.symm; clear hw; subst hw2; rw [hk]) | (go_at_call 35; refine (l1Flags _ _).mono ?_; rintro e9 w9 ⟨rfl, hw⟩; have hw2 := hw.symm; clear hw; subst hw2; rw [hf]))
      go_ret2
      exact ⟨rfl, rfl⟩
    · obtain ⟨k0, k1⟩ := Pl.cOk_ok hk
      obtain ⟨f0, f1⟩ := Pl.flags_ok hf
      obtain ⟨n, hn, rfl⟩ := Pl.nat_of (n := 16) k0 (by omega)
      obtain ⟨j, hj, rfl⟩ := Pl.nat_of (n := 32) f0 (by omega)
      go_enter Try.func12, Try.ntmps12
      go_wp2_with (first | (go_at_call 34; refine (l8Cond _ _).mono ?_; rintro e9 w9 ⟨rfl, hw⟩; have hw2 := hw.symm; clear hw; subst hw2; rw [hk]) | (go_at_call 35; refine (l1Flags _ _).mono ?_; rintro e9 w9 ⟨rfl, hw⟩; have hw2 := hw.symm; clear hw; subst hw2; rw [hf]) | (go_at_call 36; refine (specTst n j hn hj _).mono ?_; rintro e9 w9 ⟨rfl, hw⟩; have hw2 := hw.symm; clear hw; subst hw2))
      go_ret2
      exact ⟨rfl, rfl⟩
theorem specNeed (k : Nat) (hk : k < 16) (w : World) : Calls Try.prog 39 #[.int .i64 (k : Int)] w fun e w' => e = .returned (.int .i64 (Pl.need k)) ∧ w' = w := by
  have hE := Pl.bit_even k hk
  have hc : (k : Int) - (k : Int) % 2 = 0 ∨ (k : Int) - (k : Int) % 2 = 2 ∨ (k : Int) - (k : Int) % 2 = 4 ∨ (k : Int) - (k : Int) % 2 = 6 ∨ (k : Int) - (k : Int) % 2 = 8 ∨ (k : Int) - (k : Int) % 2 = 10 ∨ (k : Int) - (k : Int) % 2 = 12 ∨ (k : Int) - (k : Int) % 2 = 14 := by omega
  rcases hc with h | h | h | h | h | h | h | h <;> (
    have G : Hid (Pl.need (k : Int) = _) := hide (by unfold Pl.need; rw [h])
    rw [h] at hE
    clear h
    go_enter Try.func39, Try.ntmps39
    go_wp2
    go_ret
    exact ⟨rI (by rw [G.out]; rfl), rfl⟩)
theorem specNeedsOf (k : Int) (w : World) : Calls Try.prog 18 #[.int .i64 k] w fun e w' => e = .returned (.tuple #[.int .i64 (Pl.needV k), .bool (Pl.cOk k)]) ∧ w' = w := by
  unfold Pl.needV
  cases hk : Pl.cOk k
  · go_enter Try.func18, Try.ntmps18
    go_wp2_with (go_at_call 34; refine (l8Cond _ _).mono ?_; rintro e9 w9 ⟨rfl, hw⟩; have hw2 := hw.symm; clear hw; subst hw2; rw [hk])
    go_ret2
    exact ⟨rfl, rfl⟩
  · obtain ⟨k0, k1⟩ := Pl.cOk_ok hk
    obtain ⟨n, hn, rfl⟩ := Pl.nat_of (n := 16) k0 (by omega)
    go_enter Try.func18, Try.ntmps18
    go_wp2_with (first | (go_at_call 34; refine (l8Cond _ _).mono ?_; rintro e9 w9 ⟨rfl, hw⟩; have hw2 := hw.symm; clear hw; subst hw2; rw [hk]) | (go_at_call 39; refine (specNeed n hn _).mono ?_; rintro e9 w9 ⟨rfl, hw⟩; have hw2 := hw.symm; clear hw; subst hw2))
    go_ret2
    exact ⟨rfl, rfl⟩
theorem specContraryOf (k : Int) (w : World) : Calls Try.prog 19 #[.int .i64 k] w fun e w' => e = .returned (.tuple #[.int .i64 (Pl.contrV k), .bool (Pl.cOk k)]) ∧ w' = w := by
  unfold Pl.contrV
  cases hk : Pl.cOk k
  · go_enter Try.func19, Try.ntmps19
    go_wp2_with (go_at_call 34; refine (l8Cond _ _).mono ?_; rintro e9 w9 ⟨rfl, hw⟩; have hw2 := hw.symm; clear hw; subst hw2; rw [hk])
    go_ret2
    exact ⟨rfl, rfl⟩
  · obtain ⟨k0, k1⟩ := Pl.cOk_ok hk
    obtain ⟨n, hn, rfl⟩ := Pl.nat_of (n := 16) k0 (by omega)
    have HO := hide (Pl.bit_odd n hn)
    go_enter Try.func19, Try.ntmps19
    go_wp2_with (go_at_call 34; refine (l8Cond _ _).mono ?_; rintro e9 w9 ⟨rfl, hw⟩; have hw2 := hw.symm; clear hw; subst hw2; rw [hk])
    go_ret2
    exact ⟨by rw [HO.out]; rfl, rfl⟩
theorem cnt_bd (f : Int) (n : Nat) : 0 ≤ Pl.cnt f n ∧ Pl.cnt f n ≤ n := by
  induction n with
  | zero => simp [Pl.cnt]
  | succ n ih =>
    simp only [Pl.cnt, Pl.fl]
    split <;> omega
theorem specCountTrue (f : Int) (w : World) : Calls Try.prog 21 #[.int .i64 f] w fun e w' => e = .returned (.tuple #[.int .i64 (Pl.cntV f), .bool (Pl.flags f)]) ∧ w' = w := by
  unfold Pl.cntV
  cases hf : Pl.flags f
  · go_enter Try.func21, Try.ntmps21
    go_wp2_with (go_at_call 35; refine (l1Flags _ _).mono ?_; rintro e9 w9 ⟨rfl, hw⟩; have hw2 := hw.symm; clear hw; subst hw2; rw [hf])
    go_ret2
    exact ⟨rfl, rfl⟩
  · obtain ⟨f0, f1⟩ := Pl.flags_ok hf
    obtain ⟨j, hj, rfl⟩ := Pl.nat_of (n := 32) f0 (by omega)
    go_enter Try.func21, Try.ntmps21
    go_wp2_with (go_at_call 35; refine (l1Flags _ _).mono ?_; rintro e9 w9 ⟨rfl, hw⟩; have hw2 := hw.symm; clear hw; subst hw2; rw [hf])
    go_loop [4, 5] (fun n i => ∃ k : Nat, k ≤ 16 ∧ i = .int .i64 k ∧ n = .int .i64 (Pl.cnt j k)) (fun _ i => 16 - (intOf i).toNat)
    case atStart => exact ⟨0, by omega, rfl, rfl⟩
    case round =>
      obtain ⟨k, hk, rfl, rfl⟩ := hrel
      by_cases hlt : k < 16
      · obtain ⟨c0, c1⟩ := cnt_bd j k
        have G : Hid (Pl.cnt (j : Int) (k + 1) = Pl.cnt j k + Pl.fl (Pl.tst k j) 1) := hide rfl
        have hb : 0 ≤ Pl.fl (Pl.tst k j) 1 ∧ Pl.fl (Pl.tst k j) 1 ≤ 1 := by unfold Pl.fl; split <;> omega
        obtain ⟨N, hN⟩ : ∃ N, Pl.cnt (j : Int) k = N := ⟨_, rfl⟩
        obtain ⟨M, hM⟩ : ∃ M, Pl.fl (Pl.tst k j) 1 = M := ⟨_, rfl⟩
        rw [hN] at c0 c1 G ⊢
        rw [hM] at hb G
        have HM := hide hM
        obtain ⟨b0, b1⟩ := hb
        clear hN hM
        go_wp2_with (first | (go_at_call 36; refine (specTst k j hlt hj _).mono ?_; rintro e9 w9 ⟨rfl, hw⟩; have hw2 := hw.symm; clear hw; subst hw2) | (go_at_call 40; refine (l1Flag _ _ _).mono ?_; rw [HM.out]; rintro e9 w9 ⟨rfl, hw⟩; have hw2 := hw.symm; clear hw; subst hw2))
        go_round
        case rel => exact ⟨k + 1, by omega, by go_num, by rw [G.out]⟩
        case measure => simp [intOf]; omega
      · obtain rfl : k = 16 := by omega
        go_wp2_with fail
        go_ret2
        exact ⟨rfl, rfl⟩
theorem cmpF_in (z a b : Int) (h : Pl.two z 0 a b = true) : ∃ j : Nat, j < 32 ∧ Pl.cmpF z 0 a b = (j : Int) ∧ bits .or .i64 (bits .and .i64 (Pl.subF z 0 a b) 15) (bits .and .i64 0 16) = (j : Int) := by
  obtain ⟨c, v, q, n, e, _⟩ := Pl.cmp_four h
  have e2 : bits .or .i64 (bits .and .i64 (Pl.subF z 0 a b) 15) (bits .and .i64 0 16) = Pl.cmpF z 0 a b := by
    unfold Pl.cmpF
    rw [h, show Pl.flags 0 = true from by decide]
    rfl
  have hb : 0 ≤ Pl.cmpF z 0 a b ∧ Pl.cmpF z 0 a b < 32 := by
    rw [e]
    cases c <;> cases v <;> cases q <;> cases n <;> decide
  obtain ⟨j, hj, ej⟩ := Pl.nat_of (n := 32) hb.1 hb.2
  exact ⟨j, hj, ej, by rw [e2, ej]⟩
theorem Try.infoBool : (Try.prog.info? 4).map (fun i => (i.zero, i.size, i.bytes)) = some (some (.bool false), 1, 1) := by kernel_rfl
set_option maxRecDepth 20000 in
set_option maxHeartbeats 4000000 in
theorem specCondFor (z a b : Int) (w : World) : Calls Try.prog 24 #[.int .i64 z, .int .i64 a, .int .i64 b] w fun e w' => ∃ (d : Option Addr) (c : Nat), e = .returned (.tuple #[.slice d (Pl.cf z a b).length c, .bool (Pl.two z 0 a b)]) ∧ BSlot w' w.heap.size w'.heap.size d (Pl.cf z a b) ∧ Kept 0 0 w w' := by
  cases h : Pl.two z 0 a b
  · have E : Hid (Pl.cf z a b = []) := hide (by simp [Pl.cf, h])
    go_enter Try.func24, Try.ntmps24
    go_wp2_with (go_at_call 45; refine (l1Two _ _ _ _ _).mono ?_; rintro e9 w9 ⟨rfl, hw⟩; have hw2 := hw.symm; clear hw; subst hw2; rw [h])
    go_ret2
    exact ⟨none, 0, by rw [E.out]; rfl, .inl ⟨rfl, E.out⟩, Kept.refl _ _ _⟩
  · obtain ⟨j, hj, ej, eo⟩ := cmpF_in z a b h
    have E : Hid (Pl.cf z a b = Pl.condL j 16) := hide (by simp [Pl.cf, h, ej])
    obtain ⟨i, hi0, hz0, hz1, hz2⟩ := info_parts Try.infoBool
    have EO := hide eo
    clear ej eo
    go_enter Try.func24, Try.ntmps24
    go_wp2_with (first | (go_at_call 45; refine (l1Two _ _ _ _ _).mono ?_; rintro e9 w9 ⟨rfl, hw⟩; have hw2 := hw.symm; clear hw; subst hw2; rw [h]) | (go_at_call 46; refine (l1Cmp _ _ _ _ _ h).mono ?_; rw [EO.out]; rintro e9 w9 ⟨rfl, hw⟩; have hw2 := hw.symm; clear hw; subst hw2))
    go_loopw [9, 10] (fun v q wr => ∃ k : Nat, k ≤ 16 ∧ q = .int .i64 k ∧ wr.ownsRow w.heap.size 4 1 v (Pl.condL j k).length ((Pl.condL j k).map Value.bool) ∧ Kept 0 0 w wr) (fun _ q _ => 16 - (intOf q).toNat)
    case atStart => exact ⟨0, by omega, rfl, World.ownsRow_nil _ _ _ _, Kept.refl _ _ _⟩
    case round =>
      obtain ⟨k, hk, rfl, hown, hkept⟩ := hrel
      have HK := hide hkept
      have HO := hide hown
      clear hkept hown
      by_cases hlt : k < 16
      · have G : Hid (Pl.condL (j : Int) (k + 1) = Pl.condL j k ++ [Pl.tst k j]) := hide (Pl.condL_snoc _ _)
        have HLL := hide (Pl.condL_len (j : Int) k)
        obtain ⟨B, hB⟩ : ∃ B, Pl.tst (k : Int) j = B := ⟨_, rfl⟩
        rw [hB] at G
        have HB := hide hB
        clear hB
        have O2 := hide (HO.out.alloc (.cells #[.bool B] 4))
        have BN := hide (Blk.new wr #[.bool B] 4)
        have s2 := HK.out.size
        go_wp2_with (first | (go_at_call 36; refine (specTst k j hlt hj _).mono ?_; rw [HB.out]; rintro e9 w9 ⟨rfl, hw⟩; have hw2 := hw.symm; clear hw; subst hw2) | (at_builtin; refine wpList_append_own _ rfl _ _ 33 rfl w.heap.size 4 i (.bool false) 1 1 Try.underlying33 hi0 hz0 hz1 hz2 rfl (by decide) _ _ _ rfl O2.out ⟨wr.heap.size, 0, none⟩ 1 1 [.bool B] rfl rfl ?c1 ?c2 ?c3 ?c4 ?c5 ?_))
        case c1 => exact World.news_of_block (cs := #[.bool B]) (t := 4) (fr := (0, 0)) BN.out
        case c2 => intro u hu; simp at hu; rcases hu with rfl; rfl
        case c3 => have := HLL.out; unfold maxLen; omega
        case c4 => have := HLL.out; omega
        case c5 => have := HLL.out; simp; omega
        intro v' w4 hown' hgr _
        have HO4 := hide hown'
        have K4 := hide (kept_over (kept_new HK.out (.cells #[.bool B] 4)) (kept_row (lo := w.heap.size) (hi := wr.heap.size + 1) hgr (fun g hg => by have q := O2.out.lt g hg; simpa using q)) (Nat.le_refl _))
        clear hown' hgr
        go_wp2_with fail
        go_roundw
        case rel => exact ⟨k + 1, by omega, by go_num, by rw [G.out, List.length_append, List.map_append]; exact HO4.out, K4.out⟩
        case measure => simp [intOf]; omega
      · obtain rfl : k = 16 := by omega
        obtain ⟨b2, cb, rfl, hS⟩ := bslot_row HO.out
        go_wp2_with fail
        go_ret2
        exact ⟨b2, cb, by rw [E.out]; rfl, by rw [E.out]; exact hS, HK.out⟩
end Go.Proofs.Ytceipklpbnmggaa
