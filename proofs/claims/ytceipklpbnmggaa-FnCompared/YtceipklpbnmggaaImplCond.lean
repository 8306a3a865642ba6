/- What the program's conditions (chapter 8) answer: one contract a function. -/
import Derived.Test.YtceipklpbnmggaaCondPl
import Derived.Test.YtceipklpbnmggaaMore
import Derived.Test.YtceipklpbnmggaaBools
import Derived.Test.YtceipklpbnmggaaSpecCond
namespace Go.Proofs.Ytceipklpbnmggaa
open Go.RowKit
set_option linter.unusedVariables false
namespace Pl
/-- does its question ask for both or none? -/
def both (k : Int) : Bool := k - k % 2 == 12 || k - k % 2 == 14
def said (b : Bool) (s : Int) : Bool := s == 0 || (b && s == 10)
theorem said_tst : ∀ k : Nat, k < 16 → ∀ f : Nat, f < 32 → (said (both (k : Int)) (bits .and .i64 (f : Int) (need (k : Int))) == ((k : Int) == bits .andNot .i64 (k : Int) 1)) = tst k f := by decide +kernel
theorem even_of : ∀ k : Nat, k < 16 → (bits .andNot .i64 (k : Int) 1 = 0 ∧ need k = 0 ∧ both k = false) ∨ (bits .andNot .i64 (k : Int) 1 = 2 ∧ need k = 5 ∧ both k = false) ∨ (bits .andNot .i64 (k : Int) 1 = 4 ∧ need k = 1 ∧ both k = false) ∨ (bits .andNot .i64 (k : Int) 1 = 6 ∧ need k = 4 ∧ both k = false) ∨ (bits .andNot .i64 (k : Int) 1 = 8 ∧ need k = 2 ∧ both k = false) ∨ (bits .andNot .i64 (k : Int) 1 = 10 ∧ need k = 8 ∧ both k = false) ∨ (bits .andNot .i64 (k : Int) 1 = 12 ∧ need k = 10 ∧ both k = true) ∨ (bits .andNot .i64 (k : Int) 1 = 14 ∧ need k = 14 ∧ both k = true) := by decide +kernel
end Pl
theorem store_fn (a : Addr) (fn : Fn) (m : Mode) (w : World) : (store a (.func fn #[] #[]) m).run Try.prog w = stored Try.prog w a (.func fn #[] #[]) m := run_store Try.prog w a _ m rfl
theorem evenOf (c : Int) (w : World) : Calls Try.prog 50 #[.int .i64 c] w fun e w' => e = .returned (.int .i64 (bits .andNot .i64 c 1)) ∧ w' = w := by
  go_enter Try.func50, Try.ntmps50
  go_wp2
  go_ret
  exact ⟨rfl, rfl⟩
theorem isCond (k : Int) (w : World) : Calls Try.prog 31 #[.int .i64 k] w fun e w' => e = .returned (.bool (Pl.cOk k)) ∧ w' = w := by
  by_cases h : 0 ≤ k
  · go_enter Try.func31, Try.ntmps31
    go_wp2
    go_ret
    exact ⟨rB (by unfold Pl.cOk; rw [Bool.eq_iff_iff]; simp; omega), rfl⟩
  · go_enter Try.func31, Try.ntmps31
    go_wp2
    go_ret
    exact ⟨rB (by unfold Pl.cOk; rw [Bool.eq_iff_iff]; simp; omega), rfl⟩
theorem isNone (s : Int) (w : World) : Calls Try.prog 53 #[.int .i64 s] w fun e w' => e = .returned (.bool (Pl.said false s)) ∧ w' = w := by
  go_enter Try.func53, Try.ntmps53
  go_wp2
  go_ret
  exact ⟨rB (by unfold Pl.said; simp), rfl⟩
theorem areBoth (s : Int) (w : World) : Calls Try.prog 54 #[.int .i64 s] w fun e w' => e = .returned (.bool (Pl.said true s)) ∧ w' = w := by
  by_cases h : s = 0
  · go_enter Try.func54, Try.ntmps54
    go_wp2
    go_ret
    exact ⟨rB (by unfold Pl.said; simp [h]), rfl⟩
  · go_enter Try.func54, Try.ntmps54
    go_wp2
    go_ret
    exact ⟨rB (by unfold Pl.said; simp), rfl⟩
def qV (k : Int) : Value := .agg #[.int .i64 (Pl.need k), .func (.func (bif Pl.both k then 54 else 53)) #[] #[]]
theorem questionOf (k : Nat) (hk : k < 16) (w : World) : Calls Try.prog 37 #[.int .i64 (k : Int)] w fun e w' => e = .returned (qV k) ∧ Kept 0 0 w w' := by
  have hst := store_fn
  rcases Pl.even_of k hk with ⟨hE, hn, hb⟩ | ⟨hE, hn, hb⟩ | ⟨hE, hn, hb⟩ | ⟨hE, hn, hb⟩ | ⟨hE, hn, hb⟩ | ⟨hE, hn, hb⟩ | ⟨hE, hn, hb⟩ | ⟨hE, hn, hb⟩
  all_goals
    unfold qV
    rw [hn, hb]
    clear hn hb
    simp only [cond_true, cond_false]
    go_enter Try.func37, Try.ntmps37
    go_wp2_with (go_at_call 50; refine (evenOf _ _).mono ?_; rintro e9 w9 ⟨rfl, hw⟩; have hw2 := hw.symm; clear hw; subst hw2; rw [hE])
    refine bodyPost_ret (v := _) ?_ rfl ⟨rfl, ?_⟩
    · rw [results_one rfl]; go_simp
    · exact kept_alloc _ _
theorem condHolds (k j : Nat) (hk : k < 16) (hj : j < 32) (w : World) : Calls Try.prog 33 #[.int .i64 (k : Int), .int .i64 (j : Int)] w fun e w' => e = .returned (.bool (Pl.tst k j)) ∧ Kept 0 0 w w' := by
  have hst := store_fn
  rw [← Pl.said_tst k hk j hj]
  cases hb : Pl.both (k : Int)
  · have hQ : qV k = .agg #[.int .i64 (Pl.need k), .func (.func 53) #[] #[]] := by unfold qV; rw [hb]; rfl
    go_enter Try.func33, Try.ntmps33
    go_wp2_with fail
    refine (questionOf k hk _).mono ?_
    rintro e9 W ⟨rfl, hk9⟩
    rw [hQ]
    have HK := hide hk9
    clear hk9
    go_wp2_with (first | (go_at_call 53; refine (isNone _ _).mono ?_; rintro e9 w9 ⟨rfl, hw⟩; have hw2 := hw.symm; clear hw; subst hw2) | (go_at_call 50; refine (evenOf _ _).mono ?_; rintro e9 w9 ⟨rfl, hw⟩; have hw2 := hw.symm; clear hw; subst hw2))
    go_ret
    exact ⟨rfl, kept_new HK.out _⟩
  · have hQ : qV k = .agg #[.int .i64 (Pl.need k), .func (.func 54) #[] #[]] := by unfold qV; rw [hb]; rfl
    go_enter Try.func33, Try.ntmps33
    go_wp2_with fail
    refine (questionOf k hk _).mono ?_
    rintro e9 W ⟨rfl, hk9⟩
    rw [hQ]
    have HK := hide hk9
    clear hk9
    go_wp2_with (first | (go_at_call 54; refine (areBoth _ _).mono ?_; rintro e9 w9 ⟨rfl, hw⟩; have hw2 := hw.symm; clear hw; subst hw2) | (go_at_call 50; refine (evenOf _ _).mono ?_; rintro e9 w9 ⟨rfl, hw⟩; have hw2 := hw.symm; clear hw; subst hw2))
    go_ret
    exact ⟨rfl, kept_new HK.out _⟩
theorem looks_of (x : Int) (fn : Fn) (w : World) : (Instr.field 49 (.agg #[.int .i64 x, .func fn #[] #[]]) 0).run Try.prog w = .ok (.int .i64 x) w := by kernel_rfl
theorem implNeedsOf (w : World) (k : Int) (wfk : (Lit.int .i64 k).wf = true) : Calls Try.prog 14 #[.int .i64 k] w fun e w' => e = .returned (.tuple #[.int .i64 (Pl.needV k), .bool (Pl.cOk k)]) ∧ Kept 0 0 w w' := by
  have hfl := looks_of
  cases hk : Pl.cOk k
  · have HV : Hid (Pl.needV k = 0) := hide (by simp [Pl.needV, hk])
    go_enter Try.func14, Try.ntmps14
    go_wp2_with (go_at_call 31; refine (isCond _ _).mono ?_; rintro e9 w9 ⟨rfl, hw⟩; have hw2 := hw.symm; clear hw; subst hw2; rw [hk])
    go_ret2
    exact ⟨rIB HV.out.symm rfl, Kept.refl _ _ _⟩
  · have HV : Hid (Pl.needV k = Pl.need k) := hide (by simp [Pl.needV, hk])
    obtain ⟨k0, k1⟩ := Pl.cOk_ok hk
    obtain ⟨n, hn, rfl⟩ := Pl.nat_of (n := 16) k0 (by omega)
    clear k0 k1
    go_enter Try.func14, Try.ntmps14
    go_wp2_with (first | (go_at_call 31; refine (isCond _ _).mono ?_; rintro e9 w9 ⟨rfl, hw⟩; have hw2 := hw.symm; clear hw; subst hw2; rw [hk]) | (go_at_call 37; refine (questionOf n hn _).mono ?_; rintro e9 W ⟨rfl, hk9⟩; unfold qV; have HK := hide hk9; clear hk9))
    go_ret2
    exact ⟨rIB HV.out.symm rfl, HK.out⟩
theorem implContraryOf (w : World) (k : Int) (wfk : (Lit.int .i64 k).wf = true) : Calls Try.prog 13 #[.int .i64 k] w fun e w' => e = .returned (.tuple #[.int .i64 (Pl.contrV k), .bool (Pl.cOk k)]) ∧ Kept 0 0 w w' := by
  cases hk : Pl.cOk k
  · have HV : Hid (Pl.contrV k = 0) := hide (by simp [Pl.contrV, hk])
    go_enter Try.func13, Try.ntmps13
    go_wp2_with (go_at_call 31; refine (isCond _ _).mono ?_; rintro e9 w9 ⟨rfl, hw⟩; have hw2 := hw.symm; clear hw; subst hw2; rw [hk])
    go_ret2
    exact ⟨rIB HV.out.symm rfl, Kept.refl _ _ _⟩
  · obtain ⟨k0, k1⟩ := Pl.cOk_ok hk
    obtain ⟨n, hn, rfl⟩ := Pl.nat_of (n := 16) k0 (by omega)
    clear k0 k1
    have HV : Hid (Pl.contrV n = bits .xor .i64 (n : Int) 1) := hide (by rw [Pl.bit_odd n hn]; simp [Pl.contrV, hk])
    go_enter Try.func13, Try.ntmps13
    go_wp2_with (go_at_call 31; refine (isCond _ _).mono ?_; rintro e9 w9 ⟨rfl, hw⟩; have hw2 := hw.symm; clear hw; subst hw2; rw [hk])
    go_ret2
    exact ⟨rIB HV.out.symm rfl, Kept.refl _ _ _⟩
theorem implTestCond (w : World) (k f : Int) (wfk : (Lit.int .i64 k).wf = true) (wff : (Lit.int .i64 f).wf = true) : Calls Try.prog 11 #[.int .i64 k, .int .i64 f] w fun e w' => e = .returned (.tuple #[.bool ((Pl.cOk k && Pl.flags f) && Pl.tst k f), .bool (Pl.cOk k && Pl.flags f)]) ∧ Kept 0 0 w w' := by
  cases hk : Pl.cOk k
  · go_enter Try.func11, Try.ntmps11
    go_wp2_with (go_at_call 31; refine (isCond _ _).mono ?_; rintro e9 w9 ⟨rfl, hw⟩; have hw2 := hw.symm; clear hw; subst hw2; rw [hk])
    go_ret2
    exact ⟨rfl, Kept.refl _ _ _⟩
  · cases hf : Pl.flags f
    · go_enter Try.func11, Try.ntmps11
      go_wp2_with (first | (go_at_call 31; refine (isCond _ _).mono ?_; rintro e9 w9 ⟨rfl, hw⟩; have hw2 := hw.symm; clear hw; subst hw2; rw [hk]) | (go_at_call 32; refine (isFlags _ _).mono ?_; rintro e9 w9 ⟨rfl, hw⟩; have hw2 := hw.symm; clear hw; subst hw2; rw [hf]))
      go_ret2
      exact ⟨rfl, Kept.refl _ _ _⟩
    · obtain ⟨k0, k1⟩ := Pl.cOk_ok hk
      obtain ⟨f0, f1⟩ := Pl.flags_ok hf
      obtain ⟨n, hn, rfl⟩ := Pl.nat_of (n := 16) k0 (by omega)
      obtain ⟨j, hj, rfl⟩ := Pl.nat_of (n := 32) f0 (by omega)
      clear k0 k1 f0 f1
      simp only [Bool.and_self, Bool.true_and]
      go_enter Try.func11, Try.ntmps11
      go_wp2_with (first | (go_at_call 31; refine (isCond _ _).mono ?_; rintro e9 w9 ⟨rfl, hw⟩; have hw2 := hw.symm; clear hw; subst hw2; rw [hk]) | (go_at_call 32; refine (isFlags _ _).mono ?_; rintro e9 w9 ⟨rfl, hw⟩; have hw2 := hw.symm; clear hw; subst hw2; rw [hf]) | (go_at_call 33; refine (condHolds n j hn hj _).mono ?_; rintro e9 W ⟨rfl, hk9⟩; have HK := hide hk9; clear hk9))
      go_ret2
      exact ⟨rfl, HK.out⟩
theorem mk16 (w : World) : (Instr.makeSlice 33 (.int .i64 16) (.int .i64 16)).run Try.prog w = .ok (.slice (some ⟨w.heap.size, 0, none⟩) 16 16) (w.alloc (.cells (Array.replicate 16 (.bool false)) 4)) := by kernel_rfl
theorem condL_at (f : Int) (n i : Nat) (h : i < n) : (Pl.condL f n)[i]?.getD false = Pl.tst (i : Int) f := by simp [Pl.condL, h]
theorem bown_new (w : World) : BOwn (w.alloc (.cells (Array.replicate 16 (.bool false)) 4)) w.heap.size (List.replicate 16 false) := by
  have B := Blk.new w (Array.replicate 16 (.bool false)) 4
  intro i hi
  have hi2 : i < 16 := by simpa using hi
  refine ⟨?_, B.frozen i⟩
  rw [B.cell (i := i) (v := .bool false) (by rw [Array.getElem?_replicate, if_pos hi2]), List.getElem?_replicate, if_pos hi2]
  rfl
theorem tellAll (j : Nat) (hj : j < 32) (w : World) : Calls Try.prog 38 #[.int .i64 (j : Int)] w fun e w' => e = .returned (.slice (some ⟨w.heap.size, 0, none⟩) 16 16) ∧ BOwn w' w.heap.size (Pl.condL j 16) ∧ Kept 0 0 w w' ∧ w.heap.size < w'.heap.size := by
  have mk := mk16
  have B := bown_new w
  have K : Kept 0 0 w (w.alloc (.cells (Array.replicate 16 (.bool false)) 4)) := kept_alloc _ _
  have S : w.heap.size < (w.alloc (.cells (Array.replicate 16 (.bool false)) 4)).heap.size := by rw [World.size_alloc]; omega
  go_enter Try.func38, Try.ntmps38
  go_wp2_with fail
  clear mk
  generalize w.alloc (.cells (Array.replicate 16 (.bool false)) 4) = W0 at *
  go_loopw [8] (fun m wr => ∃ (k : Nat) (zs : List Bool), k ≤ 16 ∧ m = .int .i64 k ∧ zs.length = 16 ∧ BOwn wr w.heap.size zs ∧ (∀ i, i < k → zs[i]?.getD false = Pl.tst (i : Int) j) ∧ Kept 0 0 w wr ∧ w.heap.size < wr.heap.size) (fun m _ => 16 - (intOf m).toNat)
  case atStart => exact ⟨0, List.replicate 16 false, by omega, rfl, by simp, B, fun i hi => absurd hi (Nat.not_lt_zero i), K, S⟩
  case round =>
    obtain ⟨k, zs, hk, rfl, hl, hown, heq, hK, hS⟩ := hrel
    have HE : Hid (∀ i, i < k → zs[i]?.getD false = Pl.tst (i : Int) j) := heq
    have HL : Hid (zs.length = 16) := hl
    have HO := hide hown
    have HK := hide hK
    have HS := hide hS
    clear heq B K S hl hown hK hS
    by_cases hlt : k < 16
    · go_wp2_with (go_at_call 33; refine (condHolds k j hlt hj _).mono ?_; rintro e9 W ⟨rfl, k9⟩; have HO2 := hide (HO.out.keptS k9 (by omega)); obtain ⟨hc2, hf2⟩ := HO2.out k (by have := HL.out; omega); have HK2 := hide (HK.out.trans k9); have HS2 := hide (Nat.lt_of_lt_of_le HS.out k9.size); clear k9)
      go_roundw
      case rel => exact ⟨k + 1, zs.set k (Pl.tst (k : Int) j), by omega, by go_num, by rw [List.length_set]; exact HL.out, HO2.out.set _, (fun i hi => by
        by_cases e : k = i
        · subst e; have := HL.out; simp [show k < zs.length by omega]
        · rw [List.getElem?_set_ne e]; exact HE.out i (by omega)), kept_set HK2.out _ _ _ (.inr (Nat.le_refl _)), by simpa using HS2.out⟩
      case measure => simp [intOf]; omega
    · obtain rfl : k = 16 := by omega
      go_wp2
      go_ret
      have e : zs = Pl.condL j 16 := extB (by rw [Pl.condL_len]; exact HL.out) (fun i hi => by rw [condL_at _ _ i (by have := HL.out; omega)]; exact HE.out i (by have := HL.out; omega))
      exact ⟨rfl, by rw [← e]; exact HO.out, HK.out, HS.out⟩
theorem implCountTrue (w : World) (f : Int) (wff : (Lit.int .i64 f).wf = true) : Calls Try.prog 16 #[.int .i64 f] w fun e w' => e = .returned (.tuple #[.int .i64 (Pl.cntV f), .bool (Pl.flags f)]) ∧ Kept 0 0 w w' := by
  cases hf : Pl.flags f
  · have HV : Hid (Pl.cntV f = 0) := hide (by simp [Pl.cntV, hf])
    go_enter Try.func16, Try.ntmps16
    go_wp2_with (go_at_call 32; refine (isFlags _ _).mono ?_; rintro e9 w9 ⟨rfl, hw⟩; have hw2 := hw.symm; clear hw; subst hw2; rw [hf])
    go_ret2
    exact ⟨rIB HV.out.symm rfl, Kept.refl _ _ _⟩
  · obtain ⟨f0, f1⟩ := Pl.flags_ok hf
    obtain ⟨j, hj, rfl⟩ := Pl.nat_of (n := 32) f0 (by omega)
    have HV : Hid (Pl.cntV j = Pl.cnt j 16) := hide (by simp [Pl.cntV, hf])
    clear f0 f1
    go_enter Try.func16, Try.ntmps16
    go_wp2_with (first | (go_at_call 32; refine (isFlags _ _).mono ?_; rintro e9 w9 ⟨rfl, hw⟩; have hw2 := hw.symm; clear hw; subst hw2; rw [hf]) | (go_at_call 38; refine (tellAll j hj _).mono ?_; rintro e9 W ⟨rfl, hB, hK, hS⟩; have HB := hide hB; have HK := hide hK; clear hB hK hS))
    go_loopw [4, 13] (fun c m wr => ∃ k : Nat, k ≤ 16 ∧ m = .int .i64 k ∧ c = .int .i64 (Pl.cnt j k) ∧ wr = W) (fun _ m _ => 16 - (intOf m).toNat)
    case atStart => exact ⟨0, by omega, rfl, rfl, rfl⟩
    case round =>
      obtain ⟨k, hk, rfl, rfl, rfl⟩ := hrel
      by_cases hlt : k < 16
      · obtain ⟨hc2, _⟩ := HB.out k (by rw [Pl.condL_len]; exact hlt)
        rw [condL_at _ _ k hlt] at hc2
        have hb := cnt_bd j k
        cases ht : Pl.tst (k : Int) j
        · rw [ht] at hc2
          go_wp2
          go_roundw
          case rel => exact ⟨k + 1, by omega, by go_num, by simp [Pl.cnt, ht, Pl.fl], trivial⟩
          case measure => simp [intOf]; omega
        · rw [ht] at hc2
          go_wp2
          go_roundw
          case rel => exact ⟨k + 1, by omega, by go_num, by simp [Pl.cnt, ht, Pl.fl], trivial⟩
          case measure => simp [intOf]; omega
      · obtain rfl : k = 16 := by omega
        go_wp2
        go_ret2
        exact ⟨rIB HV.out.symm rfl, HK.out⟩
theorem implCondFor (w : World) (z a b : Int) (wfz : (Lit.int .i64 z).wf = true) (wfa : (Lit.int .i64 a).wf = true) (wfb : (Lit.int .i64 b).wf = true) : Calls Try.prog 23 #[.int .i64 z, .int .i64 a, .int .i64 b] w fun e w' => ∃ (d : Option Addr) (c : Nat), e = .returned (.tuple #[.slice d (Pl.cf z a b).length c, .bool (Pl.two z 0 a b)]) ∧ BSlot w' w.heap.size w'.heap.size d (Pl.cf z a b) ∧ Kept 0 0 w w' := by
  obtain ⟨la, ha⟩ := bounds_i64 wfa
  obtain ⟨lb, hb⟩ := bounds_i64 wfb
  have hf0 : Pl.flags 0 = true := by decide
  cases h : Pl.two z 0 a b
  · have E : Hid (Pl.cf z a b = []) := hide (by simp [Pl.cf, h])
    go_enter Try.func23, Try.ntmps23
    go_wp2_with (go_at_call 44; refine (cmpFlags _ _ _ _ _ la ha lb hb).mono ?_; rintro e9 w9 ⟨rfl, hw⟩; have hw2 := hw.symm; clear hw; subst hw2; rw [h, hf0])
    go_ret2
    exact ⟨none, 0, by rw [E.out]; rfl, .inl ⟨rfl, E.out⟩, Kept.refl _ _ _⟩
  · obtain ⟨j, hj, ej, _⟩ := cmpF_in z a b h
    have E : Hid (Pl.cf z a b = Pl.condL j 16) := hide (by simp [Pl.cf, h, ej])
    go_enter Try.func23, Try.ntmps23
    go_wp2_with (first | (go_at_call 44; refine (cmpFlags _ _ _ _ _ la ha lb hb).mono ?_; rintro e9 w9 ⟨rfl, hw⟩; have hw2 := hw.symm; clear hw; subst hw2; rw [h, hf0, ej]) | (go_at_call 38; refine (tellAll j hj _).mono ?_; rintro e9 W ⟨rfl, hB, hK, hS⟩; have HB := hide hB; have HK := hide hK; have HS := hide hS; clear hB hK hS))
    go_ret2
    exact ⟨_, 16, by rw [E.out, Pl.condL_len]; rfl, .inr ⟨_, rfl, Nat.le_refl _, HS.out, by rw [E.out]; exact HB.out⟩, HK.out⟩
end Go.Proofs.Ytceipklpbnmggaa
