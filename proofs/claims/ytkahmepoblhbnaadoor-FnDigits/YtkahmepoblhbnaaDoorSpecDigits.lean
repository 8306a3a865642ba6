/- What the model of AddDigits answers for every two lists. -/
import Derived.Test.YtkahmepoblhbnaaDoorLists
import Derived.Test.YtkahmepoblhbnaaDoorSpecBcd
import Derived.Test.YtkahmepoblhbnaaDoorDigits
namespace Go.Proofs.YtkahmepoblhbnaaDoor
open Go.RowKit
set_option linter.unusedVariables false

def dpart (xs ys : List Int) (k : Nat) : List Int := (List.range k).map (Pl.dV xs ys)
theorem dpart_len (xs ys : List Int) (k : Nat) : (dpart xs ys k).length = k := by simp [dpart]
theorem dpart_succ (xs ys : List Int) (k : Nat) : dpart xs ys (k + 1) = dpart xs ys k ++ [Pl.dV xs ys k] := by simp [dpart, List.range_succ]

theorem specAddDigits_fits (w : World) (a b : Option Addr) (ca cb : Nat) (xs ys : List Int) (ha : IRow w a xs) (hb : IRow w b ys) (hf : xs.length = ys.length) (h1 : 1 ≤ xs.length) (h8 : xs.length ≤ 8) :
    Calls Tryd.prog 24 #[.slice a xs.length ca, .slice b ys.length cb] w fun e w' => ∃ v, e = .returned (.tuple #[v, .int .i64 (Pl.digC xs ys), .bool (Pl.digOk xs ys)]) ∧ Res w' w.heap.size v (Pl.digL xs ys) ∧ w.grownBy w' none := by
  obtain ⟨i, hi, hz0, hz1, hz2⟩ := info_parts Tryd.info3
  have kl : (((ys.length : Nat) : Int) != ((xs.length : Nat) : Int)) = false := by simp [hf]
  have kd : (decide ((1 : Int) ≤ (xs.length : Int)) && decide ((xs.length : Int) ≤ 8)) = true := by simp; omega
  have HL : Hid (xs.length = ys.length) := hf
  have l2 : ys.length ≤ 8 := by omega
  clear hf
  go_enter Tryd.func24, Tryd.ntmps24
  go_wp2_with fail
  refine (l1In _ _ _ _).mono ?_
  rintro e w' ⟨rfl, rfl⟩
  go_wp2_with fail
  go_loopw [7, 8, 26] (fun v x j wr => ∃ k : Nat, k ≤ xs.length ∧ j = .int .i64 k ∧ x = .int .i64 (Pl.dC xs ys k) ∧
      wr.ownsRow w'.heap.size 3 1 v k ((dpart xs ys k).map (Value.int .i64)) ∧ (∀ i, i < k → Pl.dO xs ys i = true) ∧ w'.grownBy wr none) (fun _ _ j _ => xs.length - (intOf j).toNat)
  case atStart => exact ⟨0, Nat.zero_le _, rfl, rfl, World.ownsRow_nil _ _ _ _, fun i hi => absurd hi (Nat.not_lt_zero i), World.grownBy.refl _ _⟩
  case round =>
    obtain ⟨k, hk, rfl, rfl, hown, hok, hgr⟩ := hrel
    by_cases hlt : k < xs.length
    · obtain ⟨g1, o1, rfl, hc1⟩ := ha.kept hgr k hlt
      obtain ⟨g2, o2, rfl, hc2⟩ := hb.kept hgr k (by have := HL.out; omega)
      have hlt2 : k < ys.length := by have := HL.out; omega
      generalize hx : xs[k]?.getD 0 = x at hc1
      generalize hy : ys[k]?.getD 0 = y at hc2
      generalize hF : Pl.dC xs ys k = C
      have HX := hide hx
      have HY := hide hy
      have HF := hide hF
      have HO := hide hok
      clear hx hy hF hok ha hb
      cases ko : Pl.two2 C x y
      · go_wp2_with fail
        go_quiet ((go_at_call 12; exact Calls.quiet_of_same (specAddBcd _ _ _ _)))
        go_wp2_with fail
        go_ret3
        have kn : Pl.digOk xs ys = false := Pl.digOk_not hlt (by rw [Pl.dO_at HF.out HX.out HY.out]; exact ko)
        exact ⟨.slice none 0 0, rVIB (by simp [Pl.digC, kn]) kn.symm, .inl ⟨rfl, by simp [Pl.digL, kn]⟩, grownBy_drewN hgr _⟩
      · go_wp2_with fail
        go_quiet ((go_at_call 12; exact Calls.quiet_of_same (specAddBcd _ _ _ _)))
        generalize hV : Pl.aV C x y = V
        have HV := hide hV
        clear hV
        go_wp2_with (at_builtin; refine wpList_append_own _ rfl _ _ 32 rfl w'.heap.size 3 i (.int .i64 0) 1 8 Tryd.underlying32 hi hz0 hz1 hz2 rfl (by decide) _ _ _ rfl (World.ownsRow.alloc (w := wr.drewN nq) hown _) ⟨wr.heap.size, 0, none⟩ 1 1 [.int .i64 V] rfl rfl ?c1 ?c2 ?c3 ?c4 ?c5 ?_)
        case c1 => exact cell_one_new _ _ _
        case c2 => intro u hu; simp at hu; subst hu; rfl
        case c3 => unfold maxLen; omega
        case c4 => omega
        case c5 => have := hgr.size; simp; omega
        intro v' w1 hown' hgrow _
        go_wp2_with fail
        go_roundw
        case rel =>
          have hVk := Pl.dV_at HF.out HX.out HY.out
          have hl := hown.lt
          exact ⟨k + 1, by omega, by go_num, by rw [Pl.dC_next HF.out HX.out HY.out], by rw [dpart_succ, List.map_append, hVk, HV.out]; exact hown', snoc_all HO.out (by rw [Pl.dO_at HF.out HX.out HY.out]; exact ko), grown_new (grownBy_trans (grownBy_drewN hgr nq) (World.grownBy_alloc _ _ _)) hgrow (fun j hj => (hl j hj).1)⟩
        case measure => simp [intOf]; omega
    · obtain rfl : k = xs.length := by omega
      have HO := hide hok
      clear hok ha hb
      go_wp2_with fail
      go_ret3
      have kn : Pl.digOk xs ys = true := Pl.digOk_of (by simp [Pl.dfits, HL.out.symm, h1, h8]) HO.out
      have eL : dpart xs ys xs.length = Pl.digL xs ys := by rw [Pl.digL, if_pos kn]; rfl
      exact ⟨_, rVIB (by rw [Pl.digC, if_pos kn]) kn.symm, by rw [← eL]; exact res_of_row (by rw [dpart_len]; exact hown), hgr⟩

theorem specAddDigits_unfit (w : World) (a b : Option Addr) (ca cb : Nat) (xs ys : List Int) (lx : xs.length ≤ 2000000) (ly : ys.length ≤ 2000000) (h : ¬ (xs.length = ys.length ∧ 1 ≤ xs.length ∧ xs.length ≤ 8)) :
    Calls Tryd.prog 24 #[.slice a xs.length ca, .slice b ys.length cb] w fun e w' => ∃ v, e = .returned (.tuple #[v, .int .i64 (Pl.digC xs ys), .bool (Pl.digOk xs ys)]) ∧ Res w' w.heap.size v (Pl.digL xs ys) ∧ w.grownBy w' none := by
  have kn : Pl.digOk xs ys = false := by simp only [Pl.digOk, Pl.dfits, h, decide_false, Bool.false_and]
  have HK : Hid (Pl.digOk xs ys = false) := kn
  have HF : Hid (Pl.digC xs ys = 0) := hide (by simp [Pl.digC, kn])
  have HV : Hid (Pl.digL xs ys = []) := hide (by simp [Pl.digL, kn])
  clear kn
  by_cases hr : 1 ≤ xs.length ∧ xs.length ≤ 8
  · have kd : (decide ((1 : Int) ≤ (xs.length : Int)) && decide ((xs.length : Int) ≤ 8)) = true := by simp; omega
    have kl : (((ys.length : Nat) : Int) != ((xs.length : Nat) : Int)) = true := by rw [bne_iff_ne]; omega
    clear h hr
    go_enter Tryd.func24, Tryd.ntmps24
    go_wp2_with fail
    refine (l1In _ _ _ _).mono ?_
    rintro e w' ⟨rfl, rfl⟩
    go_wp2_with fail
    go_ret3
    exact ⟨.slice none 0 0, rVIB HF.out.symm HK.out.symm, .inl ⟨rfl, HV.out⟩, World.grownBy.refl _ _⟩
  · have kd : (decide ((1 : Int) ≤ (xs.length : Int)) && decide ((xs.length : Int) ≤ 8)) = false := by
      rw [Bool.and_eq_false_iff, decide_eq_false_iff_not, decide_eq_false_iff_not]; omega
    clear h hr
    go_enter Tryd.func24, Tryd.ntmps24
    go_wp2_with fail
    refine (l1In _ _ _ _).mono ?_
    rintro e w' ⟨rfl, rfl⟩
    go_wp2_with fail
    go_ret3
    exact ⟨.slice none 0 0, rVIB HF.out.symm HK.out.symm, .inl ⟨rfl, HV.out⟩, World.grownBy.refl _ _⟩

theorem specAddDigits (w : World) (a b : Option Addr) (ca cb : Nat) (xs ys : List Int) (ha : IRow w a xs) (hb : IRow w b ys) (lx : xs.length ≤ 2000000) (ly : ys.length ≤ 2000000) :
    Calls Tryd.prog 24 #[.slice a xs.length ca, .slice b ys.length cb] w fun e w' => ∃ v, e = .returned (.tuple #[v, .int .i64 (Pl.digC xs ys), .bool (Pl.digOk xs ys)]) ∧ Res w' w.heap.size v (Pl.digL xs ys) ∧ w.grownBy w' none := by
  by_cases h : xs.length = ys.length ∧ 1 ≤ xs.length ∧ xs.length ≤ 8
  · exact specAddDigits_fits w a b ca cb xs ys ha hb h.1 h.2.1 h.2.2
  · exact specAddDigits_unfit w a b ca cb xs ys lx ly h

theorem specAddDigitsS (w : World) (a b : Option Addr) (ca cb : Nat) (xs ys : List Int) (ha : IRow w a xs) (hb : IRow w b ys) (lx : xs.length ≤ 2000000) (ly : ys.length ≤ 2000000) :
    Calls Tryd.prog 24 #[.slice a xs.length ca, .slice b ys.length cb] w fun e w' => ∃ (d : Option Addr) (cap : Nat), e = .returned (.tuple #[.slice d (Pl.digL xs ys).length cap, .int .i64 (Pl.digC xs ys), .bool (Pl.digOk xs ys)]) ∧ Slot w' w.heap.size d (Pl.digL xs ys) ∧ w.grownBy w' none := by
  refine (specAddDigits w a b ca cb xs ys ha hb lx ly).mono ?_
  rintro e w' ⟨v, he, hr, hg⟩
  obtain ⟨d, cap, rfl, hs⟩ := hr.slot
  exact ⟨d, cap, he, hs, hg⟩

end Go.Proofs.YtkahmepoblhbnaaDoor
