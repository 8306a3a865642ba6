/- What the model of AddMany answers for every two lists. -/
import Derived.Test.YtogckmalfdddcaaAddMany
namespace Go.Proofs.Ytogckmalfdddcaa
open Go.RowKit
set_option linter.unusedVariables false

theorem grown_new {w w1 w2 : World} {row : Option Nat} (h : w.grownBy w1 none) (k : w1.grownBy w2 row) (hr : ∀ j, row = some j → w.heap.size ≤ j) : w.grownBy w2 none :=
  ⟨k.os.trans h.os, k.tape.trans h.tape, k.output.trans h.output, Nat.le_trans h.size k.size, fun i hi _ => (k.block i (Nat.lt_of_lt_of_le hi h.size) (fun e => by have := hr i e.symm; omega)).trans (h.block i hi (by simp))⟩

theorem res_of_row {w : World} {base : Nat} {v : Value} {xs : List Int} (h : w.ownsRow base 3 1 v xs.length (xs.map (Value.int .i64))) : Res w base v xs := by
  rcases h.2 with ⟨rfl, e⟩ | ⟨g, cap, cur, rfl, hb, hgg, rest⟩
  · exact .inl ⟨rfl, List.eq_nil_of_length_eq_zero e⟩
  · exact .inr ⟨g, cap, rfl, hb, (h.lt g rfl).2, own_of_row h⟩

def part (s : Int) (xs ys : List Int) (k : Nat) : List Int := (List.range k).map (Pl.stV s xs ys)
theorem part_len (s : Int) (xs ys : List Int) (k : Nat) : (part s xs ys k).length = k := by simp [part]
theorem part_succ (s : Int) (xs ys : List Int) (k : Nat) : part s xs ys (k + 1) = part s xs ys k ++ [Pl.stV s xs ys k] := by simp [part, List.range_succ]

theorem specAddMany_fits (w : World) (s : Int) (a b : Option Addr) (ca cb : Nat) (xs ys : List Int) (ha : IRow w a xs) (hb : IRow w b ys) (hf : xs.length = ys.length) (h1 : 1 ≤ xs.length) (h8 : xs.length ≤ 8) :
    Calls Try.prog 26 #[.int .i64 s, .slice a xs.length ca, .slice b ys.length cb] w fun e w' => ∃ v, e = .returned (.tuple #[v, .int .i64 (Pl.manyF s xs ys), .bool (Pl.manyOk s xs ys)]) ∧ Res w' w.heap.size v (Pl.manyL s xs ys) ∧ w.grownBy w' none := by
  obtain ⟨i, hi, hz0, hz1, hz2⟩ := info_parts Try.info3
  have kl : (((ys.length : Nat) : Int) != ((xs.length : Nat) : Int)) = false := by simp [hf]
  have kd : (decide ((1 : Int) ≤ (xs.length : Int)) && decide ((xs.length : Int) ≤ 8)) = true := by simp; omega
  have HL : Hid (xs.length = ys.length) := hf
  have l2 : ys.length ≤ 8 := by omega
  clear hf
  go_enter Try.func26, Try.ntmps26
  go_wp2_with fail
  refine (l1In _ _ _ _).mono ?_
  rintro e w' ⟨rfl, rfl⟩
  go_wp2_with fail
  go_loopw [9, 10, 11, 12, 30] (fun v x f z j wr => ∃ k : Nat, k ≤ xs.length ∧ j = .int .i64 k ∧ f = .int .i64 (Pl.stF s xs ys k) ∧ x = .int .i64 (bits .and .i64 (Pl.stF s xs ys k) 1) ∧ z = .bool (Pl.manyZ s xs ys k) ∧
      wr.ownsRow w'.heap.size 3 1 v k ((part s xs ys k).map (Value.int .i64)) ∧ (∀ i, i < k → Pl.stO s xs ys i = true) ∧ w'.grownBy wr none) (fun _ _ _ _ j _ => xs.length - (intOf j).toNat)
  case atStart => exact ⟨0, Nat.zero_le _, rfl, rfl, congrArg (Value.int .i64) (by show (0 : Int) = bits .and .i64 0 1; decide), rfl, World.ownsRow_nil _ _ _ _, fun i hi => absurd hi (Nat.not_lt_zero i), World.grownBy.refl _ _⟩
  case round =>
    obtain ⟨k, hk, rfl, rfl, rfl, rfl, hown, hok, hgr⟩ := hrel
    by_cases hlt : k < xs.length
    · obtain ⟨g1, o1, rfl, hc1⟩ := ha.kept hgr k hlt
      obtain ⟨g2, o2, rfl, hc2⟩ := hb.kept hgr k (by have := HL.out; omega)
      have hlt2 : k < ys.length := by have := HL.out; omega
      generalize hx : xs[k]?.getD 0 = x at hc1
      generalize hy : ys[k]?.getD 0 = y at hc2
      generalize hF : Pl.stF s xs ys k = F
      generalize hzz : Pl.manyZ s xs ys k = z
      have HX := hide hx
      have HY := hide hy
      have HF := hide hF
      have HZ := hide hzz
      have HO := hide hok
      clear hx hy hF hzz hok ha hb
      cases ko : Pl.two s (bits .and .i64 F 1) x y
      · go_wp2_with fail
        go_quiet ((go_at_call 16; exact Calls.quiet_of_same (specAddFlags _ _ _ _ _)))
        go_wp2_with fail
        go_ret3
        have kn : Pl.manyOk s xs ys = false := Pl.manyOk_not hlt (by rw [stO_at HF.out HX.out HY.out]; exact ko)
        exact ⟨.slice none 0 0, rVIB (by simp [Pl.manyF, kn]) kn.symm, .inl ⟨rfl, by simp [Pl.manyL, kn]⟩, grownBy_drewN hgr _⟩
      · go_wp2_with fail
        go_quiet ((go_at_call 16; exact Calls.quiet_of_same (specAddFlags _ _ _ _ _)))
        generalize hV : Pl.addV s (bits .and .i64 F 1) x y = V
        have HV := hide hV
        clear hV
        cases z
        all_goals
          go_wp2_with (at_builtin; refine wpList_append_own _ rfl _ _ 35 rfl w'.heap.size 3 i (.int .i64 0) 1 8 Try.underlying35 hi hz0 hz1 hz2 rfl (by decide) _ _ _ rfl (World.ownsRow.alloc (w := wr.drewN nq) hown _) ⟨wr.heap.size, 0, none⟩ 1 1 [.int .i64 V] rfl rfl ?c1 ?c2 ?c3 ?c4 ?c5 ?_)
          case c1 => exact cell_one_new _ _ _
          case c2 => intro u hu; simp at hu; subst hu; rfl
          case c3 => unfold maxLen; omega
          case c4 => omega
          case c5 => have := hgr.size; simp; omega
          intro v' w1 hown' hgrow _
          go_wp2_with fail
          go_roundw
          case rel =>
            have hVk := stV_at HF.out HX.out HY.out
            have hl := hown.lt
            refine ⟨k + 1, by omega, by go_num, by rw [stF_next HF.out HX.out HY.out], by rw [stF_next HF.out HX.out HY.out], ?_, by rw [part_succ, List.map_append, hVk, HV.out]; exact hown', snoc_all HO.out (by rw [stO_at HF.out HX.out HY.out]; exact ko), ?_⟩
            · rw [Pl.manyZ_succ, HZ.out, hVk, HV.out]; rfl
            · exact grown_new (grownBy_trans (grownBy_drewN hgr nq) (World.grownBy_alloc _ _ _)) hgrow (fun j hj => (hl j hj).1)
          case measure => simp [intOf]; omega
    · obtain rfl : k = xs.length := by omega
      have HO := hide hok
      clear hok ha hb
      go_wp2_with fail
      refine (l1Flag _ _ _).mono ?_
      rintro e w2 ⟨rfl, rfl⟩
      go_wp2_with fail
      go_ret3
      have kn : Pl.manyOk s xs ys = true := Pl.manyOk_of (by simp [Pl.fits, HL.out.symm, h1, h8]) HO.out
      have eL : part s xs ys xs.length = Pl.manyL s xs ys := by rw [Pl.manyL, if_pos kn]; rfl
      exact ⟨_, rVIB (by rw [Pl.manyF, if_pos kn]) kn.symm, by rw [← eL]; exact res_of_row (by rw [part_len]; exact hown), hgr⟩

theorem specAddMany_unfit (w : World) (s : Int) (a b : Option Addr) (ca cb : Nat) (xs ys : List Int) (lx : xs.length ≤ 2000000) (ly : ys.length ≤ 2000000) (h : ¬ (xs.length = ys.length ∧ 1 ≤ xs.length ∧ xs.length ≤ 8)) :
    Calls Try.prog 26 #[.int .i64 s, .slice a xs.length ca, .slice b ys.length cb] w fun e w' => ∃ v, e = .returned (.tuple #[v, .int .i64 (Pl.manyF s xs ys), .bool (Pl.manyOk s xs ys)]) ∧ Res w' w.heap.size v (Pl.manyL s xs ys) ∧ w.grownBy w' none := by
  have kn : Pl.manyOk s xs ys = false := by simp only [Pl.manyOk, Pl.fits, h, decide_false, Bool.false_and]
  have HK : Hid (Pl.manyOk s xs ys = false) := kn
  have HF : Hid (Pl.manyF s xs ys = 0) := hide (by simp [Pl.manyF, kn])
  have HV : Hid (Pl.manyL s xs ys = []) := hide (by simp [Pl.manyL, kn])
  clear kn
  by_cases hr : 1 ≤ xs.length ∧ xs.length ≤ 8
  · have kd : (decide ((1 : Int) ≤ (xs.length : Int)) && decide ((xs.length : Int) ≤ 8)) = true := by simp; omega
    have kl : (((ys.length : Nat) : Int) != ((xs.length : Nat) : Int)) = true := by rw [bne_iff_ne]; omega
    clear h hr
    go_enter Try.func26, Try.ntmps26
    go_wp2_with fail
    refine (l1In _ _ _ _).mono ?_
    rintro e w' ⟨rfl, rfl⟩
    go_wp2_with fail
    go_ret3
    exact ⟨.slice none 0 0, rVIB HF.out.symm HK.out.symm, .inl ⟨rfl, HV.out⟩, World.grownBy.refl _ _⟩
  · have kd : (decide ((1 : Int) ≤ (xs.length : Int)) && decide ((xs.length : Int) ≤ 8)) = false := by
      rw [Bool.and_eq_false_iff, decide_eq_false_iff_not, decide_eq_false_iff_not]; omega
    clear h hr
    go_enter Try.func26, Try.ntmps26
    go_wp2_with fail
    refine (l1In _ _ _ _).mono ?_
    rintro e w' ⟨rfl, rfl⟩
    go_wp2_with fail
    go_ret3
    exact ⟨.slice none 0 0, rVIB HF.out.symm HK.out.symm, .inl ⟨rfl, HV.out⟩, World.grownBy.refl _ _⟩

theorem specAddMany (w : World) (s : Int) (a b : Option Addr) (ca cb : Nat) (xs ys : List Int) (ha : IRow w a xs) (hb : IRow w b ys) (lx : xs.length ≤ 2000000) (ly : ys.length ≤ 2000000) :
    Calls Try.prog 26 #[.int .i64 s, .slice a xs.length ca, .slice b ys.length cb] w fun e w' => ∃ v, e = .returned (.tuple #[v, .int .i64 (Pl.manyF s xs ys), .bool (Pl.manyOk s xs ys)]) ∧ Res w' w.heap.size v (Pl.manyL s xs ys) ∧ w.grownBy w' none := by
  by_cases h : xs.length = ys.length ∧ 1 ≤ xs.length ∧ xs.length ≤ 8
  · exact specAddMany_fits w s a b ca cb xs ys ha hb h.1 h.2.1 h.2.2
  · exact specAddMany_unfit w s a b ca cb xs ys lx ly h

end Go.Proofs.Ytogckmalfdddcaa
