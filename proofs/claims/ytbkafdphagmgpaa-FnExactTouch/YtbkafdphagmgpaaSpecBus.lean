/- What the models of chapter 4 that only look answer, for every argument. -/
import Derived.Test.YtbkafdphagmgpaaSpecBytes
import Derived.Test.YtbkafdphagmgpaaBusFns
import Derived.Test.YtbkafdphagmgpaaSpecVal
namespace Go.Proofs.Ytbkafdphagmgpaa
open Go.RowKit
set_option linter.unusedVariables false

theorem l4Addr (a : Int) (w : World) : Calls Try.prog 46 #[.int .i64 a] w fun e w' => e = .returned (.bool (Pl.addr a)) ∧ w' = w := by
  go_enter Try.func46, Try.ntmps46
  go_wp2_with fail
  refine (l1In _ _ _ _).mono ?_
  rintro e w' ⟨rfl, rfl⟩
  go_wp2_with fail
  go_ret
  exact ⟨rfl, rfl⟩
theorem l4Kind (a : Int) (w : World) : Calls Try.prog 59 #[.int .i64 a] w fun e w' => e = .returned (.int .i64 (Pl.kind a)) ∧ w' = w := by
  by_cases h1 : 512 ≤ a
  · have E : Hid (Pl.kind a = 1) := hide (by simp [Pl.kind, h1])
    go_enter Try.func59, Try.ntmps59
    go_wp2
    go_ret
    exact ⟨rI E.out.symm, rfl⟩
  · cases h2 : (decide ((448 : Int) ≤ a) && decide (a ≤ 495))
    · cases h3 : (decide ((384 : Int) ≤ a) && decide (a ≤ 447))
      all_goals
        have E : Hid (Pl.kind a = if (decide ((384 : Int) ≤ a) && decide (a ≤ 447)) then 3 else 0) := hide (by
          simp at h2
          have : ¬ (448 ≤ a ∧ a ≤ 495) := by omega
          simp [Pl.kind, h1, this])
        rw [h3] at E
        go_enter Try.func59, Try.ntmps59
        go_wp2_with fail
        refine (l1In _ _ _ _).mono ?_
        rintro e w' ⟨rfl, rfl⟩
        rw [h2]
        go_wp2_with fail
        refine (l1In _ _ _ _).mono ?_
        rintro e w' ⟨rfl, rfl⟩
        rw [h3]
        go_wp2_with fail
        go_ret
        exact ⟨rI E.out.symm, rfl⟩
    · have E : Hid (Pl.kind a = 1) := hide (by simp at h2; simp [Pl.kind, h2])
      go_enter Try.func59, Try.ntmps59
      go_wp2_with fail
      refine (l1In _ _ _ _).mono ?_
      rintro e w' ⟨rfl, rfl⟩
      rw [h2]
      go_wp2_with fail
      go_ret
      exact ⟨rI E.out.symm, rfl⟩
theorem specKindOf (a : Int) (w : World) : Calls Try.prog 26 #[.int .i64 a] w fun e w' => e = .returned (.tuple #[.int .i64 (Pl.kindV a), .bool (Pl.addr a)]) ∧ w' = w := by
  cases h : Pl.addr a
  · have E : Hid (Pl.kindV a = 0) := hide (by simp [Pl.kindV, h])
    go_enter Try.func26, Try.ntmps26
    go_wp2_with fail
    refine (l4Addr _ _).mono ?_
    rintro e w' ⟨rfl, rfl⟩
    rw [h]
    go_wp2_with fail
    go_ret2
    exact ⟨rIB E.out.symm rfl, rfl⟩
  · have E : Hid (Pl.kindV a = Pl.kind a) := hide (by simp [Pl.kindV, h])
    go_enter Try.func26, Try.ntmps26
    go_wp2_with fail
    refine (l4Addr _ _).mono ?_
    rintro e w' ⟨rfl, rfl⟩
    rw [h]
    go_wp2_with fail
    refine (l4Kind _ _).mono ?_
    rintro e w' ⟨rfl, rfl⟩
    go_wp2_with fail
    go_ret2
    exact ⟨rIB E.out.symm rfl, rfl⟩

theorem l4Access (k s a v c : Int) (w : World) : Calls Try.prog 41 #[.agg #[.int .i64 k, .int .i64 s, .int .i64 a, .int .i64 v, .int .i64 c]] w fun e w' => e = .returned (.bool (Pl.accOk k s a v c)) ∧ ∃ o, w' = w.alloc o := by
  cases h1 : (decide (1 ≤ k) && decide (k ≤ 3))
  · go_enter Try.func41, Try.ntmps41
    go_wp2_with (first | (go_at_call 44; refine (l1In _ _ _ _).mono ?_; rintro e w' ⟨rfl, rfl⟩; rw [h1]) | (go_at_call 45; refine (l1Value _ _ _).mono ?_; rintro e w' ⟨rfl, rfl⟩) | (go_at_call 46; refine (l4Addr _ _).mono ?_; rintro e w' ⟨rfl, rfl⟩))
    go_ret
    exact ⟨rB (by unfold Pl.accOk Pl.accKind; rw [h1]; simp), _, rfl⟩
  · cases h2 : Pl.okv s v
    · go_enter Try.func41, Try.ntmps41
      go_wp2_with (first | (go_at_call 44; refine (l1In _ _ _ _).mono ?_; rintro e w' ⟨rfl, rfl⟩; rw [h1]) | (go_at_call 45; refine (l1Value _ _ _).mono ?_; rintro e w' ⟨rfl, rfl⟩; rw [h2]) | (go_at_call 46; refine (l4Addr _ _).mono ?_; rintro e w' ⟨rfl, rfl⟩))
      go_ret
      exact ⟨rB (by unfold Pl.accOk Pl.accKind; rw [h1, h2]; simp), _, rfl⟩
    · cases h3 : Pl.addr a
      · go_enter Try.func41, Try.ntmps41
        go_wp2_with (first | (go_at_call 44; refine (l1In _ _ _ _).mono ?_; rintro e w' ⟨rfl, rfl⟩; rw [h1]) | (go_at_call 45; refine (l1Value _ _ _).mono ?_; rintro e w' ⟨rfl, rfl⟩; rw [h2]) | (go_at_call 46; refine (l4Addr _ _).mono ?_; rintro e w' ⟨rfl, rfl⟩; rw [h3]))
        go_ret
        exact ⟨rB (by unfold Pl.accOk Pl.accKind; rw [h1, h2, h3]; simp), _, rfl⟩
      · cases h4 : (decide (0 ≤ c) && decide (c ≤ 3))
        · go_enter Try.func41, Try.ntmps41
          go_wp2_with (first | (go_at_call 44; refine (l1In _ _ _ _).mono ?_; rintro e w' ⟨rfl, rfl⟩; first | rw [h1] | rw [h4]) | (go_at_call 45; refine (l1Value _ _ _).mono ?_; rintro e w' ⟨rfl, rfl⟩; rw [h2]) | (go_at_call 46; refine (l4Addr _ _).mono ?_; rintro e w' ⟨rfl, rfl⟩; rw [h3]))
          go_ret
          exact ⟨rB (by unfold Pl.accOk Pl.accKind; rw [h1, h2, h3, h4]; simp), _, rfl⟩
        · cases h5 : (k != 3)
          · cases h6 : (c != 0)
            all_goals
              go_enter Try.func41, Try.ntmps41
              go_wp2_with (first | (go_at_call 44; refine (l1In _ _ _ _).mono ?_; rintro e w' ⟨rfl, rfl⟩; first | rw [h1] | rw [h4]) | (go_at_call 45; refine (l1Value _ _ _).mono ?_; rintro e w' ⟨rfl, rfl⟩; rw [h2]) | (go_at_call 46; refine (l4Addr _ _).mono ?_; rintro e w' ⟨rfl, rfl⟩; rw [h3]))
              go_ret
              exact ⟨rB (by unfold Pl.accOk Pl.accKind; rw [h1, h2, h3, h4, h5, h6]; simp), _, rfl⟩
          · go_enter Try.func41, Try.ntmps41
            go_wp2_with (first | (go_at_call 44; refine (l1In _ _ _ _).mono ?_; rintro e w' ⟨rfl, rfl⟩; first | rw [h1] | rw [h4]) | (go_at_call 45; refine (l1Value _ _ _).mono ?_; rintro e w' ⟨rfl, rfl⟩; rw [h2]) | (go_at_call 46; refine (l4Addr _ _).mono ?_; rintro e w' ⟨rfl, rfl⟩; rw [h3]))
            go_ret
            exact ⟨rB (by unfold Pl.accOk Pl.accKind; rw [h1, h2, h3, h4, h5]; simp), _, rfl⟩

theorem specGoodBus (w : World) (a b : Option Addr) (ca cb m : Nat) (xs ys : List Int) (ha : IRow w a xs) (hb : IRow w b ys) (lx : xs.length ≤ 2000000) (ly : ys.length = 5 * m) (bm : m ≤ 2000000) :
    Calls Try.prog 19 #[.agg #[.slice a xs.length ca, .slice b m cb]] w fun e w' => e = .returned (.bool (Pl.goodBus xs ys m)) ∧ Kept 0 0 w w' := by
  have HA := hide ha
  have HB := hide hb
  have HY := hide ly
  clear ha hb ly
  go_enter Try.func19, Try.ntmps19
  go_wp2
  have HK0 := hide (kept_alloc w (.cells #[.slice a xs.length ca, .slice b m cb] 25))
  have HW := hide (Blk.new w #[.slice a xs.length ca, .slice b m cb] 25)
  obtain ⟨W, hW⟩ : ∃ W : World, W = w.alloc (.cells #[.slice a xs.length ca, .slice b m cb] 25) := ⟨_, rfl⟩
  rw [← hW] at HK0 HW ⊢
  clear hW
  go_loopw [4, 8] (fun _ j wr => ∃ k : Nat, k ≤ m ∧ j = .int .i64 k ∧ (∀ i, i < k → Pl.accAt ys i = true) ∧ Kept 0 0 W wr) (fun _ j _ => m - (intOf j).toNat)
  case atStart => exact ⟨0, Nat.zero_le _, rfl, fun i hi => absurd hi (Nat.not_lt_zero i), Kept.refl _ _ _⟩
  case round =>
    obtain ⟨k, hk, rfl, heq, hkept⟩ := hrel
    have HE := hide heq
    have HK := hide hkept
    clear heq hkept
    by_cases hlt : k < m
    · obtain ⟨g1, o1, rfl, p0, p1, p2, p3, p4⟩ := (HB.out.keptS (HK0.out.trans HK.out)).five HY.out hlt
      cases hb : Pl.accAt ys k
      · have hb2 : Pl.accOk (el ys (k * 5)) (el ys (k * 5 + 1)) (el ys (k * 5 + 2)) (el ys (k * 5 + 3)) (el ys (k * 5 + 4)) = false := hb
        clear hb
        go_wp2_with (go_at_call 41; refine (l4Access _ _ _ _ _ _).mono ?_; rintro e w' ⟨rfl, o, rfl⟩; rw [hb2])
        go_ret
        exact ⟨rB (by unfold Pl.goodBus; rw [Pl.accsOk_no hlt hb2]; rfl), HK0.out.trans (kept_new (kept_new HK.out _) _)⟩
      · have hb2 : Pl.accOk (el ys (k * 5)) (el ys (k * 5 + 1)) (el ys (k * 5 + 2)) (el ys (k * 5 + 3)) (el ys (k * 5 + 4)) = true := hb
        clear hb
        go_wp2_with (go_at_call 41; refine (l4Access _ _ _ _ _ _).mono ?_; rintro e w' ⟨rfl, o, rfl⟩; rw [hb2])
        go_roundw
        case rel => exact ⟨k + 1, by omega, by go_num, snoc_all HE.out hb2, kept_new (kept_new HK.out _) _⟩
        case measure => simp [intOf]; omega
    · have HA1 : Hid (Pl.accsOk ys m = true) := hide (Pl.accsOk_of (fun i hi => HE.out i (by omega)))
      have B := HW.out.kept0 HK.out
      have c0 := B.cell (i := 0) rfl
      have c1 := B.cell (i := 1) rfl
      have HX := hide (HA.out.keptS (HK0.out.trans HK.out))
      clear B
      have G : Hid (Pl.goodBus xs ys m = (((xs.length : Int) == 512) && (Pl.bytesOk xs && decide ((m : Int) ≤ 400)))) := hide (by
        unfold Pl.goodBus
        rw [HA1.out, Bool.true_and]
        congr 1
        · rw [Bool.eq_iff_iff]; simp; omega
        · congr 1; rw [Bool.eq_iff_iff]; simp; omega)
      cases h1 : ((xs.length : Int) == 512)
      · go_wp2_with fail
        go_ret
        exact ⟨rB (by rw [G.out, h1]; rfl), HK0.out.trans HK.out⟩
      · cases h2 : Pl.bytesOk xs
        · go_wp2_with fail
          refine (l4Bytes _ a ca xs HX.out lx).mono ?_
          rintro e w' ⟨rfl, rfl⟩
          rw [h2]
          go_wp2_with fail
          go_ret
          exact ⟨rB (by rw [G.out, h1, h2]; rfl), HK0.out.trans HK.out⟩
        · cases h3 : decide ((m : Int) ≤ 400)
          all_goals
            go_wp2_with fail
            refine (l4Bytes _ a ca xs HX.out lx).mono ?_
            rintro e w' ⟨rfl, rfl⟩
            rw [h2]
            go_wp2_with fail
            go_ret
            exact ⟨rB (by rw [G.out, h1, h2, h3]; rfl), HK0.out.trans HK.out⟩
end Go.Proofs.Ytbkafdphagmgpaa
