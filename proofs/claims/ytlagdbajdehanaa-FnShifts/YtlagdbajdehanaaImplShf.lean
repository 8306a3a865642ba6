/- What the program's functions of chapter 3 answer, for every argument: one contract a function; new blocks alone. -/
import Derived.Test.YtlagdbajdehanaaMoved
import Derived.Test.YtlagdbajdehanaaRows5
import Derived.Test.YtlagdbajdehanaaOnes
namespace Go.Proofs.Ytlagdbajdehanaa
open Go.RowKit
set_option linter.unusedVariables false

theorem shiftOnce (k s f v : Int) (w : World) (hv : W64 v) :
    Calls Try.prog 14 #[.int .i64 k, .int .i64 s, .int .i64 f, .int .i64 v] w fun e w' => e = .returned (.tuple #[.int .i64 (Pl.onceV k s f v), .int .i64 (Pl.onceF k s f v), .bool (Pl.goodK k s f v)]) ∧ Below w.heap.size w w' := by
  cases h : Pl.goodK k s f v
  · have K : Hid (Pl.onceV k s f v = 0 ∧ Pl.onceF k s f v = 0) := hide (by simp [Pl.onceV, Pl.onceF, h])
    go_enter Try.func14, Try.ntmps14
    go_wp2_with fail
    refine (rowOf_bad k s f v _ hv.1 hv.2 h).mono ?_
    rintro e w1 ⟨rfl, hb⟩
    go_wp2_with fail
    go_ret3
    exact ⟨rIIB K.out.1.symm K.out.2.symm rfl, hb.alloc hb.size _⟩
  · have K : Hid (Pl.onceV k s f v = Pl.nv k s (f / 16) v ∧ Pl.onceF k s f v = Pl.onF k s (f / 16) v) := hide (by simp [Pl.onceV, Pl.onceF, h])
    have HG := hide h
    obtain ⟨k0, k1, _, f0, f1, hf⟩ := Pl.goodK_ok h
    have hf2 : Hid (Pl.Fit s (Pl.nv k s (f / 16) v, Pl.nx k s (f / 16) v)) := hide (Pl.stp_fit (k := k) hf)
    have HF := hide hf
    have hfe := Pl.fell_bd k s v
    clear h hf
    go_enter Try.func14, Try.ntmps14
    go_wp2_with fail
    refine (rowOf k s f v _ HG.out).mono ?_
    rintro e w1 ⟨rfl, hb⟩
    have HB := hide hb
    clear hb
    go_wp2_with fail
    refine (moved k s v (f / 16) _ _ false _ k0 k1 HF.out rfl (.inr rfl)).mono ?_
    rintro e wt ⟨rfl, hb2⟩
    have Bt := hide ((Box.new0 w1 _ _ _ _ _).later hb2)
    have HX : Hid (Below w.heap.size w wt) := hide ((HB.out.alloc HB.out.size _).trans (hb2.mono (by simpa using Nat.le_succ_of_le HB.out.size)))
    clear hb2
    obtain ⟨c0, c1, c2, c3, c4, g0, g1, g2, g3, g4⟩ := Bt.out.cells
    go_wp2_with fail
    obtain ⟨X, hX⟩ : ∃ X : World, X = (((((wt.setCell ⟨w1.heap.size, 0, none⟩ (.int .i64 (Pl.nv k s (f / 16) v))).setCell ⟨w1.heap.size, 1, none⟩ (.int .i64 (8 * s))).setCell ⟨w1.heap.size, 2, none⟩ (.int .i64 (Pl.nx k s (f / 16) v))).setCell ⟨w1.heap.size, 3, none⟩ (.int .i64 (Pl.fell k s v))).setCell ⟨w1.heap.size, 4, none⟩ (.bool (Pl.vfl k s (f / 16) v))) := ⟨_, rfl⟩
    rw [← hX]
    have B2 : Hid (Box X w1.heap.size (Pl.nv k s (f / 16) v) (8 * s) (Pl.nx k s (f / 16) v) (Pl.fell k s v) (Pl.vfl k s (f / 16) v)) := hide (by rw [hX]; exact Bt.out.set)
    have HY : Hid (Below w.heap.size w X) := hide (by rw [hX]; exact Below.set5 HX.out HB.out.size _ _ _ _ _)
    clear hX c0 c1 c2 c3 c4 g0 g1 g2 g3 g4
    obtain ⟨c0, c1, c2, c3, c4, _, _, _, _, _⟩ := B2.out.cells
    go_region_with (go_at_call 36; refine (flags5 s _ _ _ _ _ _ hf2.out rfl hfe.1 hfe.2).mono ?_; rintro e wx ⟨rfl, o1, o2, rfl⟩; obtain ⟨z0, z1, z2, z3, z4, _, _, _, _, _⟩ := (B2.out.two o1 o2).cells)
    all_goals
      go_wp2_with fail
      go_ret3
      exact ⟨rIIB K.out.1.symm K.out.2.symm rfl, ((HY.out.alloc HY.out.size _).alloc (by simpa using Nat.le_succ_of_le HY.out.size) _).drew⟩

/-- the bit that fell out last, ahead of the first place too; whether the last place told it -/
def Pl.falN (k s f v : Int) : Nat → Int
  | 0 => Pl.fal0 k f
  | m + 1 => Pl.fell k s (Pl.st k s (v, f / 16) m).1
def Pl.lastV (k s f v : Int) : Nat → Bool
  | 0 => false
  | m + 1 => Pl.vfl k s (Pl.st k s (v, f / 16) m).2 (Pl.st k s (v, f / 16) m).1
theorem Pl.lastV_not (k s f v : Int) (m : Nat) : k = 0 ∨ Pl.lastV k s f v m = false := by
  cases m with
  | zero => exact .inr rfl
  | succ m =>
    by_cases h : k = 0
    · exact .inl h
    · exact .inr (by simp [Pl.lastV, Pl.vfl, h])
theorem Pl.falN_bd {k s f v : Int} (h : Pl.Fit s (v, f / 16)) (m : Nat) : 0 ≤ Pl.falN k s f v m ∧ Pl.falN k s f v m ≤ 1 := by
  cases m with
  | zero =>
    obtain ⟨_, _, _, x0, x1⟩ := h
    simp only at x0 x1
    unfold Pl.falN Pl.fal0
    split <;> omega
  | succ m => exact Pl.fell_bd _ _ _
theorem Pl.byF_end {k s f v : Int} (h : Pl.Fit s (v, f / 16)) (m : Nat) : Pl.falN k s f v m + Pl.fl (Pl.ov k s (v, f / 16) m) 2 + Pl.zn s (Pl.st k s (v, f / 16) m).1 + 16 * (Pl.st k s (v, f / 16) m).2 = Pl.byF k s (v, f / 16) m := by
  cases m with
  | zero =>
    obtain ⟨_, _, _, x0, x1⟩ := h
    simp only at x0 x1
    have hx : f / 16 = 0 ∨ f / 16 = 1 := by omega
    unfold Pl.falN Pl.fal0 Pl.byF Pl.ov Pl.st
    simp only
    by_cases h6 : 6 ≤ k
    · rcases hx with hx | hx <;> simp [hx, h6, Pl.fl]
    · simp [h6, Pl.fl]
  | succ m => rfl
set_option maxHeartbeats 4000000 in
theorem shiftBy_good (k s f v n : Int) (w : World) (h : Pl.goodK k s f v = true) (n0 : 0 ≤ n) (n1 : n ≤ 63) :
    Calls Try.prog 12 #[.int .i64 k, .int .i64 s, .int .i64 f, .int .i64 v, .int .i64 n] w fun e w' => e = .returned (.tuple #[.int .i64 (Pl.st k s (v, f / 16) n.toNat).1, .int .i64 (Pl.byF k s (v, f / 16) n.toNat), .bool true]) ∧ Below w.heap.size w w' := by
  have HG := hide h
  obtain ⟨k0, k1, _, f0, f1, hf⟩ := Pl.goodK_ok h
  have HF := hide hf
  have d0 : decide (n < 0) = false := by simp; omega
  have d1 : decide (63 < n) = false := by simp; omega
  clear h hf
  go_enter Try.func12, Try.ntmps12
  go_wp2_with fail
  refine (rowOf k s f v _ HG.out).mono ?_
  rintro e w1 ⟨rfl, hb⟩
  have HB := hide hb
  clear hb
  go_wp2_with fail
  go_loopw [15, 35] (fun T I wr => ∃ m : Nat, (m : Int) ≤ n ∧ T = .bool (Pl.ov k s (v, f / 16) m) ∧ I = .int .i64 m ∧ Box wr w1.heap.size (Pl.st k s (v, f / 16) m).1 (8 * s) (Pl.st k s (v, f / 16) m).2 (Pl.falN k s f v m) (Pl.lastV k s f v m) ∧ Below w.heap.size w wr) (fun _ I _ => n.toNat - (intOf I).toNat)
  case atStart => exact ⟨0, n0, rfl, rfl, Box.new0 _ _ _ _ _ _, HB.out.alloc HB.out.size _⟩
  case round =>
    obtain ⟨m, hm, rfl, rfl, hB, hW⟩ := hrel
    have HBm := hide hB
    have HW := hide hW
    have hst := hide (Pl.st_fit (k := k) HF.out m)
    obtain ⟨c0, c1, c2, c3, c4, g0, g1, g2, g3, g4⟩ := hB.cells
    clear hB hW
    by_cases hlt : (m : Int) < n
    · clear g0 g1 g2 g3 g4
      cases ho : Pl.ov k s (v, f / 16) m
      all_goals
        go_wp2_with fail
        refine (moved k s _ _ _ _ _ _ k0 k1 hst.out rfl (Pl.lastV_not k s f v m)).mono ?_
        rintro e wt ⟨rfl, hb2⟩
        have Bt := hide (HBm.out.later hb2)
        have HX : Hid (Below w.heap.size w wt) := hide (HW.out.trans (hb2.mono HW.out.size))
        clear hb2 c0 c1 c2 c3 c4
        obtain ⟨c0, c1, c2, c3, c4, g0, g1, g2, g3, g4⟩ := Bt.out.cells
        go_wp2_with fail
        go_roundw
        case rel => exact ⟨m + 1, by omega, by simp [Pl.ov, ho], by go_num, Bt.out.set, Below.set5 HX.out HB.out.size _ _ _ _ _⟩
        case measure => simp [intOf]; omega
    · obtain rfl : n = (m : Int) := by omega
      have hfa := Pl.falN_bd (k := k) HF.out m
      have HE := hide (Pl.byF_end (k := k) HF.out m)
      have d2 : decide ((m : Int) < (m : Int)) = false := by simp
      go_wp2_with fail
      obtain ⟨X, hX⟩ : ∃ X : World, X = wr.setCell ⟨w1.heap.size, 4, none⟩ (.bool (Pl.ov k s (v, f / 16) m)) := ⟨_, rfl⟩
      rw [← hX]
      have B2 := hide (HBm.out.set4 (t' := Pl.ov k s (v, f / 16) m))
      rw [← hX] at B2
      have HY : Hid (Below w.heap.size w X) := hide (by rw [hX]; exact HW.out.setCell HB.out.size _)
      clear hX c0 c1 c2 c3 c4 g0 g1 g2 g3 g4
      obtain ⟨c0, c1, c2, c3, c4, _, _, _, _, _⟩ := B2.out.cells
      go_region_with (go_at_call 36; refine (flags5 s _ _ _ _ _ _ hst.out rfl hfa.1 hfa.2).mono ?_; rintro e wx ⟨rfl, o1, o2, rfl⟩; obtain ⟨z0, z1, z2, z3, z4, _, _, _, _, _⟩ := (B2.out.two o1 o2).cells)
      all_goals
        go_wp2_with fail
        go_ret3
        exact ⟨rIIB rfl HE.out rfl, ((HY.out.alloc HY.out.size _).alloc (by simpa using Nat.le_succ_of_le HY.out.size) _).drew⟩

theorem shiftBy (k s f v n : Int) (w : World) (hv : W64 v) :
    Calls Try.prog 12 #[.int .i64 k, .int .i64 s, .int .i64 f, .int .i64 v, .int .i64 n] w fun e w' => e = .returned (.tuple #[.int .i64 (Pl.byVal k s f v n), .int .i64 (Pl.byFl k s f v n), .bool (Pl.byOk k s f v n)]) ∧ Below w.heap.size w w' := by
  cases h : Pl.goodK k s f v
  · have K : Hid (Pl.byOk k s f v n = false ∧ Pl.byVal k s f v n = 0 ∧ Pl.byFl k s f v n = 0) := hide (by simp [Pl.byVal, Pl.byFl, Pl.byOk, h])
    go_enter Try.func12, Try.ntmps12
    go_wp2_with fail
    refine (rowOf_bad k s f v _ hv.1 hv.2 h).mono ?_
    rintro e w1 ⟨rfl, hb⟩
    go_wp2_with fail
    go_ret3
    exact ⟨rIIB K.out.2.1.symm K.out.2.2.symm K.out.1.symm, hb.alloc hb.size _⟩
  · by_cases hn : 0 ≤ n ∧ n ≤ 63
    · have hk : Pl.byOk k s f v n = true := Pl.byOk_mk h hn.1 hn.2
      refine (shiftBy_good k s f v n w h hn.1 hn.2).mono ?_
      rintro e w' ⟨rfl, hb⟩
      exact ⟨rIIB (by simp [Pl.byVal, hk]) (by simp [Pl.byFl, hk]) hk.symm, hb⟩
    · have K : Hid (Pl.byOk k s f v n = false ∧ Pl.byVal k s f v n = 0 ∧ Pl.byFl k s f v n = 0) := by
        have : Pl.cnt n = false := by simp [Pl.cnt]; omega
        exact hide (by simp [Pl.byVal, Pl.byFl, Pl.byOk, this])
      obtain d0 | ⟨d0, d1⟩ : decide (n < 0) = true ∨ (decide (n < 0) = false ∧ decide (63 < n) = true) := by simp; omega
      all_goals
        clear hn
        go_enter Try.func12, Try.ntmps12
        go_wp2_with fail
        refine (rowOf k s f v _ h).mono ?_
        rintro e w1 ⟨rfl, hb⟩
        go_wp2_with fail
        go_ret3
        exact ⟨rIIB K.out.2.1.symm K.out.2.2.symm K.out.1.symm, hb.alloc hb.size _⟩

theorem otherWay (k : Int) (w : World) (k0 : 4 ≤ k) (k1 : k ≤ 7) :
    Calls Try.prog 46 #[.int .i64 k] w fun e w' => e = .returned (.int .i64 (Pl.flip k)) ∧ w' = w := by
  have : k = 4 ∨ k = 5 ∨ k = 6 ∨ k = 7 := by omega
  clear k0 k1
  rcases this with rfl | rfl | rfl | rfl
  all_goals
    go_enter Try.func46, Try.ntmps46
    go_wp2_with fail
    refine (isLeft _ _).mono ?_
    rintro e w' ⟨rfl, rfl⟩
    go_wp2_with (simp only [Pl.left, Pl.kin])
    go_ret
    exact ⟨rfl, rfl⟩

theorem rotateBack (k s f v n : Int) (w : World) (hv : W64 v) :
    Calls Try.prog 23 #[.int .i64 k, .int .i64 s, .int .i64 f, .int .i64 v, .int .i64 n] w fun e w' => e = .returned (.tuple #[.int .i64 (Pl.rbV k s f v n), .bool (Pl.rbOk k s f v n)]) ∧ Below w.heap.size w w' := by
  by_cases hk : 4 ≤ k ∧ k ≤ 7
  · obtain ⟨k0, k1⟩ := hk
    have d0 : decide (k < 4) = false := by simp; omega
    have d1 : decide (7 < k) = false := by simp; omega
    cases ho : Pl.byOk k s f v n
    · have K : Hid (Pl.rbOk k s f v n = false ∧ Pl.rbV k s f v n = 0) := hide (by simp [Pl.rbV, Pl.rbOk, ho])
      go_enter Try.func23, Try.ntmps23
      go_wp2_with fail
      refine (shiftBy k s f v n _ hv).mono ?_
      rintro e w1 ⟨rfl, hb⟩
      go_wp2_with fail
      go_ret2
      exact ⟨rIB K.out.2.symm K.out.1.symm, hb⟩
    · have kr : Pl.rbOk k s f v n = true := by simp [Pl.rbOk, ho, k0]
      have K : Hid (Pl.rbOk k s f v n = true ∧ Pl.rbV k s f v n = v) := hide (by simp [Pl.rbV, kr])
      obtain ⟨_, t1, t2⟩ := Pl.turned_back kr
      have T2 := hide t2
      have hw : W64 (Pl.byVal k s f v n) := by
        obtain ⟨hg, n0, n1⟩ := Pl.byOk_ok ho
        obtain ⟨_, _, _, _, _, hf⟩ := Pl.goodK_ok hg
        obtain ⟨hs, u0, u1, _, _⟩ := Pl.st_fit (k := k) hf n.toNat
        have e : Pl.byVal k s f v n = (Pl.st k s (v, f / 16) n.toNat).1 := by simp [Pl.byVal, ho]
        rw [e]
        rcases Pl.top12 hs with ⟨_, e⟩ | ⟨_, e⟩ <;> rw [e] at u1 <;> exact ⟨by omega, by omega⟩
      clear t2 kr
      go_enter Try.func23, Try.ntmps23
      go_wp2_with fail
      refine (shiftBy k s f v n _ hv).mono ?_
      rintro e w1 ⟨rfl, hb⟩
      go_wp2_with fail
      refine (otherWay k _ k0 k1).mono ?_
      rintro e w2 ⟨rfl, rfl⟩
      go_wp2_with fail
      refine (shiftBy (Pl.flip k) s _ _ n _ hw).mono ?_
      rintro e w3 ⟨rfl, hb2⟩
      go_wp2_with fail
      go_ret2
      exact ⟨rIB (T2.out.trans K.out.2.symm) K.out.1.symm, hb.trans (hb2.mono hb.size)⟩
  · have K : Hid (Pl.rbOk k s f v n = false ∧ Pl.rbV k s f v n = 0) := by
      have : Pl.rbOk k s f v n = false := by
        cases h : Pl.rbOk k s f v n
        · rfl
        · simp only [Pl.rbOk, Bool.and_eq_true, decide_eq_true_eq] at h
          have := Pl.goodK_ok (Pl.byOk_ok h.1).1
          omega
      exact hide (by simp [Pl.rbV, this])
    obtain d0 | ⟨d0, d1⟩ : decide (k < 4) = true ∨ (decide (k < 4) = false ∧ decide (7 < k) = true) := by simp; omega
    all_goals
      clear hk
      go_enter Try.func23, Try.ntmps23
      go_wp2_with fail
      go_ret2
      exact ⟨rIB K.out.2.symm K.out.1.symm, Below.refl _ _⟩
end Go.Proofs.Ytlagdbajdehanaa
