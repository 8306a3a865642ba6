/- What CmpFlags, LogicFlags, ExtendWord and SwapBytes of chapter 1, and their models, answer for every argument: one contract a function; none changes the world. What the model's step does with operands. What the model's step does with an operand's place. -/
import Derived.Test.YtblddehlkaolbaaGreatDoorJA7
namespace Go.Proofs.YtblddehlkaolbaaGreatDoor
open Go.RowKit
set_option linter.unusedVariables false

theorem cmpFlags (s f a b : Int) (w : World) (la : -9223372036854775808 ≤ a) (ha : a ≤ 9223372036854775807) (lb : -9223372036854775808 ≤ b) (hb : b ≤ 9223372036854775807) :
    Calls Tryz.prog 204 #[.int .i64 s, .int .i64 f, .int .i64 a, .int .i64 b] w fun e w' => e = .returned (.tuple #[.int .i64 (Pl.cmpF s f a b), .bool (Pl.two s 0 a b && Pl.flags f)]) ∧ w' = w := by
  cases k : Pl.two s 0 a b
  · have HV : Hid (Pl.cmpF s f a b = 0) := hide (by simp [Pl.cmpF, k])
    go_enter Tryz.func204, Tryz.ntmps204
    go_wp2_with fail
    refine (subFlags s 0 a b _ la ha lb hb).mono ?_
    rintro e w' ⟨rfl, rfl⟩
    go_wp2_with fail
    go_ret2
    exact ⟨rIB HV.out.symm rfl, rfl⟩
  · cases kf : Pl.flags f
    · have HV : Hid (Pl.cmpF s f a b = 0) := hide (by simp [Pl.cmpF, kf])
      go_enter Tryz.func204, Tryz.ntmps204
      go_wp2_with fail
      refine (subFlags s 0 a b _ la ha lb hb).mono ?_
      rintro e w' ⟨rfl, rfl⟩
      go_wp2_with fail
      refine (isFlags f _).mono ?_
      rintro e w' ⟨rfl, rfl⟩
      go_wp2_with fail
      go_ret2
      exact ⟨rIB HV.out.symm rfl, rfl⟩
    · have HV : Hid (Pl.cmpF s f a b = bits .or .i64 (bits .andNot .i64 (Pl.subF s 0 a b) 16) (bits .and .i64 f 16)) := hide (by simp only [Pl.cmpF, k, kf, Bool.and_self, if_true, Pl.andNot16 _ (Pl.subF_bd s 0 a b).1 (Pl.subF_bd s 0 a b).2])
      go_enter Tryz.func204, Tryz.ntmps204
      go_wp2_with fail
      refine (subFlags s 0 a b _ la ha lb hb).mono ?_
      rintro e w' ⟨rfl, rfl⟩
      go_wp2_with fail
      refine (isFlags f _).mono ?_
      rintro e w' ⟨rfl, rfl⟩
      go_wp2_with fail
      go_ret2
      exact ⟨rIB HV.out.symm rfl, rfl⟩

theorem l1SubOk (s x a b : Int) (w : World) (h : Pl.two s x a b = true) :
    Calls Tryz.prog 118 #[.int .i64 s, .int .i64 x, .int .i64 a, .int .i64 b] w fun e w' => e = .returned (.tuple #[.int .i64 (Pl.subV s x a b), .int .i64 (Pl.subF s x a b)]) ∧ w' = w := by
  have HV : Pl.subV s x a b = (a - b - x) % Pl.top s := by simp [Pl.subV, h]
  have HF : Pl.subF s x a b = Pl.keptF s (a - b - x) (Pl.sg s a - Pl.sg s b - x) := by simp [Pl.subF, h]
  rw [HV, HF]
  obtain ⟨ka, kb, kx⟩ := Pl.two_ok h
  obtain ⟨hs, a0, a1⟩ := Pl.top_ok ka
  obtain ⟨_, b0, b1⟩ := Pl.top_ok kb
  obtain ⟨x0, x1⟩ := Pl.bit_ok kx
  rcases hs with ⟨rfl, _⟩ | ⟨rfl, _⟩
  · exact l1Sub1 x a b w a0 a1 b0 b1 x0 x1
  · exact l1Sub2 x a b w a0 a1 b0 b1 x0 x1

theorem l1Cmp (s f a b : Int) (w : World) (h : Pl.two s 0 a b = true) :
    Calls Tryz.prog 132 #[.int .i64 s, .int .i64 f, .int .i64 a, .int .i64 b] w fun e w' => e = .returned (.int .i64 (bits .or .i64 (bits .and .i64 (Pl.subF s 0 a b) 15) (bits .and .i64 f 16))) ∧ w' = w := by
  go_enter Tryz.func132, Tryz.ntmps132
  go_wp2_with fail
  refine (l1SubOk s 0 a b _ h).mono ?_
  rintro e w' ⟨rfl, rfl⟩
  go_wp2_with fail
  go_ret
  exact ⟨rfl, rfl⟩

theorem logicFlags (s f v : Int) (w : World) (lv : -9223372036854775808 ≤ v) (hv : v ≤ 9223372036854775807) :
    Calls Tryz.prog 207 #[.int .i64 s, .int .i64 f, .int .i64 v] w fun e w' => e = .returned (.tuple #[.int .i64 (Pl.logF s f v), .bool (Pl.okv s v && Pl.flags f)]) ∧ w' = w := by
  cases k : Pl.okv s v
  · have HV : Hid (Pl.logF s f v = 0) := hide (by simp [Pl.logF, k])
    go_enter Tryz.func207, Tryz.ntmps207
    go_wp2_with fail
    refine (signedOf s v _ lv hv).mono ?_
    rintro e w' ⟨rfl, rfl⟩
    go_wp2_with fail
    go_ret2
    exact ⟨rIB HV.out.symm rfl, rfl⟩
  · cases kf : Pl.flags f
    · have HV : Hid (Pl.logF s f v = 0) := hide (by simp [Pl.logF, kf])
      go_enter Tryz.func207, Tryz.ntmps207
      go_wp2_with fail
      refine (signedOf s v _ lv hv).mono ?_
      rintro e w' ⟨rfl, rfl⟩
      go_wp2_with fail
      refine (isFlags f _).mono ?_
      rintro e w' ⟨rfl, rfl⟩
      go_wp2_with fail
      go_ret2
      exact ⟨rIB HV.out.symm rfl, rfl⟩
    · have HV : Hid (Pl.logF s f v = bits .or .i64 (Pl.keptF s v (Pl.sgnV s v)) (bits .and .i64 f 16)) := hide (by
        simp only [Pl.logF, k, kf, Bool.and_self, if_true, Pl.sgnV_ok k, Pl.keptSelf k]; rw [Pl.or_comm])
      have hs : s = 1 ∨ s = 2 := by have := Pl.top_ok k; omega
      go_enter Tryz.func207, Tryz.ntmps207
      go_wp2_with fail
      refine (signedOf s v _ lv hv).mono ?_
      rintro e w' ⟨rfl, rfl⟩
      go_wp2_with fail
      refine (isFlags f _).mono ?_
      rintro e w' ⟨rfl, rfl⟩
      go_wp2_with fail
      refine (wrapSumOf s _ _ _ hs).mono ?_
      rintro e w' ⟨rfl, rfl⟩
      go_wp2_with fail
      go_ret2
      exact ⟨rIB HV.out.symm rfl, rfl⟩

theorem l1ZnOk (s v : Int) (w : World) (h : Pl.okv s v = true) :
    Calls Tryz.prog 117 #[.int .i64 s, .int .i64 v] w fun e w' => e = .returned (.int .i64 (bits .or .i64 (Pl.fl (v == 0) 4) (Pl.fl (decide (Pl.sg s v < 0)) 8))) ∧ w' = w := by
  obtain ⟨hs, h0, h1⟩ := Pl.top_ok h
  rcases hs with ⟨rfl, _⟩ | ⟨rfl, _⟩
  · rw [← Pl.neg1 h0 h1]; exact l1Zn1 v w
  · rw [← Pl.neg2 h0 h1]; exact l1Zn2 v w

theorem l1Logic (s f v : Int) (w : World) (h : Pl.okv s v = true) :
    Calls Tryz.prog 76 #[.int .i64 s, .int .i64 f, .int .i64 v] w fun e w' => e = .returned (.int .i64 (bits .or .i64 (bits .and .i64 f 16) (bits .or .i64 (Pl.fl (v == 0) 4) (Pl.fl (decide (Pl.sg s v < 0)) 8)))) ∧ w' = w := by
  go_enter Tryz.func76, Tryz.ntmps76
  go_wp2_with fail
  refine (l1ZnOk s v _ h).mono ?_
  rintro e w' ⟨rfl, rfl⟩
  go_wp2_with fail
  go_ret
  exact ⟨rfl, rfl⟩

theorem extendWord (v : Int) (w : World) (lv : -9223372036854775808 ≤ v) (hv : v ≤ 9223372036854775807) :
    Calls Tryz.prog 186 #[.int .i64 v] w fun e w' => e = .returned (.tuple #[.int .i64 (Pl.extV v), .bool (Pl.okv 1 v)]) ∧ w' = w := by
  cases k : Pl.okv 1 v
  · have HV : Hid (Pl.extV v = 0) := hide (by simp [Pl.extV, k])
    go_enter Tryz.func186, Tryz.ntmps186
    go_wp2_with fail
    refine (signedOf 1 v _ lv hv).mono ?_
    rintro e w' ⟨rfl, rfl⟩
    go_wp2_with fail
    go_ret2
    exact ⟨rIB HV.out.symm rfl, rfl⟩
  · have HV : Hid (Pl.extV v = Pl.sg 1 v % 65536) := hide (by simp [Pl.extV, k])
    have e1 := Pl.sgnV_ok k
    have hw : IntKind.u16.wrap (Pl.sg 1 v) = Pl.sg 1 v % 65536 := IntKind.wrap_u16 _
    go_enter Tryz.func186, Tryz.ntmps186
    go_wp2_with fail
    refine (signedOf 1 v _ lv hv).mono ?_
    rintro e w' ⟨rfl, rfl⟩
    go_wp2_with fail
    go_ret2
    exact ⟨rIB HV.out.symm rfl, rfl⟩

theorem specExtendWord (v : Int) (w : World) :
    Calls Tryz.prog 127 #[.int .i64 v] w fun e w' => e = .returned (.tuple #[.int .i64 (Pl.extV v), .bool (Pl.okv 1 v)]) ∧ w' = w := by
  cases k : Pl.okv 1 v
  · have HV : Hid (Pl.extV v = 0) := hide (by simp [Pl.extV, k])
    go_enter Tryz.func127, Tryz.ntmps127
    go_wp2_with fail
    refine (l1Value 1 v _).mono ?_
    rintro e w' ⟨rfl, rfl⟩
    go_wp2_with fail
    go_ret2
    exact ⟨rIB HV.out.symm rfl, rfl⟩
  · have HV : Hid (Pl.extV v = Pl.sg 1 v % 65536) := hide (by simp [Pl.extV, k])
    have em := Pl.and65535 (Pl.sg 1 v)
    go_enter Tryz.func127, Tryz.ntmps127
    go_wp2_with fail
    refine (l1Value 1 v _).mono ?_
    rintro e w' ⟨rfl, rfl⟩
    go_wp2_with fail
    refine (l1SignedOk 1 v _ k).mono ?_
    rintro e w' ⟨rfl, rfl⟩
    go_wp2_with fail
    go_ret2
    exact ⟨rIB HV.out.symm rfl, rfl⟩

theorem swapBytes (v : Int) (w : World) (lv : -9223372036854775808 ≤ v) (hv : v ≤ 9223372036854775807) :
    Calls Tryz.prog 185 #[.int .i64 v] w fun e w' => e = .returned (.tuple #[.int .i64 (Pl.swpV v), .bool (Pl.okv 2 v)]) ∧ w' = w := by
  cases k : Pl.okv 2 v
  · have HV : Hid (Pl.swpV v = 0) := hide (by simp [Pl.swpV, k])
    go_enter Tryz.func185, Tryz.ntmps185
    go_wp2_with fail
    refine (signedOf 2 v _ lv hv).mono ?_
    rintro e w' ⟨rfl, rfl⟩
    go_wp2_with fail
    go_ret2
    exact ⟨rIB HV.out.symm rfl, rfl⟩
  · have HV : Hid (Pl.swpV v = v % 256 * 256 + v / 256) := hide (by simp [Pl.swpV, k])
    have h0 : 0 ≤ v := by have := Pl.top_ok k; omega
    have h1 : v < 65536 := by have := Pl.top_ok k; omega
    go_enter Tryz.func185, Tryz.ntmps185
    go_wp2_with fail
    refine (signedOf 2 v _ lv hv).mono ?_
    rintro e w' ⟨rfl, rfl⟩
    go_wp2_with fail
    go_ret2
    exact ⟨rIB HV.out.symm rfl, rfl⟩

theorem specSwapBytes (v : Int) (w : World) :
    Calls Tryz.prog 125 #[.int .i64 v] w fun e w' => e = .returned (.tuple #[.int .i64 (Pl.swpV v), .bool (Pl.okv 2 v)]) ∧ w' = w := by
  cases k : Pl.okv 2 v
  · have HV : Hid (Pl.swpV v = 0) := hide (by simp [Pl.swpV, k])
    go_enter Tryz.func125, Tryz.ntmps125
    go_wp2_with fail
    refine (l1Value 2 v _).mono ?_
    rintro e w' ⟨rfl, rfl⟩
    go_wp2_with fail
    go_ret2
    exact ⟨rIB HV.out.symm rfl, rfl⟩
  · have HV : Hid (Pl.swpV v = v % 256 * 256 + v / 256) := hide (by simp [Pl.swpV, k])
    have h0 : 0 ≤ v := by have := Pl.top_ok k; omega
    have h1 : v < 65536 := by have := Pl.top_ok k; omega
    have em := Pl.and255 v
    have eo := Pl.swap_or v h0 h1
    go_enter Tryz.func125, Tryz.ntmps125
    go_wp2_with fail
    refine (l1Value 2 v _).mono ?_
    rintro e w' ⟨rfl, rfl⟩
    go_wp2_with fail
    go_ret2
    exact ⟨rIB HV.out.symm rfl, rfl⟩

end Go.Proofs.YtblddehlkaolbaaGreatDoor

namespace Go.Proofs.YtblddehlkaolbaaGreatDoor
open Go.RowKit
set_option linter.unusedVariables false
theorem l1TopZ (z : Int) (hz : z = 1 ∨ z = 2) (w : World) : Calls Tryz.prog 116 #[.int .i64 z] w fun e w' => e = .returned (.int .i64 (Pl.top z)) ∧ w' = w := by
  rcases hz with rfl | rfl
  · exact l1Top1 w
  · exact l1Top2 w
theorem mLow (w : World) (gd cd ga ca : Nat) (r : Pl.Rg) (z k : Int) (hD : Own w gd r.xs) (hg : Pl.Good r) (hz : z = 1 ∨ z = 2) (k0 : 0 ≤ k) (k1 : k ≤ 3) :
    Calls Tryz.prog 74 #[regV r gd cd ga ca, .int .i64 z, .int .i64 k] w fun e w' => e = .returned (.int .i64 (el r.xs k.toNat % Pl.top z)) ∧ Kept 0 0 w w' := by
  obtain ⟨n, rfl⟩ : ∃ n : Nat, k = (n : Int) := ⟨k.toNat, by omega⟩
  have hn : n < 4 := by omega
  have k4 : (n : Int) < 4 := by omega
  have hA := elAt (hD.keptS (kept_alloc w (.cells #[.slice (some ⟨gd, 0, none⟩) 4 cd, .slice (some ⟨ga, 0, none⟩) 4 ca, .int .i64 r.o, .int .i64 r.p, .int .i64 r.f, .int .i64 r.m, .bool r.s, .bool r.t] 31)) (by omega)) n (by rw [hg.d4]; omega)
  obtain ⟨hc, _⟩ := hA
  have HE : Hid (bits .and .i64 (el r.xs n) (Pl.top z - 1) = el r.xs n % Pl.top z) := hide (by
    rcases hz with rfl | rfl
    · exact Pl.and255 _
    · exact Pl.and65535 _)
  have HT := l1TopZ z hz
  have hT : 256 ≤ Pl.top z ∧ Pl.top z ≤ 65536 := by rcases hz with rfl | rfl <;> decide
  obtain ⟨hT0, hT1⟩ := hT
  have hK := hide (kept_alloc w (.cells #[.slice (some ⟨gd, 0, none⟩) 4 cd, .slice (some ⟨ga, 0, none⟩) 4 ca, .int .i64 r.o, .int .i64 r.p, .int .i64 r.f, .int .i64 r.m, .bool r.s, .bool r.t] 31))
  have hg4 := Blk.lt (Blk.new w #[.slice (some ⟨gd, 0, none⟩) 4 cd, .slice (some ⟨ga, 0, none⟩) 4 ca, .int .i64 r.o, .int .i64 r.p, .int .i64 r.f, .int .i64 r.m, .bool r.s, .bool r.t] 31)
  clear hD hg hg4
  unfold regV
  generalize Pl.top z = T at *
  clear hz
  go_enter Tryz.func74, Tryz.ntmps74
  go_wp2_with fail
  go_region_with (go_at_call 116; refine (HT _).mono ?_; rintro e9 w9 ⟨rfl, hw⟩; have hw2 := hw.symm; clear hw; subst hw2)
  all_goals
    go_wp2_with fail
    go_ret
    exact ⟨rI (by rw [IntKind.wrap_i64, show (T - 1 + 9223372036854775808) % 18446744073709551616 - 9223372036854775808 = T - 1 by omega]; exact HE.out), kept_drew hK.out⟩
theorem mRaise (w : World) (lo mid hi p g2 : Nat) (c : Pl.Mc) (v : Int) (h : MAt w lo mid hi p g2 c) :
    Calls Tryz.prog 124 #[.pointer (some ⟨p, 0, none⟩), .int .i64 v] w fun e w' => e = .returned (.tuple #[]) ∧ ∃ g3, MAt w' lo mid hi p g3 (c.raise v) ∧ Since w lo hi g2 w' g3 := by
  have hl := h.lo
  have HM := hide h
  obtain ⟨gd, cd, ga, ca, g1, c1, c2, hB9, hO9⟩ := h
  have HB := hide hB9
  have HO := hide hO9
  obtain ⟨t0, t1, t2, t3, t4, t5, t6, t7, t8, t9, t10, t11, t12, t13, t14, t15⟩ := hB9.cells
  clear t0 t1 t2 t4 t5 t6 t7 t8 t9 t10 t13 t14 t15
  have f11 := hB9.frozen 11
  have f12 := hB9.frozen 12
  clear hB9 hO9
  go_enter Tryz.func124, Tryz.ntmps124
  go_wp2_with fail
  go_end0
  have hp := HO.out.p0
  have hd := HO.out.d0
  have hd1 := HO.out.d1
  have KK := (kept_one w p 11 (.int .i64 v)).one 12 (.int .i64 c.r.p)
  have hq : (lo ≤ p ∧ p < hi) ∨ w.heap.size ≤ p := by have := HO.out.p1; omega
  exact ⟨rfl, g2, ⟨gd, cd, ga, ca, g1, c1, c2, (HB.out.cV v).cPc c.r.p, HO.out.own KK⟩, ((Since.refl _ _ _ _).set p 11 _ hq).set p 12 _ hq⟩
theorem l1LogicAt {z f v : Int} (w : World) (hv : Pl.okv z v = true) (hf : Pl.flags f = true) : Calls Tryz.prog 76 #[.int .i64 z, .int .i64 f, .int .i64 v] w fun e w' => e = .returned (.int .i64 (Pl.logF z f v)) ∧ w' = w := by
  have e : Pl.logF z f v = bits .or .i64 (bits .and .i64 f 16) (bits .or .i64 (Pl.fl (v == 0) 4) (Pl.fl (decide (Pl.sg z v < 0)) 8)) := by unfold Pl.logF; rw [hv, hf]; rfl
  rw [e]
  exact l1Logic z f v w hv
theorem mData (w : World) (lo mid hi p g2 : Nat) (c : Pl.Mc) (z k v : Int) (h : MAt w lo mid hi p g2 c) (G : Pl.GM c) (k0 : 0 ≤ k) (k1 : k ≤ 3) (hv : Pl.okv z v = true) :
    Calls Tryz.prog 126 #[.pointer (some ⟨p, 0, none⟩), .int .i64 z, .int .i64 k, .int .i64 v] w fun e w' => e = .returned (.tuple #[]) ∧ ∃ g3, MAt w' lo mid hi p g3 (c.data z k v) ∧ Since w lo hi g2 w' g3 := by
  have hl := h.lo
  have HF := hide (Pl.flags_of G)
  have HG := hide ((G.setF (Pl.logF_in z c.r.f v hv (Pl.flags_of G)).1 (Pl.logF_in z c.r.f v hv (Pl.flags_of G)).2).g)
  have HM := hide h
  obtain ⟨gd, cd, ga, ca, g1, c1, c2, hB9, hO9⟩ := h
  have HB := hide hB9
  have HO := hide hO9
  obtain ⟨t0, t1, t2, t3, t4, t5, t6, t7, t8, t9, t10, t11, t12, t13, t14, t15⟩ := hB9.cells
  clear t8 t9 t10 t11 t12 t13 t14 t15
  have f0 := hB9.frozen 0
  have f1 := hB9.frozen 1
  have f2 := hB9.frozen 2
  have f3 := hB9.frozen 3
  have f4 := hB9.frozen 4
  have f5 := hB9.frozen 5
  have f6 := hB9.frozen 6
  have f7 := hB9.frozen 7
  clear hB9 hO9
  have hp := HO.out.p0
  have hd := HO.out.d0
  have hd1 := HO.out.d1
  have hs := HB.out.lt
  have K1 := hide (kept_one w p 4 (.int .i64 (Pl.logF z c.r.f v)))
  have HO1 := hide (HO.out.own K1.out)
  have HB1 := hide (HB.out.cF (Pl.logF z c.r.f v))
  clear G
  go_enter Tryz.func126, Tryz.ntmps126
  go_wp2_with (first | (go_at_call 76; refine (l1LogicAt _ hv HF.out).mono ?_; rintro e9 w9 ⟨rfl, hw⟩; have hw2 := hw.symm; clear hw; subst hw2) | (go_at_call 79; refine (put4 _ lo mid gd cd ga ca { c.r with f := Pl.logF z c.r.f v } z k v (MO.reg (r := { c.r with f := Pl.logF z c.r.f v }) HO1.out) (by simp; omega) HG.out k0 k1 hv).mono ?_; unfold regV; rintro e9 W ⟨rfl, hr9, hk9⟩; have HO2 := hide (HO1.out.regs hr9 hk9); have HB2 := hide (HB1.out.regs hk9 hp); have HK2 := hide hk9; clear hr9 hk9 t0 t1 t2 t3 t4 t5 t6 t7 f0 f1 f2 f3 f4 f5 f6 f7; obtain ⟨t0, t1, t2, t3, t4, t5, t6, t7, _⟩ := HB2.out.cells; have f0 := HB2.out.frozen 0; have f1 := HB2.out.frozen 1; have f2 := HB2.out.frozen 2; have f3 := HB2.out.frozen 3; have f4 := HB2.out.frozen 4; have f5 := HB2.out.frozen 5; have f6 := HB2.out.frozen 6; have f7 := HB2.out.frozen 7))
  go_end0
  have hq : (lo ≤ p ∧ p < hi) ∨ w.heap.size ≤ p := by have := HO.out.p1; omega
  have hm9 := HO.out.p1
  exact ⟨rfl, g2, MAt.laid HB2.out HO2.out, since8 (((Since.refl w lo hi g2).set p 4 _ hq).keptS HK2.out (Nat.le_refl _) (by omega)) hq _ _ _ _ _ _ _ _⟩
theorem mWrite (w : World) (lo mid hi p g2 : Nat) (c : Pl.Mc) (z m k x a v : Int) (h : MAt w lo mid hi p g2 c) (G : Pl.GM c) (k0 : 0 ≤ k) (k1 : k ≤ 3) (a0 : 0 ≤ a) (a1 : a ≤ 65535) (hv : Pl.okv z v = true) :
    Calls Tryz.prog 75 #[.pointer (some ⟨p, 0, none⟩), .int .i64 z, .agg #[.int .i64 m, .int .i64 k, .int .i64 x], .int .i64 a, .int .i64 v] w fun e w' => e = .returned (.tuple #[]) ∧ ∃ g3, MAt w' lo mid hi p g3 (c.write z m k a v) ∧ Since w lo hi g2 w' g3 := by
  have hl := h.lo
  cases hm : (m == 0)
  · have KA := hide (kept_alloc w (.cells #[.int .i64 m, .int .i64 k, .int .i64 x] 77))
    have E : Hid (c.write z m k a v = c.acc 2 z a v) := hide (by unfold Pl.Mc.write; rw [hm]; rfl)
    have HM1 := hide (h.any KA.out)
    have HG := hide G
    have HA : Hid (Pl.askOk 2 z a v = true) := hide (by simp [Pl.askOk, Pl.accKind, Pl.addr, hv]; omega)
    clear G h
    go_enter Tryz.func75, Tryz.ntmps75
    go_wp2_with (go_at_call 68; refine (mAccess _ lo mid hi p g2 c 2 z a v HM1.out HG.out HA.out).mono ?_; rintro e9 W ⟨rfl, g3, hm9, hb9⟩; have HM2 := hide hm9; have HL2 := hide hb9; clear hm9 hb9)
    go_end0
    exact ⟨rfl, g3, by rw [E.out]; exact HM2.out, ((Since.refl w lo hi g2).any KA.out).trans HL2.out⟩
  · have E : Hid (c.write z m k a v = c.setR (Pl.putR c.r z k v)) := hide (by unfold Pl.Mc.write; rw [hm]; rfl)
    have HG := hide G.g
    have KA := hide (kept_alloc w (.cells #[.int .i64 m, .int .i64 k, .int .i64 x] 77))
    have BA := Blk.new w #[.int .i64 m, .int .i64 k, .int .i64 x] 77
    obtain ⟨X, hX⟩ : ∃ X : World, w.alloc (.cells #[.int .i64 m, .int .i64 k, .int .i64 x] 77) = X := ⟨_, rfl⟩
    rw [hX] at KA BA
    have b0 := BA.cell (i := 0) rfl
    have b1 := BA.cell (i := 1) rfl
    have b2 := BA.cell (i := 2) rfl
    have hbw := BA.lt
    have h2 := h.any KA.out
    have hl2 := h2.lo
    clear h BA
    have HM := hide h2
    obtain ⟨gd, cd, ga, ca, g1, c1, c2, hB9, hO9⟩ := h2
    have HB := hide hB9
    have HO := hide hO9
    obtain ⟨t0, t1, t2, t3, t4, t5, t6, t7, t8, t9, t10, t11, t12, t13, t14, t15⟩ := hB9.cells
    clear t8 t9 t10 t11 t12 t13 t14 t15
    have f0 := hB9.frozen 0
    have f1 := hB9.frozen 1
    have f2 := hB9.frozen 2
    have f3 := hB9.frozen 3
    have f4 := hB9.frozen 4
    have f5 := hB9.frozen 5
    have f6 := hB9.frozen 6
    have f7 := hB9.frozen 7
    clear hB9 hO9
    have hp := HO.out.p0
    have hd := HO.out.d0
    have hd1 := HO.out.d1
    have hs := HB.out.lt
    have HMH : Hid (mid ≤ hi) := hide (by have := HO.out.p1; omega)
    have HPH : Hid (lo ≤ p ∧ p < hi) := hide (by have := HO.out.p1; omega)
    have HRD := hide (MO.reg (r := c.r) (HO.out.any (kept_drew (Kept.refl 0 0 X))))
    have HOD := hide (HO.out.any (kept_drew (Kept.refl 0 0 X)))
    have HBD := hide (HB.out.any (kept_drew (Kept.refl 0 0 X)))
    have HMD : Hid (mid ≤ X.drew.heap.size) := hide hl2.2.1
    clear G
    go_enter Tryz.func75, Tryz.ntmps75
    go_wp2_with fail
    go_region_with (go_at_call 79; refine (put4 _ lo mid gd cd ga ca c.r z k v HRD.out HMD.out HG.out k0 k1 hv).mono ?_; unfold regV; rintro e9 W ⟨rfl, hr9, hk9⟩; have HO2 := hide (HOD.out.regs hr9 hk9); have HB2 := hide (HBD.out.regs hk9 hp); have HK2 := hide hk9; clear hr9 hk9; clear t0 t1 t2 t3 t4 t5 t6 t7 f0 f1 f2 f3 f4 f5 f6 f7; obtain ⟨t0, t1, t2, t3, t4, t5, t6, t7, _⟩ := HB2.out.cells; have f0 := HB2.out.frozen 0; have f1 := HB2.out.frozen 1; have f2 := HB2.out.frozen 2; have f3 := HB2.out.frozen 3; have f4 := HB2.out.frozen 4; have f5 := HB2.out.frozen 5; have f6 := HB2.out.frozen 6; have f7 := HB2.out.frozen 7)
    all_goals
      go_wp2_with fail
      first | go_end0 | refine bodyPost_ret (results_none rfl _ _ _) rfl ?_
      exact ⟨rfl, g2, by rw [E.out]; exact MAt.laid HB2.out HO2.out, since8 (((Since.refl w lo hi g2).any KA.out).drew.keptS HK2.out (Nat.le_refl _) HMH.out) (.inl HPH.out) _ _ _ _ _ _ _ _⟩
end Go.Proofs.YtblddehlkaolbaaGreatDoor

namespace Go.Proofs.YtblddehlkaolbaaGreatDoor
open Go.RowKit
set_option linter.unusedVariables false
set_option maxHeartbeats 2000000 in
theorem mPlace (w : World) (lo mid hi p g2 : Nat) (c : Pl.Mc) (z m k x : Int) (h : MAt w lo mid hi p g2 c) (G : Pl.GM c) (k0 : 0 ≤ k) (k1 : k ≤ 3) (x0 : 0 ≤ x) (x1 : x ≤ 65535) (hm1 : m = 0 ∨ m = 2 ∨ m = 3 ∨ m = 4 ∨ m = 5 ∨ m = 6) :
    Calls Tryz.prog 73 #[.pointer (some ⟨p, 0, none⟩), .int .i64 z, .agg #[.int .i64 m, .int .i64 k, .int .i64 x]] w fun e w' => e = .returned (.int .i64 (c.plcA z m k x)) ∧ ∃ g3, MAt w' lo mid hi p g3 (c.place z m k x) ∧ Since w lo hi g2 w' g3 := by
  have hl := h.lo
  cases hm : (m == 0)
  · have hm2 : m = 2 ∨ m = 3 ∨ m = 4 ∨ m = 5 ∨ m = 6 := by simp at hm; omega
    have HG := hide G
    have KA := hide (kept_alloc w (.cells #[.int .i64 m, .int .i64 k, .int .i64 x] 77))
    have BA := Blk.new w #[.int .i64 m, .int .i64 k, .int .i64 x] 77
    obtain ⟨X, hX⟩ : ∃ X : World, w.alloc (.cells #[.int .i64 m, .int .i64 k, .int .i64 x] 77) = X := ⟨_, rfl⟩
    rw [hX] at KA BA
    have b0 := BA.cell (i := 0) rfl
    have b1 := BA.cell (i := 1) rfl
    have b2 := BA.cell (i := 2) rfl
    have hbw := BA.lt
    have h2 := h.any KA.out
    have hl2 := h2.lo
    clear h BA
    have HM := hide h2
    obtain ⟨gd, cd, ga, ca, g1, c1, c2, hB9, hO9⟩ := h2
    have HB := hide hB9
    have HO := hide hO9
    obtain ⟨t0, t1, t2, t3, t4, t5, t6, t7, t8, t9, t10, t11, t12, t13, t14, t15⟩ := hB9.cells
    clear t8 t9 t10 t11 t12 t13 t14 t15
    have f0 := hB9.frozen 0
    have f1 := hB9.frozen 1
    have f2 := hB9.frozen 2
    have f3 := hB9.frozen 3
    have f4 := hB9.frozen 4
    have f5 := hB9.frozen 5
    have f6 := hB9.frozen 6
    have f7 := hB9.frozen 7
    clear hB9 hO9
    have hp := HO.out.p0
    have hd := HO.out.d0
    have hd1 := HO.out.d1
    have hs := HB.out.lt
    have HMH : Hid (mid ≤ hi) := hide (by have := HO.out.p1; omega)
    have HPH : Hid (lo ≤ p ∧ p < hi) := hide (by have := HO.out.p1; omega)
    have HRD := hide (MO.reg (r := c.r) (HO.out.any (kept_drew (Kept.refl 0 0 X))))
    have HOD := hide (HO.out.any (kept_drew (Kept.refl 0 0 X)))
    have HBD := hide (HB.out.any (kept_drew (Kept.refl 0 0 X)))
    have HMD : Hid (mid ≤ X.drew.heap.size) := hide hl2.2.1
    have KZ : Kept 0 0 X (X.drew.alloc (.cells #[.slice none 0 0, .slice none 0 0, .int .i64 0, .int .i64 0, .int .i64 0, .int .i64 0, .bool false, .bool false] 31)) := kept_new (kept_drew (Kept.refl 0 0 X)) _
    have HRZ := hide (MO.reg (r := c.r) (HO.out.any KZ))
    have HOZ := hide (HO.out.any KZ)
    have HBZ := hide (HB.out.any KZ)
    have HMZ : Hid (mid ≤ (X.drew.alloc (.cells #[.slice none 0 0, .slice none 0 0, .int .i64 0, .int .i64 0, .int .i64 0, .int .i64 0, .bool false, .bool false] 31)).heap.size) := hide (by rw [World.size_alloc]; exact Nat.le_trans hl2.2.1 (Nat.le_succ _))
    have BZ : Hid (Blk (X.drew.alloc (.cells #[.slice none 0 0, .slice none 0 0, .int .i64 0, .int .i64 0, .int .i64 0, .int .i64 0, .bool false, .bool false] 31)) X.heap.size #[.slice none 0 0, .slice none 0 0, .int .i64 0, .int .i64 0, .int .i64 0, .int .i64 0, .bool false, .bool false] 31) := hide (Blk.new X.drew #[.slice none 0 0, .slice none 0 0, .int .i64 0, .int .i64 0, .int .i64 0, .int .i64 0, .bool false, .bool false] 31)
    have HKZ := hide KZ
    have hb1 := HO.out.b.lt (by rw [HG.out.bx]; decide)
    have hb2 := HO.out.g2.2
    clear KZ
    have HP := fun (w9 : World) (hr : RegAt w9 lo mid c.r (some ⟨gd, 0, none⟩) (some ⟨ga, 0, none⟩)) (hh : mid ≤ w9.heap.size) => place4 w9 lo mid gd cd ga ca c.r z m k x hr hh HG.out.g k0 k1 x0 x1 hm2
    obtain ⟨R, hR⟩ : ∃ R, Pl.placeR c.r z m k x = R := ⟨_, rfl⟩
    obtain ⟨V, hV⟩ : ∃ V, Pl.placeV c.r z m k x = V := ⟨_, rfl⟩
    simp only [hR, hV, regV] at HP
    have E : Hid (c.place z m k x = c.setR R) := hide (by unfold Pl.Mc.place Pl.Mc.plc; rw [hm, hR]; rfl)
    have E2 : Hid (c.plcA z m k x = V) := hide (by unfold Pl.Mc.plcA; rw [hm, hV]; rfl)
    clear hR hV
    have HNZ : Hid (¬ (lo ≤ X.heap.size ∧ X.heap.size < mid)) := hide (by have q := hl2.2.1; omega)
    have HPZ : Hid (p < X.heap.size) := hide hs
    clear G hm1
    go_enter Tryz.func73, Tryz.ntmps73
    go_wp2_with fail
    go_region_with (first | (go_at_call 115; refine (HP _ HRD.out HMD.out).mono ?_; rintro e9 W ⟨rfl, hr9, hk9⟩; have HO2 := hide (HOD.out.regs hr9 hk9); have HB2 := hide (HBD.out.regs hk9 hp); have HK2 := hide hk9; have HA1 := hide hk9; have hpW := HB2.out.lt; clear hr9 hk9; clear t0 t1 t2 t3 t4 t5 t6 t7 f0 f1 f2 f3 f4 f5 f6 f7; obtain ⟨t0, t1, t2, t3, t4, t5, t6, t7, _⟩ := HB2.out.cells; have f0 := HB2.out.frozen 0; have f1 := HB2.out.frozen 1; have f2 := HB2.out.frozen 2; have f3 := HB2.out.frozen 3; have f4 := HB2.out.frozen 4; have f5 := HB2.out.frozen 5; have f6 := HB2.out.frozen 6; have f7 := HB2.out.frozen 7) | (go_at_call 115; refine (HP _ HRZ.out HMZ.out).mono ?_; rintro e9 W ⟨rfl, hr9, hk9⟩; have HO2 := hide (HOZ.out.regs hr9 hk9); have HB2 := hide (HBZ.out.regs hk9 hp); have HK2 := hide hk9; have HA2 := hide hk9; have BZ2 := hide (Blk.kept BZ.out hk9 HNZ.out); clear hr9 hk9; clear t0 t1 t2 t3 t4 t5 t6 t7 f0 f1 f2 f3 f4 f5 f6 f7; obtain ⟨t0, t1, t2, t3, t4, t5, t6, t7, _⟩ := HB2.out.cells; have f0 := HB2.out.frozen 0; have f1 := HB2.out.frozen 1; have f2 := HB2.out.frozen 2; have f3 := HB2.out.frozen 3; have f4 := HB2.out.frozen 4; have f5 := HB2.out.frozen 5; have f6 := HB2.out.frozen 6; have f7 := HB2.out.frozen 7; have y0 := BZ2.out.cell (i := 0) rfl; have v0 := BZ2.out.frozen 0; have y1 := BZ2.out.cell (i := 1) rfl; have v1 := BZ2.out.frozen 1; have y2 := BZ2.out.cell (i := 2) rfl; have v2 := BZ2.out.frozen 2; have y3 := BZ2.out.cell (i := 3) rfl; have v3 := BZ2.out.frozen 3; have y4 := BZ2.out.cell (i := 4) rfl; have v4 := BZ2.out.frozen 4; have y5 := BZ2.out.cell (i := 5) rfl; have v5 := BZ2.out.frozen 5; have y6 := BZ2.out.cell (i := 6) rfl; have v6 := BZ2.out.frozen 6; have y7 := BZ2.out.cell (i := 7) rfl; have v7 := BZ2.out.frozen 7))
    all_goals
      go_wp2_with fail
      go_ret
      rw [E.out]
      first
        | (have z9 := HA1; exact ⟨rI E2.out.symm, g2, (MAt.laid HB2.out HO2.out).any (kept_alloc _ _), (since8 (((Since.refl w lo hi g2).any KA.out).drew.keptS HK2.out (Nat.le_refl _) HMH.out) (.inl HPH.out) _ _ _ _ _ _ _ _).alloc _⟩)
        | (have z9 := HA2; exact ⟨rI E2.out.symm, g2, MAt.laid (HB2.out.past (MB.kept8 _ _ _ _ _ _ _ _) HPZ.out) (HO2.out.past (MB.kept8 _ _ _ _ _ _ _ _) hl2.2.1 hb1 hb2), since8 (since8 ((((Since.refl w lo hi g2).any KA.out).any HKZ.out).keptS HK2.out (Nat.le_refl _) HMH.out) (.inr KA.out.size) _ _ _ _ _ _ _ _) (.inl HPH.out) _ _ _ _ _ _ _ _⟩)
  · have KA := hide (kept_alloc w (.cells #[.int .i64 m, .int .i64 k, .int .i64 x] 77))
    have E : Hid (c.place z m k x = c) := hide (by unfold Pl.Mc.place; rw [hm]; rfl)
    have E2 : Hid (c.plcA z m k x = 0) := hide (by unfold Pl.Mc.plcA; rw [hm]; rfl)
    have HM := hide (h.any KA.out)
    clear h G
    go_enter Tryz.func73, Tryz.ntmps73
    go_wp2_with fail
    go_ret
    exact ⟨rI E2.out.symm, g2, by rw [E.out]; exact HM.out, (Since.refl w lo hi g2).any KA.out⟩
end Go.Proofs.YtblddehlkaolbaaGreatDoor

