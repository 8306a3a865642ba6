/- What the models of chapter 7 answer for words: how long, of what parts, privileged. Instructions' parts that are as they must be, what a step reads of its operand, and the model's sums over values of a size. What the model's step does with a data register and an operand. What the model's step does with a data register and an operand: bit for bit. -/
import Derived.Test.YtblddehlkaolbaaGreatDoorJA9
import Derived.Test.YtblddehlkaolbaaGreatDoorJA13
import Derived.Deep.RegionHeld3
namespace Go.Proofs.YtblddehlkaolbaaGreatDoor
open Go.RowKit
set_option linter.unusedVariables false
set_option linter.unusedSimpArgs false
theorem specLong (n : Int) (w : World) (h0 : 0 ≤ n) (h1 : n ≤ 65535) : Calls Tryz.prog 69 #[.int .i64 n] w fun e' w' => e' = .returned (.int .i64 (Pl.longW n)) ∧ w' = w := by
  have hA := Pl.and7 (n / 32)
  cases hE : Pl.extM (n / 32 % 8)
  all_goals
    go_enter Tryz.func69, Tryz.ntmps69
    go_wp2_with (first | (go_at_call 108; refine (specExtM _ _).mono ?_; rintro e9 w' ⟨rfl, hw⟩; have hw2 := hw.symm; clear hw; subst hw2; rw [hE]))
    go_ret
    exact ⟨rI (by simp [Pl.longW, hE]), rfl⟩
theorem specPriv (w : World) (op z r m k e s : Int) : Calls Tryz.prog 42 #[.agg #[.int .i64 op, .int .i64 z, .int .i64 r, .int .i64 m, .int .i64 k, .int .i64 e, .int .i64 s]] w fun e' w' => e' = .returned (.bool (Pl.priv ⟨op, z, r, m, k, e, s⟩)) ∧ Kept 0 0 w w' := by
  have K0 := hide (kept_alloc w (.cells #[.int .i64 op, .int .i64 z, .int .i64 r, .int .i64 m, .int .i64 k, .int .i64 e, .int .i64 s] 79))
  cases q1 : (op == 15) <;> cases q2 : (s == 1) <;> cases q3 : (s == 3) <;> cases q4 : (op == 19) <;> cases q5 : (s == 0)
  all_goals
    go_enter Tryz.func42, Tryz.ntmps42
    go_wp2_with fail
    go_ret
    exact ⟨rB (by simp only [Pl.priv, q1, q2, q3, q4, q5]; rfl), K0.out⟩
set_option maxHeartbeats 1000000 in
theorem specDecode (w : World) (n v : Int) (h0 : 0 ≤ n) (h1 : n ≤ 65535) : Calls Tryz.prog 70 #[.int .i64 n, .int .i64 v] w fun e' w' => e' = .returned (.agg #[.int .i64 (Pl.decode n v).op, .int .i64 (Pl.decode n v).z, .int .i64 (Pl.decode n v).r, .int .i64 (Pl.decode n v).m, .int .i64 (Pl.decode n v).k, .int .i64 (Pl.decode n v).e, .int .i64 (Pl.decode n v).s]) ∧ Kept 0 0 w w' := by
  have A1 := Pl.and1 (n / 1024)
  have A2 := Pl.and3 (n / 256)
  have A3 := Pl.and7 (n / 32)
  have A4 := Pl.and3 (n / 8)
  have A5 := Pl.and7 n
  by_cases hL : Pl.longW n = 2
  · have E : Hid (Pl.decode n v = ⟨n / 2048, n / 1024 % 2 + 1, n / 256 % 4, n / 32 % 8, n / 8 % 4, v, n % 8⟩) := hide (by simp [Pl.decode, hL])
    go_enter Tryz.func70, Tryz.ntmps70
    go_wp2_with (first | (go_at_call 69; refine (specLong _ _ h0 h1).mono ?_; rintro e9 w' ⟨rfl, hw⟩; have hw2 := hw.symm; clear hw; subst hw2; rw [hL]))
    refine bodyPost_ret (v := .agg #[.int .i64 (n / 2048), .int .i64 (n / 1024 % 2 + 1), .int .i64 (n / 256 % 4), .int .i64 (n / 32 % 8), .int .i64 (n / 8 % 4), .int .i64 v, .int .i64 (n % 8)]) ?_ rfl ⟨by rw [E.out], ?_⟩
    · rw [results_one rfl]; go_simp
    · repeat' (first | exact Kept.refl _ _ _ | refine kept_new ?_ _ | refine kept_set ?_ _ _ _ (.inr (by omega)))
  · have E : Hid (Pl.decode n v = ⟨n / 2048, n / 1024 % 2 + 1, n / 256 % 4, n / 32 % 8, n / 8 % 4, 0, n % 8⟩) := hide (by simp [Pl.decode, hL])
    have hL2 : Pl.longW n = 1 := by unfold Pl.longW at hL ⊢; split at hL <;> simp_all
    go_enter Tryz.func70, Tryz.ntmps70
    go_wp2_with (first | (go_at_call 69; refine (specLong _ _ h0 h1).mono ?_; rintro e9 w' ⟨rfl, hw⟩; have hw2 := hw.symm; clear hw; subst hw2; rw [hL2]))
    refine bodyPost_ret (v := .agg #[.int .i64 (n / 2048), .int .i64 (n / 1024 % 2 + 1), .int .i64 (n / 256 % 4), .int .i64 (n / 32 % 8), .int .i64 (n / 8 % 4), .int .i64 0, .int .i64 (n % 8)]) ?_ rfl ⟨by rw [E.out], ?_⟩
    · rw [results_one rfl]; go_simp
    · repeat' (first | exact Kept.refl _ _ _ | refine kept_new ?_ _ | refine kept_set ?_ _ _ _ (.inr (by omega)))
end Go.Proofs.YtblddehlkaolbaaGreatDoor

namespace Go.Proofs.YtblddehlkaolbaaGreatDoor
open Go.RowKit
set_option linter.unusedVariables false
namespace Pl
structure InB (x : In) : Prop where
  z : x.z = 1 ∨ x.z = 2
  r0 : 0 ≤ x.r
  r1 : x.r ≤ 3
  m0 : 0 ≤ x.m
  m1 : x.m ≤ 7
  k0 : 0 ≤ x.k
  k1 : x.k ≤ 3
  e0 : 0 ≤ x.e
  e1 : x.e ≤ 65535
  s0 : 0 ≤ x.s
  s1 : x.s ≤ 7
  n7 : x.m = 7 → okv x.z x.e = true
theorem inB_of {x : In} (h : inOk x = true) : InB x := by
  simp only [inOk, inBase, opOk, modeOk, wordOk, within, byteNow, Bool.and_eq_true, Bool.or_eq_true, decide_eq_true_eq, Bool.not_eq_true', Bool.and_eq_false_iff, beq_iff_eq, decide_eq_false_iff_not, beq_eq_false_iff_ne] at h
  obtain ⟨⟨hz, ⟨r0, r1⟩, ⟨⟨m0, m1⟩, ⟨k0, k1⟩, _, ⟨e0, e1⟩, _⟩, ⟨s0, s1⟩, hb⟩, _⟩ := h
  refine ⟨hz, r0, r1, m0, m1, k0, k1, e0, e1, s0, s1, fun h7 => ?_⟩
  rcases hz with hz | hz
  · rw [hz]; simp [okv, top]; omega
  · rw [hz]; simp [okv, top]; omega
theorem GM.read {c : Mc} (h : GM c) {z m k e : Int} (hz : z = 1 ∨ z = 2) (k0 : 0 ≤ k) (k1 : k ≤ 3) (e0 : 0 ≤ e) (e1 : e ≤ 65535) : GM (c.read z m k e) := by
  unfold Mc.read
  cases Mc.inReg m
  · have q := placeV_in h.g (z := z) (m := m) k0 k1 e0 e1
    exact (h.plc k0 k1).acc (ask_at hz q.1 q.2)
  · exact h
theorem GM.place {c : Mc} (h : GM c) {z m k e : Int} (k0 : 0 ≤ k) (k1 : k ≤ 3) : GM (c.place z m k e) := by
  unfold Mc.place
  cases m == 0
  · exact h.plc k0 k1
  · exact h
theorem plcA_in {c : Mc} (h : GM c) {z m k e : Int} (k0 : 0 ≤ k) (k1 : k ≤ 3) (e0 : 0 ≤ e) (e1 : e ≤ 65535) : 0 ≤ c.plcA z m k e ∧ c.plcA z m k e ≤ 65535 := by
  unfold Mc.plcA
  cases m == 0
  · exact placeV_in h.g k0 k1 e0 e1
  · exact ⟨Int.le_refl 0, (by decide : (0 : Int) ≤ 65535)⟩
theorem readV_in {c : Mc} (h : GM c) {z m k e : Int} (hz : z = 1 ∨ z = 2) (k0 : 0 ≤ k) (k1 : k ≤ 3) (e0 : 0 ≤ e) (e1 : e ≤ 65535) (h1 : m = 1 → z = 2) (h7 : m = 7 → okv z e = true) : okv z (c.readV z m k e) = true := by
  unfold Mc.readV
  cases q0 : (m == 0)
  · cases q1 : (m == 1)
    · cases q7 : (m == 7)
      · have q := placeV_in h.g (z := z) (m := m) k0 k1 e0 e1
        exact (h.plc k0 k1).accV (ask_at hz q.1 q.2)
      · exact h7 (by simpa using q7)
    · have e := h1 (by simpa using q1)
      subst e
      have q := h.g.aw k.toNat (by omega)
      show okv 2 (el c.r.ys k.toNat) = true
      simp [okv, top]; omega
  · exact low_in h hz k0 k1
theorem placeR_f (r : Rg) (z m k e : Int) : (placeR r z m k e).f = r.f := by
  unfold placeR; split
  · rfl
  · split <;> rfl
theorem read_f (c : Mc) (z m k e : Int) : (c.read z m k e).r.f = c.r.f := by
  unfold Mc.read; cases Mc.inReg m
  · exact placeR_f c.r z m k e
  · rfl
theorem place_f (c : Mc) (z m k e : Int) : (c.place z m k e).r.f = c.r.f := by
  unfold Mc.place; cases m == 0
  · exact placeR_f c.r z m k e
  · rfl
theorem place_p (c : Mc) (z m k e : Int) : (c.place z m k e).r.p = c.r.p := by
  unfold Mc.place; cases m == 0
  · exact placeR_p c.r z m k e
  · rfl
theorem two_of {z a b : Int} (ha : okv z a = true) (hb : okv z b = true) : two z 0 a b = true := by unfold two; rw [ha, hb]; rfl
theorem okv_addV {z a b : Int} (ha : okv z a = true) : okv z (addV z 0 a b) = true := by
  have := top_ok ha
  unfold addV
  split
  · rcases this.1 with ⟨rfl, e⟩ | ⟨rfl, e⟩ <;> rw [e] <;> simp [okv, top] <;> omega
  · rcases this.1 with ⟨rfl, e⟩ | ⟨rfl, e⟩ <;> simp [okv, top]
theorem okv_subV {z a b : Int} (hz : z = 1 ∨ z = 2) : okv z (subV z 0 a b) = true := by
  unfold subV
  split
  · rcases hz with rfl | rfl <;> simp [okv, top] <;> omega
  · rcases hz with rfl | rfl <;> simp [okv, top]
theorem ofInt_nat (n : Nat) (h : n < 65536) : (BitVec.ofInt 64 (n : Int)).toNat = n := by rw [BitVec.toNat_ofInt]; omega
theorem bits_nat (a b : Nat) (ha : a < 65536) (hb : b < 65536) : bits .and .i64 (a : Int) (b : Int) = ((a &&& b : Nat) : Int) ∧ bits .or .i64 (a : Int) (b : Int) = ((a ||| b : Nat) : Int) ∧ bits .xor .i64 (a : Int) (b : Int) = ((a ^^^ b : Nat) : Int) := by
  have h1 : a &&& b < 2 ^ 16 := Nat.and_lt_two_pow a hb
  have h2 : a ||| b < 2 ^ 16 := Nat.or_lt_two_pow ha hb
  have h3 : a ^^^ b < 2 ^ 16 := Nat.xor_lt_two_pow ha hb
  refine ⟨?_, ?_, ?_⟩
  · show IntKind.i64.wrap ((BitVec.ofInt 64 a &&& BitVec.ofInt 64 b).toNat : Int) = _
    rw [BitVec.toNat_and, ofInt_nat a ha, ofInt_nat b hb, IntKind.wrap_i64]; omega
  · show IntKind.i64.wrap ((BitVec.ofInt 64 a ||| BitVec.ofInt 64 b).toNat : Int) = _
    rw [BitVec.toNat_or, ofInt_nat a ha, ofInt_nat b hb, IntKind.wrap_i64]; omega
  · show IntKind.i64.wrap ((BitVec.ofInt 64 a ^^^ BitVec.ofInt 64 b).toNat : Int) = _
    rw [BitVec.toNat_xor, ofInt_nat a ha, ofInt_nat b hb, IntKind.wrap_i64]; omega
theorem okv_bits {z a b : Int} (ha : okv z a = true) (hb : okv z b = true) : okv z (bits .and .i64 a b) = true ∧ okv z (bits .or .i64 a b) = true ∧ okv z (bits .xor .i64 a b) = true := by
  have t1 := top_ok ha
  have t2 := top_ok hb
  obtain ⟨x, rfl⟩ : ∃ x : Nat, a = (x : Int) := ⟨a.toNat, by omega⟩
  obtain ⟨y, rfl⟩ : ∃ y : Nat, b = (y : Int) := ⟨b.toNat, by omega⟩
  obtain ⟨e1, e2, e3⟩ := bits_nat x y (by omega) (by omega)
  rw [e1, e2, e3]
  rcases t1.1 with ⟨rfl, e⟩ | ⟨rfl, e⟩ <;> rw [e] at t1 t2
  · have h1 : x &&& y < 2 ^ 8 := Nat.and_lt_two_pow x (by omega)
    have h2 : x ||| y < 2 ^ 8 := Nat.or_lt_two_pow (by omega) (by omega)
    have h3 : x ^^^ y < 2 ^ 8 := Nat.xor_lt_two_pow (by omega) (by omega)
    simp [okv, top]; omega
  · have h1 : x &&& y < 2 ^ 16 := Nat.and_lt_two_pow x (by omega)
    have h2 : x ||| y < 2 ^ 16 := Nat.or_lt_two_pow (by omega) (by omega)
    have h3 : x ^^^ y < 2 ^ 16 := Nat.xor_lt_two_pow (by omega) (by omega)
    simp [okv, top]; omega
end Pl
theorem l1AddZ {z a b : Int} (w : World) (ha : Pl.okv z a = true) (hb : Pl.okv z b = true) : Calls Tryz.prog 131 #[.int .i64 z, .int .i64 0, .int .i64 a, .int .i64 b] w fun e w' => e = .returned (.tuple #[.int .i64 (Pl.addV z 0 a b), .int .i64 (Pl.addF z 0 a b)]) ∧ w' = w := by
  have h2 := Pl.two_of ha hb
  have t1 := Pl.top_ok ha
  have t2 := Pl.top_ok hb
  unfold Pl.addV Pl.addF
  rw [if_pos h2, if_pos h2]
  rcases t1.1 with ⟨rfl, e⟩ | ⟨rfl, e⟩
  · rw [e] at t1 t2 ⊢; exact l1Add1 0 a b w (by omega) (by omega) (by omega) (by omega) (by omega) (by omega)
  · rw [e] at t1 t2 ⊢; exact l1Add2 0 a b w (by omega) (by omega) (by omega) (by omega) (by omega) (by omega)
theorem l1CmpZ {z f a b : Int} (w : World) (ha : Pl.okv z a = true) (hb : Pl.okv z b = true) (hf : Pl.flags f = true) : Calls Tryz.prog 132 #[.int .i64 z, .int .i64 f, .int .i64 a, .int .i64 b] w fun e w' => e = .returned (.int .i64 (Pl.cmpF z f a b)) ∧ w' = w := by
  have h2 := Pl.two_of ha hb
  have e : Pl.cmpF z f a b = bits .or .i64 (bits .and .i64 (Pl.subF z 0 a b) 15) (bits .and .i64 f 16) := by unfold Pl.cmpF; rw [h2, hf]; rfl
  rw [e]
  exact l1Cmp z f a b w h2
end Go.Proofs.YtblddehlkaolbaaGreatDoor

namespace Go.Proofs.YtblddehlkaolbaaGreatDoor
open Go.RowKit
set_option linter.unusedVariables false
theorem cellsS {W : World} {p gd cd ga ca g1 c1 g2 c2 b : Nat} {c : Pl.Mc} {x : Pl.In} {ty : TypeId} (hB : MB W p gd cd ga ca g1 c1 g2 c2 c) (hX : Blk W b (insC x) ty) : W.cell? ⟨p, 0, none⟩ = some (.slice (some ⟨gd, 0, none⟩) 4 cd) ∧ W.cell? ⟨p, 1, none⟩ = some (.slice (some ⟨ga, 0, none⟩) 4 ca) ∧ W.cell? ⟨p, 2, none⟩ = some (.int .i64 c.r.o) ∧ W.cell? ⟨p, 3, none⟩ = some (.int .i64 c.r.p) ∧ W.cell? ⟨p, 4, none⟩ = some (.int .i64 c.r.f) ∧ W.cell? ⟨p, 5, none⟩ = some (.int .i64 c.r.m) ∧ W.cell? ⟨p, 6, none⟩ = some (.bool c.r.s) ∧ W.cell? ⟨p, 7, none⟩ = some (.bool c.r.t) ∧ W.cell? ⟨b, 1, none⟩ = some (.int .i64 x.z) ∧ W.cell? ⟨b, 2, none⟩ = some (.int .i64 x.r) := by
  obtain ⟨t0, t1, t2, t3, t4, t5, t6, t7, _⟩ := hB.cells
  obtain ⟨b0, b1, b2, b3, b4, b5, b6⟩ := insAt hX
  exact ⟨t0, t1, t2, t3, t4, t5, t6, t7, b1, b2⟩
theorem mTwo_no (w : World) (lo mid hi p g2 : Nat) (c : Pl.Mc) (x : Pl.In) (h : MAt w lo mid hi p g2 c) (G : Pl.GM c) (B : Pl.InB x) (h1 : x.m = 1 → x.z = 2) (hf : (c.read x.z x.m x.k x.e).fine = false) :
    Calls Tryz.prog 86 #[.pointer (some ⟨p, 0, none⟩), .agg #[.int .i64 x.op, .int .i64 x.z, .int .i64 x.r, .int .i64 x.m, .int .i64 x.k, .int .i64 x.e, .int .i64 x.s]] w fun e w' => e = .returned (.tuple #[]) ∧ ∃ g3, MAt w' lo mid hi p g3 (c.two x) ∧ Since w lo hi g2 w' g3 := by
  have HG := hide G
  have HI := hide B
  have HV := hide (Pl.readV_in G B.z B.k0 B.k1 B.e0 B.e1 h1 B.n7)
  have HG1 := hide (G.read (m := x.m) B.z B.k0 B.k1 B.e0 B.e1)
  have hl := h.lo
  have KA := hide (kept_alloc w (.cells #[.int .i64 x.op, .int .i64 x.z, .int .i64 x.r, .int .i64 x.m, .int .i64 x.k, .int .i64 x.e, .int .i64 x.s] 79))
  have BA : Blk (w.alloc (.cells #[.int .i64 x.op, .int .i64 x.z, .int .i64 x.r, .int .i64 x.m, .int .i64 x.k, .int .i64 x.e, .int .i64 x.s] 79)) w.heap.size (insC x) 79 := Blk.new w #[.int .i64 x.op, .int .i64 x.z, .int .i64 x.r, .int .i64 x.m, .int .i64 x.k, .int .i64 x.e, .int .i64 x.s] 79
  obtain ⟨X, hX⟩ : ∃ X : World, w.alloc (.cells #[.int .i64 x.op, .int .i64 x.z, .int .i64 x.r, .int .i64 x.m, .int .i64 x.k, .int .i64 x.e, .int .i64 x.s] 79) = X := ⟨_, rfl⟩
  rw [hX] at KA BA
  have HX := hide BA
  have hbw := BA.lt
  obtain ⟨b0, b1, b2, b3, b4, b5, b6⟩ := insAt HX.out
  have HHB : Hid (hi ≤ w.heap.size) := hide hl.2.2.2.2.2.2
  have HGB : Hid (w.heap.size ≠ g2) := hide (by have := hl.2.2.2.2.2.1; omega)
  have HPH : Hid ((lo ≤ p ∧ p < hi) ∨ w.heap.size ≤ p) := hide (by omega)
  have HPB : Hid (p < w.heap.size) := hide hl.2.2.2.2.1
  have HMH : Hid (mid ≤ hi) := hide (by omega)
  have HS := hide ((Since.refl w lo hi g2).any KA.out)
  have h2 := h.any KA.out
  clear h BA
  have HM := hide h2
  obtain ⟨gd, cd, ga, ca, g1, c1, c2, hB9, hO9⟩ := h2
  have HB := hide hB9
  have HO := hide hO9
  obtain ⟨t0, t1, t2, t3, t4, t5, t6, t7, t8, t9, t10, t11, t12, t13, t14, t15⟩ := hB9.cells
  clear t0 t1 t2 t3 t4 t5 t6 t7 t8 t9 t10 t11 t12 t13 t14 t15
  clear hB9 hO9
  clear G B h1
  have E : Hid (c.two x = c.read x.z x.m x.k x.e) := hide (by unfold Pl.Mc.two; rw [hf]; rfl)
  go_enter Tryz.func86, Tryz.ntmps86
  go_wp2_with (first | (go_at_call 72; refine (mRead _ lo mid hi p g2 c x.z x.m x.k x.e HM.out HG.out HI.out.z HI.out.k0 HI.out.k1 HI.out.e0 HI.out.e1 HI.out.m0 HI.out.m1).mono ?_; rintro e9 W_1 ⟨rfl, g2_1, hm9, hb9⟩; have HX_1 := hide (hb9.blk HX.out HHB.out HGB.out); have HGB_1 := hide (hb9.ne HX.out.lt HGB.out); have HS_1 := hide (HS.out.trans hb9); clear hb9; have HM_1 := hide hm9; obtain ⟨gd_1, cd_1, ga_1, ca_1, g1_1, c1_1, c2_1, hB9, hO9⟩ := hm9; have HB_1 := hide hB9; have HO_1 := hide hO9; obtain ⟨t0_1, t1_1, t2_1, t3_1, t4_1, t5_1, t6_1, t7_1, t8_1, t9_1, t10_1, t11_1, t12_1, t13_1, t14_1, t15_1⟩ := hB9.cells; clear t8_1 t9_1 t10_1 t11_1 t12_1 t13_1 t14_1 t15_1; clear hB9 hO9; clear b0 b1 b2 b3 b4 b5 b6; obtain ⟨b0, b1, b2, b3, b4, b5, b6⟩ := insAt HX_1.out) | (go_at_call 41; refine (mFine _ lo mid hi p g2_1 _ HM_1.out).mono ?_; rintro e9 w9 ⟨rfl, hw⟩; have hw2 := hw.symm; clear hw; subst hw2; rw [hf]))
  first | go_end0 | refine bodyPost_ret (results_none rfl _ _ _) rfl ?_
  exact ⟨rfl, g2_1, by rw [E.out]; exact HM_1.out, HS_1.out⟩
set_option maxHeartbeats 4000000 in
theorem mTwo_cmp (w : World) (lo mid hi p g2 : Nat) (c : Pl.Mc) (x : Pl.In) (h : MAt w lo mid hi p g2 c) (G : Pl.GM c) (B : Pl.InB x) (h1 : x.m = 1 → x.z = 2) (hf : (c.read x.z x.m x.k x.e).fine = true) (ho : x.op = 8) :
    Calls Tryz.prog 86 #[.pointer (some ⟨p, 0, none⟩), .agg #[.int .i64 x.op, .int .i64 x.z, .int .i64 x.r, .int .i64 x.m, .int .i64 x.k, .int .i64 x.e, .int .i64 x.s]] w fun e w' => e = .returned (.tuple #[]) ∧ ∃ g3, MAt w' lo mid hi p g3 (c.two x) ∧ Since w lo hi g2 w' g3 := by
  have HG := hide G
  have HI := hide B
  have HV := hide (Pl.readV_in G B.z B.k0 B.k1 B.e0 B.e1 h1 B.n7)
  have HG1 := hide (G.read (m := x.m) B.z B.k0 B.k1 B.e0 B.e1)
  have HOP := hide ho
  clear ho
  have hl := h.lo
  have KA := hide (kept_alloc w (.cells #[.int .i64 x.op, .int .i64 x.z, .int .i64 x.r, .int .i64 x.m, .int .i64 x.k, .int .i64 x.e, .int .i64 x.s] 79))
  have BA : Blk (w.alloc (.cells #[.int .i64 x.op, .int .i64 x.z, .int .i64 x.r, .int .i64 x.m, .int .i64 x.k, .int .i64 x.e, .int .i64 x.s] 79)) w.heap.size (insC x) 79 := Blk.new w #[.int .i64 x.op, .int .i64 x.z, .int .i64 x.r, .int .i64 x.m, .int .i64 x.k, .int .i64 x.e, .int .i64 x.s] 79
  obtain ⟨X, hX⟩ : ∃ X : World, w.alloc (.cells #[.int .i64 x.op, .int .i64 x.z, .int .i64 x.r, .int .i64 x.m, .int .i64 x.k, .int .i64 x.e, .int .i64 x.s] 79) = X := ⟨_, rfl⟩
  rw [hX] at KA BA
  have HX := hide BA
  have hbw := BA.lt
  obtain ⟨b0, b1, b2, b3, b4, b5, b6⟩ := insAt HX.out
  rw [HOP.out] at b0
  have HHB : Hid (hi ≤ w.heap.size) := hide hl.2.2.2.2.2.2
  have HGB : Hid (w.heap.size ≠ g2) := hide (by have := hl.2.2.2.2.2.1; omega)
  have HPH : Hid ((lo ≤ p ∧ p < hi) ∨ w.heap.size ≤ p) := hide (by omega)
  have HPB : Hid (p < w.heap.size) := hide hl.2.2.2.2.1
  have HMH : Hid (mid ≤ hi) := hide (by omega)
  have HS := hide ((Since.refl w lo hi g2).any KA.out)
  have h2 := h.any KA.out
  clear h BA
  have HM := hide h2
  obtain ⟨gd, cd, ga, ca, g1, c1, c2, hB9, hO9⟩ := h2
  have HB := hide hB9
  have HO := hide hO9
  obtain ⟨t0, t1, t2, t3, t4, t5, t6, t7, t8, t9, t10, t11, t12, t13, t14, t15⟩ := hB9.cells
  clear t0 t1 t2 t3 t4 t5 t6 t7 t8 t9 t10 t11 t12 t13 t14 t15
  clear hB9 hO9
  clear G B h1
  have HQ : Hid (el (c.read x.z x.m x.k x.e).r.xs x.r.toNat % Pl.top x.z = (c.read x.z x.m x.k x.e).low x.z x.r) := hide rfl
  have HQ0 := Pl.low_in HG1.out HI.out.z HI.out.r0 HI.out.r1
  obtain ⟨d, hd⟩ : ∃ d, c.read x.z x.m x.k x.e = d := ⟨_, rfl⟩
  obtain ⟨v, hv⟩ : ∃ v, c.readV x.z x.m x.k x.e = v := ⟨_, rfl⟩
  have E : Hid (c.two x = d.two' x (d.low x.z x.r) v) := hide (by unfold Pl.Mc.two; rw [hf, hd, hv]; rfl)
  have HRD := fun w9 h9 => mRead w9 lo mid hi p g2 c x.z x.m x.k x.e h9 HG.out HI.out.z HI.out.k0 HI.out.k1 HI.out.e0 HI.out.e1 HI.out.m0 HI.out.m1
  rw [hd] at hf HG1 HQ HQ0
  rw [hv] at HV
  simp only [hd, hv] at HRD
  clear hd hv
  obtain ⟨q, hq⟩ : ∃ q, d.low x.z x.r = q := ⟨_, rfl⟩
  rw [hq] at E HQ HQ0
  clear hq
  have HF := hide (Pl.flags_of HG1.out)
  have HVQ := hide HQ0
  have E2 : Hid (d.two' x q v = d.setF (Pl.cmpF x.z d.r.f q v)) := hide (by unfold Pl.Mc.two'; rw [HOP.out]; rfl)
  go_enter Tryz.func86, Tryz.ntmps86
  go_wp2_with (first | (go_at_call 72; refine (HRD _ HM.out).mono ?_; rintro e9 W_1 ⟨rfl, g2_1, hm9, hb9⟩; have HX_1 := hide (hb9.blk HX.out HHB.out HGB.out); have HGB_1 := hide (hb9.ne HX.out.lt HGB.out); have HS_1 := hide (HS.out.trans hb9); clear hb9; have HM_1 := hide hm9; obtain ⟨gd_1, cd_1, ga_1, ca_1, g1_1, c1_1, c2_1, hB9, hO9⟩ := hm9; have HB_1 := hide hB9; have HO_1 := hide hO9; obtain ⟨t0_1, t1_1, t2_1, t3_1, t4_1, t5_1, t6_1, t7_1, t8_1, t9_1, t10_1, t11_1, t12_1, t13_1, t14_1, t15_1⟩ := hB9.cells; clear t8_1 t9_1 t10_1 t11_1 t12_1 t13_1 t14_1 t15_1; clear hB9 hO9; clear b0 b1 b2 b3 b4 b5 b6; obtain ⟨b0, b1, b2, b3, b4, b5, b6⟩ := insAt HX_1.out; rw [HOP.out] at b0) | (go_at_call 41; refine (mFine _ lo mid hi p g2_1 _ HM_1.out).mono ?_; rintro e9 w9 ⟨rfl, hw⟩; have hw2 := hw.symm; clear hw; subst hw2; rw [hf]))
  have HD := hide (HO_1.out.any (kept_drew (Kept.refl 0 0 W_1))).d
  have S1D := cellsS (HB_1.out.any (kept_drew (Kept.refl 0 0 W_1))) (HX_1.out.kept0 (kept_drew (Kept.refl 0 0 W_1)))
  go_region_held3 (fun w' => w'.cell? ⟨p, 0, none⟩ = some (.slice (some ⟨gd_1, 0, none⟩) 4 cd_1) ∧ w'.cell? ⟨p, 1, none⟩ = some (.slice (some ⟨ga_1, 0, none⟩) 4 ca_1) ∧ w'.cell? ⟨p, 2, none⟩ = some (.int .i64 d.r.o) ∧ w'.cell? ⟨p, 3, none⟩ = some (.int .i64 d.r.p) ∧ w'.cell? ⟨p, 4, none⟩ = some (.int .i64 d.r.f) ∧ w'.cell? ⟨p, 5, none⟩ = some (.int .i64 d.r.m) ∧ w'.cell? ⟨p, 6, none⟩ = some (.bool d.r.s) ∧ w'.cell? ⟨p, 7, none⟩ = some (.bool d.r.t) ∧ w'.cell? ⟨w.heap.size, 1, none⟩ = some (.int .i64 x.z) ∧ w'.cell? ⟨w.heap.size, 2, none⟩ = some (.int .i64 x.r)) (first | with_reducible exact S1D | with_reducible exact cellsS HB_2.out HX_2.out | go_keep) (first | (go_at_call 74; refine (mLow _ gd_1 cd_1 ga_1 ca_1 d.r x.z x.r HD.out HG1.out.g HI.out.z HI.out.r0 HI.out.r1).mono ?_; rw [HQ.out]; rintro e9 W_2 ⟨rfl, hk9⟩; have K2 := hide ((kept_drew (Kept.refl 0 0 W_1)).trans hk9); clear hk9; have HM_2 := hide (HM_1.out.any K2.out); have HB_2 := hide (HB_1.out.any K2.out); have HO_2 := hide (HO_1.out.any K2.out); have HX_2 := hide (HX_1.out.kept0 K2.out); have HS_2 := hide (HS_1.out.any K2.out); obtain ⟨t0_2, t1_2, t2_2, t3_2, t4_2, t5_2, t6_2, t7_2, t8_2, t9_2, t10_2, t11_2, t12_2, t13_2, t14_2, t15_2⟩ := HB_2.out.cells; clear t8_2 t9_2 t10_2 t11_2 t12_2 t13_2 t14_2 t15_2; have f0_2 := HB_2.out.frozen 0; have f1_2 := HB_2.out.frozen 1; have f2_2 := HB_2.out.frozen 2; have f3_2 := HB_2.out.frozen 3; have f4_2 := HB_2.out.frozen 4; have f5_2 := HB_2.out.frozen 5; have f6_2 := HB_2.out.frozen 6; have f7_2 := HB_2.out.frozen 7; clear b0 b1 b2 b3 b4 b5 b6; obtain ⟨b0, b1, b2, b3, b4, b5, b6⟩ := insAt HX_2.out; rw [HOP.out] at b0; clear t0_1 t1_1 t2_1 t3_1 t4_1 t5_1 t6_1 t7_1))
  go_wp2_with (go_at_call 132; refine (l1CmpZ _ HVQ.out HV.out HF.out).mono ?_; rintro e9 w9 ⟨rfl, hw⟩; have hw2 := hw.symm; clear hw; subst hw2)
  first | go_end0 | refine bodyPost_ret (results_none rfl _ _ _) rfl ?_
  exact ⟨rfl, g2_1, by rw [E.out, E2.out]; exact HM_2.out.cF _, HS_2.out.set p 4 _ HPH.out⟩
set_option maxHeartbeats 4000000 in
theorem mTwo_add (w : World) (lo mid hi p g2 : Nat) (c : Pl.Mc) (x : Pl.In) (h : MAt w lo mid hi p g2 c) (G : Pl.GM c) (B : Pl.InB x) (h1 : x.m = 1 → x.z = 2) (hf : (c.read x.z x.m x.k x.e).fine = true) (ho : x.op = 3) :
    Calls Tryz.prog 86 #[.pointer (some ⟨p, 0, none⟩), .agg #[.int .i64 x.op, .int .i64 x.z, .int .i64 x.r, .int .i64 x.m, .int .i64 x.k, .int .i64 x.e, .int .i64 x.s]] w fun e w' => e = .returned (.tuple #[]) ∧ ∃ g3, MAt w' lo mid hi p g3 (c.two x) ∧ Since w lo hi g2 w' g3 := by
  have HG := hide G
  have HI := hide B
  have HV := hide (Pl.readV_in G B.z B.k0 B.k1 B.e0 B.e1 h1 B.n7)
  have HG1 := hide (G.read (m := x.m) B.z B.k0 B.k1 B.e0 B.e1)
  have HOP := hide ho
  clear ho
  have hl := h.lo
  have KA := hide (kept_alloc w (.cells #[.int .i64 x.op, .int .i64 x.z, .int .i64 x.r, .int .i64 x.m, .int .i64 x.k, .int .i64 x.e, .int .i64 x.s] 79))
  have BA : Blk (w.alloc (.cells #[.int .i64 x.op, .int .i64 x.z, .int .i64 x.r, .int .i64 x.m, .int .i64 x.k, .int .i64 x.e, .int .i64 x.s] 79)) w.heap.size (insC x) 79 := Blk.new w #[.int .i64 x.op, .int .i64 x.z, .int .i64 x.r, .int .i64 x.m, .int .i64 x.k, .int .i64 x.e, .int .i64 x.s] 79
  obtain ⟨X, hX⟩ : ∃ X : World, w.alloc (.cells #[.int .i64 x.op, .int .i64 x.z, .int .i64 x.r, .int .i64 x.m, .int .i64 x.k, .int .i64 x.e, .int .i64 x.s] 79) = X := ⟨_, rfl⟩
  rw [hX] at KA BA
  have HX := hide BA
  have hbw := BA.lt
  obtain ⟨b0, b1, b2, b3, b4, b5, b6⟩ := insAt HX.out
  rw [HOP.out] at b0
  have HHB : Hid (hi ≤ w.heap.size) := hide hl.2.2.2.2.2.2
  have HGB : Hid (w.heap.size ≠ g2) := hide (by have := hl.2.2.2.2.2.1; omega)
  have HPH : Hid ((lo ≤ p ∧ p < hi) ∨ w.heap.size ≤ p) := hide (by omega)
  have HPB : Hid (p < w.heap.size) := hide hl.2.2.2.2.1
  have HMH : Hid (mid ≤ hi) := hide (by omega)
  have HS := hide ((Since.refl w lo hi g2).any KA.out)
  have h2 := h.any KA.out
  clear h BA
  have HM := hide h2
  obtain ⟨gd, cd, ga, ca, g1, c1, c2, hB9, hO9⟩ := h2
  have HB := hide hB9
  have HO := hide hO9
  obtain ⟨t0, t1, t2, t3, t4, t5, t6, t7, t8, t9, t10, t11, t12, t13, t14, t15⟩ := hB9.cells
  clear t0 t1 t2 t3 t4 t5 t6 t7 t8 t9 t10 t11 t12 t13 t14 t15
  clear hB9 hO9
  clear G B h1
  have HQ : Hid (el (c.read x.z x.m x.k x.e).r.xs x.r.toNat % Pl.top x.z = (c.read x.z x.m x.k x.e).low x.z x.r) := hide rfl
  have HQ0 := Pl.low_in HG1.out HI.out.z HI.out.r0 HI.out.r1
  obtain ⟨d, hd⟩ : ∃ d, c.read x.z x.m x.k x.e = d := ⟨_, rfl⟩
  obtain ⟨v, hv⟩ : ∃ v, c.readV x.z x.m x.k x.e = v := ⟨_, rfl⟩
  have E : Hid (c.two x = d.two' x (d.low x.z x.r) v) := hide (by unfold Pl.Mc.two; rw [hf, hd, hv]; rfl)
  have HRD := fun w9 h9 => mRead w9 lo mid hi p g2 c x.z x.m x.k x.e h9 HG.out HI.out.z HI.out.k0 HI.out.k1 HI.out.e0 HI.out.e1 HI.out.m0 HI.out.m1
  rw [hd] at hf HG1 HQ HQ0
  rw [hv] at HV
  simp only [hd, hv] at HRD
  clear hd hv
  obtain ⟨q, hq⟩ : ∃ q, d.low x.z x.r = q := ⟨_, rfl⟩
  rw [hq] at E HQ HQ0
  clear hq
  have HF := hide (Pl.flags_of HG1.out)
  have HVQ := hide HQ0
  have E2 : Hid (d.two' x q v = (d.setF (Pl.addF x.z 0 q v)).put x.z x.r (Pl.addV x.z 0 q v)) := hide (by unfold Pl.Mc.two'; rw [HOP.out]; rfl)
  have HVV : Hid (Pl.okv x.z (Pl.addV x.z 0 q v) = true) := hide (Pl.okv_addV HVQ.out)
  have HGF := hide (HG1.out.setF (v := Pl.addF x.z 0 q v) (Pl.addF_bd x.z 0 q v).1 (Pl.addF_bd x.z 0 q v).2).g
  go_enter Tryz.func86, Tryz.ntmps86
  go_wp2_with (first | (go_at_call 72; refine (HRD _ HM.out).mono ?_; rintro e9 W_1 ⟨rfl, g2_1, hm9, hb9⟩; have HX_1 := hide (hb9.blk HX.out HHB.out HGB.out); have HGB_1 := hide (hb9.ne HX.out.lt HGB.out); have HS_1 := hide (HS.out.trans hb9); clear hb9; have HM_1 := hide hm9; obtain ⟨gd_1, cd_1, ga_1, ca_1, g1_1, c1_1, c2_1, hB9, hO9⟩ := hm9; have HB_1 := hide hB9; have HO_1 := hide hO9; obtain ⟨t0_1, t1_1, t2_1, t3_1, t4_1, t5_1, t6_1, t7_1, t8_1, t9_1, t10_1, t11_1, t12_1, t13_1, t14_1, t15_1⟩ := hB9.cells; clear t8_1 t9_1 t10_1 t11_1 t12_1 t13_1 t14_1 t15_1; clear hB9 hO9; clear b0 b1 b2 b3 b4 b5 b6; obtain ⟨b0, b1, b2, b3, b4, b5, b6⟩ := insAt HX_1.out; rw [HOP.out] at b0) | (go_at_call 41; refine (mFine _ lo mid hi p g2_1 _ HM_1.out).mono ?_; rintro e9 w9 ⟨rfl, hw⟩; have hw2 := hw.symm; clear hw; subst hw2; rw [hf]))
  have HD := hide (HO_1.out.any (kept_drew (Kept.refl 0 0 W_1))).d
  have S1D := cellsS (HB_1.out.any (kept_drew (Kept.refl 0 0 W_1))) (HX_1.out.kept0 (kept_drew (Kept.refl 0 0 W_1)))
  go_region_held3 (fun w' => w'.cell? ⟨p, 0, none⟩ = some (.slice (some ⟨gd_1, 0, none⟩) 4 cd_1) ∧ w'.cell? ⟨p, 1, none⟩ = some (.slice (some ⟨ga_1, 0, none⟩) 4 ca_1) ∧ w'.cell? ⟨p, 2, none⟩ = some (.int .i64 d.r.o) ∧ w'.cell? ⟨p, 3, none⟩ = some (.int .i64 d.r.p) ∧ w'.cell? ⟨p, 4, none⟩ = some (.int .i64 d.r.f) ∧ w'.cell? ⟨p, 5, none⟩ = some (.int .i64 d.r.m) ∧ w'.cell? ⟨p, 6, none⟩ = some (.bool d.r.s) ∧ w'.cell? ⟨p, 7, none⟩ = some (.bool d.r.t) ∧ w'.cell? ⟨w.heap.size, 1, none⟩ = some (.int .i64 x.z) ∧ w'.cell? ⟨w.heap.size, 2, none⟩ = some (.int .i64 x.r)) (first | with_reducible exact S1D | with_reducible exact cellsS HB_2.out HX_2.out | go_keep) (first | (go_at_call 74; refine (mLow _ gd_1 cd_1 ga_1 ca_1 d.r x.z x.r HD.out HG1.out.g HI.out.z HI.out.r0 HI.out.r1).mono ?_; rw [HQ.out]; rintro e9 W_2 ⟨rfl, hk9⟩; have K2 := hide ((kept_drew (Kept.refl 0 0 W_1)).trans hk9); clear hk9; have HM_2 := hide (HM_1.out.any K2.out); have HB_2 := hide (HB_1.out.any K2.out); have HO_2 := hide (HO_1.out.any K2.out); have HX_2 := hide (HX_1.out.kept0 K2.out); have HS_2 := hide (HS_1.out.any K2.out); obtain ⟨t0_2, t1_2, t2_2, t3_2, t4_2, t5_2, t6_2, t7_2, t8_2, t9_2, t10_2, t11_2, t12_2, t13_2, t14_2, t15_2⟩ := HB_2.out.cells; clear t8_2 t9_2 t10_2 t11_2 t12_2 t13_2 t14_2 t15_2; have f0_2 := HB_2.out.frozen 0; have f1_2 := HB_2.out.frozen 1; have f2_2 := HB_2.out.frozen 2; have f3_2 := HB_2.out.frozen 3; have f4_2 := HB_2.out.frozen 4; have f5_2 := HB_2.out.frozen 5; have f6_2 := HB_2.out.frozen 6; have f7_2 := HB_2.out.frozen 7; clear b0 b1 b2 b3 b4 b5 b6; obtain ⟨b0, b1, b2, b3, b4, b5, b6⟩ := insAt HX_2.out; rw [HOP.out] at b0; clear t0_1 t1_1 t2_1 t3_1 t4_1 t5_1 t6_1 t7_1))
  go_wp2_with ((go_at_call 131; refine (l1AddZ _ HVQ.out HV.out).mono ?_; rintro e9 w9 ⟨rfl, hw⟩; have hw2 := hw.symm; clear hw; subst hw2))
  have HBY := hide ((HB_2.out.cF (Pl.addF x.z 0 q v)).any (kept_drew (Kept.refl 0 0 (W_2.setCell ⟨p, 4, none⟩ (.int .i64 (Pl.addF x.z 0 q v))))))
  have HOY := hide ((HO_2.out.own (kept_one _ p 4 (.int .i64 (Pl.addF x.z 0 q v)))).any (kept_drew (Kept.refl 0 0 (W_2.setCell ⟨p, 4, none⟩ (.int .i64 (Pl.addF x.z 0 q v))))))
  have HSY := hide ((HS_2.out.set p 4 (.int .i64 (Pl.addF x.z 0 q v)) HPH.out).drew)
  have HXY := hide ((HX_2.out.other p 4 (.int .i64 (Pl.addF x.z 0 q v)) (by have := HPB.out; omega)).kept0 (kept_drew (Kept.refl 0 0 (W_2.setCell ⟨p, 4, none⟩ (.int .i64 (Pl.addF x.z 0 q v))))))
  have HRY := hide (MO.reg (r := (d.setF (Pl.addF x.z 0 q v)).r) HOY.out)
  have HMY : Hid (mid ≤ (W_2.setCell ⟨p, 4, none⟩ (.int .i64 (Pl.addF x.z 0 q v))).drew.heap.size) := hide (Nat.le_trans HMH.out HOY.out.hh)
  have HPM := HOY.out.p0
  have HNM : Hid (¬ (lo ≤ w.heap.size ∧ w.heap.size < mid)) := hide (by have := HHB.out; have := HMH.out; omega)
  have HNP : Hid (¬ (p ≤ w.heap.size ∧ w.heap.size < p + 1)) := hide (by have := HPB.out; omega)
  have SYD := cellsS HBY.out HXY.out
  go_region_held3 (fun w' => w'.cell? ⟨p, 0, none⟩ = some (.slice (some ⟨gd_1, 0, none⟩) 4 cd_1) ∧ w'.cell? ⟨p, 1, none⟩ = some (.slice (some ⟨ga_1, 0, none⟩) 4 ca_1) ∧ w'.cell? ⟨p, 2, none⟩ = some (.int .i64 (d.setF (Pl.addF x.z 0 q v)).r.o) ∧ w'.cell? ⟨p, 3, none⟩ = some (.int .i64 (d.setF (Pl.addF x.z 0 q v)).r.p) ∧ w'.cell? ⟨p, 4, none⟩ = some (.int .i64 (d.setF (Pl.addF x.z 0 q v)).r.f) ∧ w'.cell? ⟨p, 5, none⟩ = some (.int .i64 (d.setF (Pl.addF x.z 0 q v)).r.m) ∧ w'.cell? ⟨p, 6, none⟩ = some (.bool (d.setF (Pl.addF x.z 0 q v)).r.s) ∧ w'.cell? ⟨p, 7, none⟩ = some (.bool (d.setF (Pl.addF x.z 0 q v)).r.t) ∧ w'.cell? ⟨w.heap.size, 1, none⟩ = some (.int .i64 x.z) ∧ w'.cell? ⟨w.heap.size, 2, none⟩ = some (.int .i64 x.r)) (first | with_reducible exact SYD | with_reducible exact cellsS HB_9.out HX_9.out | exact cellsS (HB_9.out.laid (Pl.putR (d.setF (Pl.addF x.z 0 q v)).r x.z x.r (Pl.addV x.z 0 q v))) (Blk.kept HX_9.out (MB.kept8 _ _ _ _ _ _ _ _) HNP.out) | go_keep) (first | (go_at_call 79; refine (put4 _ lo mid gd_1 cd_1 ga_1 ca_1 (d.setF (Pl.addF x.z 0 q v)).r x.z x.r (Pl.addV x.z 0 q v) HRY.out HMY.out HGF.out HI.out.r0 HI.out.r1 HVV.out).mono ?_; unfold regV; rintro e9 W_9 ⟨rfl, hr9, hk9⟩; have HO_9 := hide (HOY.out.regs hr9 hk9); have HB_9 := hide (HBY.out.regs hk9 HPM); have HX_9 := hide (Blk.kept HXY.out hk9 HNM.out); have HS_9 := hide (HSY.out.keptS hk9 (Nat.le_refl _) HMH.out); clear hr9 hk9; obtain ⟨u0, u1, u2, u3, u4, u5, u6, u7, _⟩ := HB_9.out.cells; have f0 := HB_9.out.frozen 0; have f1 := HB_9.out.frozen 1; have f2 := HB_9.out.frozen 2; have f3 := HB_9.out.frozen 3; have f4 := HB_9.out.frozen 4; have f5 := HB_9.out.frozen 5; have f6 := HB_9.out.frozen 6; have f7 := HB_9.out.frozen 7))
  go_wp2_with fail
  first | go_end0 | refine bodyPost_ret (results_none rfl _ _ _) rfl ?_
  exact ⟨rfl, g2_1, by rw [E.out, E2.out]; exact MAt.laid HB_9.out HO_9.out, since8 HS_9.out HPH.out _ _ _ _ _ _ _ _⟩
set_option maxHeartbeats 4000000 in
theorem mTwo_sub (w : World) (lo mid hi p g2 : Nat) (c : Pl.Mc) (x : Pl.In) (h : MAt w lo mid hi p g2 c) (G : Pl.GM c) (B : Pl.InB x) (h1 : x.m = 1 → x.z = 2) (hf : (c.read x.z x.m x.k x.e).fine = true) (ho : x.op = 4) :
    Calls Tryz.prog 86 #[.pointer (some ⟨p, 0, none⟩), .agg #[.int .i64 x.op, .int .i64 x.z, .int .i64 x.r, .int .i64 x.m, .int .i64 x.k, .int .i64 x.e, .int .i64 x.s]] w fun e w' => e = .returned (.tuple #[]) ∧ ∃ g3, MAt w' lo mid hi p g3 (c.two x) ∧ Since w lo hi g2 w' g3 := by
  have HG := hide G
  have HI := hide B
  have HV := hide (Pl.readV_in G B.z B.k0 B.k1 B.e0 B.e1 h1 B.n7)
  have HG1 := hide (G.read (m := x.m) B.z B.k0 B.k1 B.e0 B.e1)
  have HOP := hide ho
  clear ho
  have hl := h.lo
  have KA := hide (kept_alloc w (.cells #[.int .i64 x.op, .int .i64 x.z, .int .i64 x.r, .int .i64 x.m, .int .i64 x.k, .int .i64 x.e, .int .i64 x.s] 79))
  have BA : Blk (w.alloc (.cells #[.int .i64 x.op, .int .i64 x.z, .int .i64 x.r, .int .i64 x.m, .int .i64 x.k, .int .i64 x.e, .int .i64 x.s] 79)) w.heap.size (insC x) 79 := Blk.new w #[.int .i64 x.op, .int .i64 x.z, .int .i64 x.r, .int .i64 x.m, .int .i64 x.k, .int .i64 x.e, .int .i64 x.s] 79
  obtain ⟨X, hX⟩ : ∃ X : World, w.alloc (.cells #[.int .i64 x.op, .int .i64 x.z, .int .i64 x.r, .int .i64 x.m, .int .i64 x.k, .int .i64 x.e, .int .i64 x.s] 79) = X := ⟨_, rfl⟩
  rw [hX] at KA BA
  have HX := hide BA
  have hbw := BA.lt
  obtain ⟨b0, b1, b2, b3, b4, b5, b6⟩ := insAt HX.out
  rw [HOP.out] at b0
  have HHB : Hid (hi ≤ w.heap.size) := hide hl.2.2.2.2.2.2
  have HGB : Hid (w.heap.size ≠ g2) := hide (by have := hl.2.2.2.2.2.1; omega)
  have HPH : Hid ((lo ≤ p ∧ p < hi) ∨ w.heap.size ≤ p) := hide (by omega)
  have HPB : Hid (p < w.heap.size) := hide hl.2.2.2.2.1
  have HMH : Hid (mid ≤ hi) := hide (by omega)
  have HS := hide ((Since.refl w lo hi g2).any KA.out)
  have h2 := h.any KA.out
  clear h BA
  have HM := hide h2
  obtain ⟨gd, cd, ga, ca, g1, c1, c2, hB9, hO9⟩ := h2
  have HB := hide hB9
  have HO := hide hO9
  obtain ⟨t0, t1, t2, t3, t4, t5, t6, t7, t8, t9, t10, t11, t12, t13, t14, t15⟩ := hB9.cells
  clear t0 t1 t2 t3 t4 t5 t6 t7 t8 t9 t10 t11 t12 t13 t14 t15
  clear hB9 hO9
  clear G B h1
  have HQ : Hid (el (c.read x.z x.m x.k x.e).r.xs x.r.toNat % Pl.top x.z = (c.read x.z x.m x.k x.e).low x.z x.r) := hide rfl
  have HQ0 := Pl.low_in HG1.out HI.out.z HI.out.r0 HI.out.r1
  obtain ⟨d, hd⟩ : ∃ d, c.read x.z x.m x.k x.e = d := ⟨_, rfl⟩
  obtain ⟨v, hv⟩ : ∃ v, c.readV x.z x.m x.k x.e = v := ⟨_, rfl⟩
  have E : Hid (c.two x = d.two' x (d.low x.z x.r) v) := hide (by unfold Pl.Mc.two; rw [hf, hd, hv]; rfl)
  have HRD := fun w9 h9 => mRead w9 lo mid hi p g2 c x.z x.m x.k x.e h9 HG.out HI.out.z HI.out.k0 HI.out.k1 HI.out.e0 HI.out.e1 HI.out.m0 HI.out.m1
  rw [hd] at hf HG1 HQ HQ0
  rw [hv] at HV
  simp only [hd, hv] at HRD
  clear hd hv
  obtain ⟨q, hq⟩ : ∃ q, d.low x.z x.r = q := ⟨_, rfl⟩
  rw [hq] at E HQ HQ0
  clear hq
  have HF := hide (Pl.flags_of HG1.out)
  have HVQ := hide HQ0
  have E2 : Hid (d.two' x q v = (d.setF (Pl.subF x.z 0 q v)).put x.z x.r (Pl.subV x.z 0 q v)) := hide (by unfold Pl.Mc.two'; rw [HOP.out]; rfl)
  have HVV : Hid (Pl.okv x.z (Pl.subV x.z 0 q v) = true) := hide (Pl.okv_subV HI.out.z)
  have HGF := hide (HG1.out.setF (v := Pl.subF x.z 0 q v) (Pl.subF_bd x.z 0 q v).1 (Pl.subF_bd x.z 0 q v).2).g
  go_enter Tryz.func86, Tryz.ntmps86
  go_wp2_with (first | (go_at_call 72; refine (HRD _ HM.out).mono ?_; rintro e9 W_1 ⟨rfl, g2_1, hm9, hb9⟩; have HX_1 := hide (hb9.blk HX.out HHB.out HGB.out); have HGB_1 := hide (hb9.ne HX.out.lt HGB.out); have HS_1 := hide (HS.out.trans hb9); clear hb9; have HM_1 := hide hm9; obtain ⟨gd_1, cd_1, ga_1, ca_1, g1_1, c1_1, c2_1, hB9, hO9⟩ := hm9; have HB_1 := hide hB9; have HO_1 := hide hO9; obtain ⟨t0_1, t1_1, t2_1, t3_1, t4_1, t5_1, t6_1, t7_1, t8_1, t9_1, t10_1, t11_1, t12_1, t13_1, t14_1, t15_1⟩ := hB9.cells; clear t8_1 t9_1 t10_1 t11_1 t12_1 t13_1 t14_1 t15_1; clear hB9 hO9; clear b0 b1 b2 b3 b4 b5 b6; obtain ⟨b0, b1, b2, b3, b4, b5, b6⟩ := insAt HX_1.out; rw [HOP.out] at b0) | (go_at_call 41; refine (mFine _ lo mid hi p g2_1 _ HM_1.out).mono ?_; rintro e9 w9 ⟨rfl, hw⟩; have hw2 := hw.symm; clear hw; subst hw2; rw [hf]))
  have HD := hide (HO_1.out.any (kept_drew (Kept.refl 0 0 W_1))).d
  have S1D := cellsS (HB_1.out.any (kept_drew (Kept.refl 0 0 W_1))) (HX_1.out.kept0 (kept_drew (Kept.refl 0 0 W_1)))
  go_region_held3 (fun w' => w'.cell? ⟨p, 0, none⟩ = some (.slice (some ⟨gd_1, 0, none⟩) 4 cd_1) ∧ w'.cell? ⟨p, 1, none⟩ = some (.slice (some ⟨ga_1, 0, none⟩) 4 ca_1) ∧ w'.cell? ⟨p, 2, none⟩ = some (.int .i64 d.r.o) ∧ w'.cell? ⟨p, 3, none⟩ = some (.int .i64 d.r.p) ∧ w'.cell? ⟨p, 4, none⟩ = some (.int .i64 d.r.f) ∧ w'.cell? ⟨p, 5, none⟩ = some (.int .i64 d.r.m) ∧ w'.cell? ⟨p, 6, none⟩ = some (.bool d.r.s) ∧ w'.cell? ⟨p, 7, none⟩ = some (.bool d.r.t) ∧ w'.cell? ⟨w.heap.size, 1, none⟩ = some (.int .i64 x.z) ∧ w'.cell? ⟨w.heap.size, 2, none⟩ = some (.int .i64 x.r)) (first | with_reducible exact S1D | with_reducible exact cellsS HB_2.out HX_2.out | go_keep) (first | (go_at_call 74; refine (mLow _ gd_1 cd_1 ga_1 ca_1 d.r x.z x.r HD.out HG1.out.g HI.out.z HI.out.r0 HI.out.r1).mono ?_; rw [HQ.out]; rintro e9 W_2 ⟨rfl, hk9⟩; have K2 := hide ((kept_drew (Kept.refl 0 0 W_1)).trans hk9); clear hk9; have HM_2 := hide (HM_1.out.any K2.out); have HB_2 := hide (HB_1.out.any K2.out); have HO_2 := hide (HO_1.out.any K2.out); have HX_2 := hide (HX_1.out.kept0 K2.out); have HS_2 := hide (HS_1.out.any K2.out); obtain ⟨t0_2, t1_2, t2_2, t3_2, t4_2, t5_2, t6_2, t7_2, t8_2, t9_2, t10_2, t11_2, t12_2, t13_2, t14_2, t15_2⟩ := HB_2.out.cells; clear t8_2 t9_2 t10_2 t11_2 t12_2 t13_2 t14_2 t15_2; have f0_2 := HB_2.out.frozen 0; have f1_2 := HB_2.out.frozen 1; have f2_2 := HB_2.out.frozen 2; have f3_2 := HB_2.out.frozen 3; have f4_2 := HB_2.out.frozen 4; have f5_2 := HB_2.out.frozen 5; have f6_2 := HB_2.out.frozen 6; have f7_2 := HB_2.out.frozen 7; clear b0 b1 b2 b3 b4 b5 b6; obtain ⟨b0, b1, b2, b3, b4, b5, b6⟩ := insAt HX_2.out; rw [HOP.out] at b0; clear t0_1 t1_1 t2_1 t3_1 t4_1 t5_1 t6_1 t7_1))
  go_wp2_with ((go_at_call 118; refine (l1SubOk _ _ _ _ _ (Pl.two_of HVQ.out HV.out)).mono ?_; rintro e9 w9 ⟨rfl, hw⟩; have hw2 := hw.symm; clear hw; subst hw2))
  have HBY := hide ((HB_2.out.cF (Pl.subF x.z 0 q v)).any (kept_drew (Kept.refl 0 0 (W_2.setCell ⟨p, 4, none⟩ (.int .i64 (Pl.subF x.z 0 q v))))))
  have HOY := hide ((HO_2.out.own (kept_one _ p 4 (.int .i64 (Pl.subF x.z 0 q v)))).any (kept_drew (Kept.refl 0 0 (W_2.setCell ⟨p, 4, none⟩ (.int .i64 (Pl.subF x.z 0 q v))))))
  have HSY := hide ((HS_2.out.set p 4 (.int .i64 (Pl.subF x.z 0 q v)) HPH.out).drew)
  have HXY := hide ((HX_2.out.other p 4 (.int .i64 (Pl.subF x.z 0 q v)) (by have := HPB.out; omega)).kept0 (kept_drew (Kept.refl 0 0 (W_2.setCell ⟨p, 4, none⟩ (.int .i64 (Pl.subF x.z 0 q v))))))
  have HRY := hide (MO.reg (r := (d.setF (Pl.subF x.z 0 q v)).r) HOY.out)
  have HMY : Hid (mid ≤ (W_2.setCell ⟨p, 4, none⟩ (.int .i64 (Pl.subF x.z 0 q v))).drew.heap.size) := hide (Nat.le_trans HMH.out HOY.out.hh)
  have HPM := HOY.out.p0
  have HNM : Hid (¬ (lo ≤ w.heap.size ∧ w.heap.size < mid)) := hide (by have := HHB.out; have := HMH.out; omega)
  have HNP : Hid (¬ (p ≤ w.heap.size ∧ w.heap.size < p + 1)) := hide (by have := HPB.out; omega)
  have SYD := cellsS HBY.out HXY.out
  go_region_held3 (fun w' => w'.cell? ⟨p, 0, none⟩ = some (.slice (some ⟨gd_1, 0, none⟩) 4 cd_1) ∧ w'.cell? ⟨p, 1, none⟩ = some (.slice (some ⟨ga_1, 0, none⟩) 4 ca_1) ∧ w'.cell? ⟨p, 2, none⟩ = some (.int .i64 (d.setF (Pl.subF x.z 0 q v)).r.o) ∧ w'.cell? ⟨p, 3, none⟩ = some (.int .i64 (d.setF (Pl.subF x.z 0 q v)).r.p) ∧ w'.cell? ⟨p, 4, none⟩ = some (.int .i64 (d.setF (Pl.subF x.z 0 q v)).r.f) ∧ w'.cell? ⟨p, 5, none⟩ = some (.int .i64 (d.setF (Pl.subF x.z 0 q v)).r.m) ∧ w'.cell? ⟨p, 6, none⟩ = some (.bool (d.setF (Pl.subF x.z 0 q v)).r.s) ∧ w'.cell? ⟨p, 7, none⟩ = some (.bool (d.setF (Pl.subF x.z 0 q v)).r.t) ∧ w'.cell? ⟨w.heap.size, 1, none⟩ = some (.int .i64 x.z) ∧ w'.cell? ⟨w.heap.size, 2, none⟩ = some (.int .i64 x.r)) (first | with_reducible exact SYD | with_reducible exact cellsS HB_9.out HX_9.out | exact cellsS (HB_9.out.laid (Pl.putR (d.setF (Pl.subF x.z 0 q v)).r x.z x.r (Pl.subV x.z 0 q v))) (Blk.kept HX_9.out (MB.kept8 _ _ _ _ _ _ _ _) HNP.out) | go_keep) (first | (go_at_call 79; refine (put4 _ lo mid gd_1 cd_1 ga_1 ca_1 (d.setF (Pl.subF x.z 0 q v)).r x.z x.r (Pl.subV x.z 0 q v) HRY.out HMY.out HGF.out HI.out.r0 HI.out.r1 HVV.out).mono ?_; unfold regV; rintro e9 W_9 ⟨rfl, hr9, hk9⟩; have HO_9 := hide (HOY.out.regs hr9 hk9); have HB_9 := hide (HBY.out.regs hk9 HPM); have HX_9 := hide (Blk.kept HXY.out hk9 HNM.out); have HS_9 := hide (HSY.out.keptS hk9 (Nat.le_refl _) HMH.out); clear hr9 hk9; obtain ⟨u0, u1, u2, u3, u4, u5, u6, u7, _⟩ := HB_9.out.cells; have f0 := HB_9.out.frozen 0; have f1 := HB_9.out.frozen 1; have f2 := HB_9.out.frozen 2; have f3 := HB_9.out.frozen 3; have f4 := HB_9.out.frozen 4; have f5 := HB_9.out.frozen 5; have f6 := HB_9.out.frozen 6; have f7 := HB_9.out.frozen 7))
  go_wp2_with fail
  first | go_end0 | refine bodyPost_ret (results_none rfl _ _ _) rfl ?_
  exact ⟨rfl, g2_1, by rw [E.out, E2.out]; exact MAt.laid HB_9.out HO_9.out, since8 HS_9.out HPH.out _ _ _ _ _ _ _ _⟩
end Go.Proofs.YtblddehlkaolbaaGreatDoor

namespace Go.Proofs.YtblddehlkaolbaaGreatDoor
open Go.RowKit
set_option linter.unusedVariables false
set_option maxHeartbeats 4000000 in
theorem mTwo_and (w : World) (lo mid hi p g2 : Nat) (c : Pl.Mc) (x : Pl.In) (h : MAt w lo mid hi p g2 c) (G : Pl.GM c) (B : Pl.InB x) (h1 : x.m = 1 → x.z = 2) (hf : (c.read x.z x.m x.k x.e).fine = true) (ho : x.op = 5) :
    Calls Tryz.prog 86 #[.pointer (some ⟨p, 0, none⟩), .agg #[.int .i64 x.op, .int .i64 x.z, .int .i64 x.r, .int .i64 x.m, .int .i64 x.k, .int .i64 x.e, .int .i64 x.s]] w fun e w' => e = .returned (.tuple #[]) ∧ ∃ g3, MAt w' lo mid hi p g3 (c.two x) ∧ Since w lo hi g2 w' g3 := by
  have HG := hide G
  have HI := hide B
  have HV := hide (Pl.readV_in G B.z B.k0 B.k1 B.e0 B.e1 h1 B.n7)
  have HG1 := hide (G.read (m := x.m) B.z B.k0 B.k1 B.e0 B.e1)
  have HOP := hide ho
  clear ho
  have hl := h.lo
  have KA := hide (kept_alloc w (.cells #[.int .i64 x.op, .int .i64 x.z, .int .i64 x.r, .int .i64 x.m, .int .i64 x.k, .int .i64 x.e, .int .i64 x.s] 79))
  have BA : Blk (w.alloc (.cells #[.int .i64 x.op, .int .i64 x.z, .int .i64 x.r, .int .i64 x.m, .int .i64 x.k, .int .i64 x.e, .int .i64 x.s] 79)) w.heap.size (insC x) 79 := Blk.new w #[.int .i64 x.op, .int .i64 x.z, .int .i64 x.r, .int .i64 x.m, .int .i64 x.k, .int .i64 x.e, .int .i64 x.s] 79
  obtain ⟨X, hX⟩ : ∃ X : World, w.alloc (.cells #[.int .i64 x.op, .int .i64 x.z, .int .i64 x.r, .int .i64 x.m, .int .i64 x.k, .int .i64 x.e, .int .i64 x.s] 79) = X := ⟨_, rfl⟩
  rw [hX] at KA BA
  have HX := hide BA
  have hbw := BA.lt
  obtain ⟨b0, b1, b2, b3, b4, b5, b6⟩ := insAt HX.out
  rw [HOP.out] at b0
  have HHB : Hid (hi ≤ w.heap.size) := hide hl.2.2.2.2.2.2
  have HGB : Hid (w.heap.size ≠ g2) := hide (by have := hl.2.2.2.2.2.1; omega)
  have HPH : Hid ((lo ≤ p ∧ p < hi) ∨ w.heap.size ≤ p) := hide (by omega)
  have HPB : Hid (p < w.heap.size) := hide hl.2.2.2.2.1
  have HMH : Hid (mid ≤ hi) := hide (by omega)
  have HS := hide ((Since.refl w lo hi g2).any KA.out)
  have h2 := h.any KA.out
  clear h BA
  have HM := hide h2
  obtain ⟨gd, cd, ga, ca, g1, c1, c2, hB9, hO9⟩ := h2
  have HB := hide hB9
  have HO := hide hO9
  obtain ⟨t0, t1, t2, t3, t4, t5, t6, t7, t8, t9, t10, t11, t12, t13, t14, t15⟩ := hB9.cells
  clear t0 t1 t2 t3 t4 t5 t6 t7 t8 t9 t10 t11 t12 t13 t14 t15
  clear hB9 hO9
  clear G B h1
  have HQ : Hid (el (c.read x.z x.m x.k x.e).r.xs x.r.toNat % Pl.top x.z = (c.read x.z x.m x.k x.e).low x.z x.r) := hide rfl
  have HQ0 := Pl.low_in HG1.out HI.out.z HI.out.r0 HI.out.r1
  obtain ⟨d, hd⟩ : ∃ d, c.read x.z x.m x.k x.e = d := ⟨_, rfl⟩
  obtain ⟨v, hv⟩ : ∃ v, c.readV x.z x.m x.k x.e = v := ⟨_, rfl⟩
  have E : Hid (c.two x = d.two' x (d.low x.z x.r) v) := hide (by unfold Pl.Mc.two; rw [hf, hd, hv]; rfl)
  have HRD := fun w9 h9 => mRead w9 lo mid hi p g2 c x.z x.m x.k x.e h9 HG.out HI.out.z HI.out.k0 HI.out.k1 HI.out.e0 HI.out.e1 HI.out.m0 HI.out.m1
  rw [hd] at hf HG1 HQ HQ0
  rw [hv] at HV
  simp only [hd, hv] at HRD
  clear hd hv
  obtain ⟨q, hq⟩ : ∃ q, d.low x.z x.r = q := ⟨_, rfl⟩
  rw [hq] at E HQ HQ0
  clear hq
  have HF := hide (Pl.flags_of HG1.out)
  have HVQ := hide HQ0
  have E2 : Hid (d.two' x q v = (d.setF (Pl.logF x.z d.r.f (bits .and .i64 q v))).put x.z x.r (bits .and .i64 q v)) := hide (by unfold Pl.Mc.two'; rw [HOP.out]; rfl)
  have HVV : Hid (Pl.okv x.z (bits .and .i64 q v) = true) := hide ((Pl.okv_bits HVQ.out HV.out).1)
  have HGF := hide (HG1.out.setF (v := Pl.logF x.z d.r.f (bits .and .i64 q v)) (Pl.logF_in x.z d.r.f (bits .and .i64 q v) HVV.out HF.out).1 (Pl.logF_in x.z d.r.f (bits .and .i64 q v) HVV.out HF.out).2).g
  go_enter Tryz.func86, Tryz.ntmps86
  go_wp2_with (first | (go_at_call 72; refine (HRD _ HM.out).mono ?_; rintro e9 W_1 ⟨rfl, g2_1, hm9, hb9⟩; have HX_1 := hide (hb9.blk HX.out HHB.out HGB.out); have HGB_1 := hide (hb9.ne HX.out.lt HGB.out); have HS_1 := hide (HS.out.trans hb9); clear hb9; have HM_1 := hide hm9; obtain ⟨gd_1, cd_1, ga_1, ca_1, g1_1, c1_1, c2_1, hB9, hO9⟩ := hm9; have HB_1 := hide hB9; have HO_1 := hide hO9; obtain ⟨t0_1, t1_1, t2_1, t3_1, t4_1, t5_1, t6_1, t7_1, t8_1, t9_1, t10_1, t11_1, t12_1, t13_1, t14_1, t15_1⟩ := hB9.cells; clear t8_1 t9_1 t10_1 t11_1 t12_1 t13_1 t14_1 t15_1; clear hB9 hO9; clear b0 b1 b2 b3 b4 b5 b6; obtain ⟨b0, b1, b2, b3, b4, b5, b6⟩ := insAt HX_1.out; rw [HOP.out] at b0) | (go_at_call 41; refine (mFine _ lo mid hi p g2_1 _ HM_1.out).mono ?_; rintro e9 w9 ⟨rfl, hw⟩; have hw2 := hw.symm; clear hw; subst hw2; rw [hf]))
  have HD := hide (HO_1.out.any (kept_drew (Kept.refl 0 0 W_1))).d
  have S1D := cellsS (HB_1.out.any (kept_drew (Kept.refl 0 0 W_1))) (HX_1.out.kept0 (kept_drew (Kept.refl 0 0 W_1)))
  go_region_held3 (fun w' => w'.cell? ⟨p, 0, none⟩ = some (.slice (some ⟨gd_1, 0, none⟩) 4 cd_1) ∧ w'.cell? ⟨p, 1, none⟩ = some (.slice (some ⟨ga_1, 0, none⟩) 4 ca_1) ∧ w'.cell? ⟨p, 2, none⟩ = some (.int .i64 d.r.o) ∧ w'.cell? ⟨p, 3, none⟩ = some (.int .i64 d.r.p) ∧ w'.cell? ⟨p, 4, none⟩ = some (.int .i64 d.r.f) ∧ w'.cell? ⟨p, 5, none⟩ = some (.int .i64 d.r.m) ∧ w'.cell? ⟨p, 6, none⟩ = some (.bool d.r.s) ∧ w'.cell? ⟨p, 7, none⟩ = some (.bool d.r.t) ∧ w'.cell? ⟨w.heap.size, 1, none⟩ = some (.int .i64 x.z) ∧ w'.cell? ⟨w.heap.size, 2, none⟩ = some (.int .i64 x.r)) (first | with_reducible exact S1D | with_reducible exact cellsS HB_2.out HX_2.out | go_keep) (first | (go_at_call 74; refine (mLow _ gd_1 cd_1 ga_1 ca_1 d.r x.z x.r HD.out HG1.out.g HI.out.z HI.out.r0 HI.out.r1).mono ?_; rw [HQ.out]; rintro e9 W_2 ⟨rfl, hk9⟩; have K2 := hide ((kept_drew (Kept.refl 0 0 W_1)).trans hk9); clear hk9; have HM_2 := hide (HM_1.out.any K2.out); have HB_2 := hide (HB_1.out.any K2.out); have HO_2 := hide (HO_1.out.any K2.out); have HX_2 := hide (HX_1.out.kept0 K2.out); have HS_2 := hide (HS_1.out.any K2.out); obtain ⟨t0_2, t1_2, t2_2, t3_2, t4_2, t5_2, t6_2, t7_2, t8_2, t9_2, t10_2, t11_2, t12_2, t13_2, t14_2, t15_2⟩ := HB_2.out.cells; clear t8_2 t9_2 t10_2 t11_2 t12_2 t13_2 t14_2 t15_2; have f0_2 := HB_2.out.frozen 0; have f1_2 := HB_2.out.frozen 1; have f2_2 := HB_2.out.frozen 2; have f3_2 := HB_2.out.frozen 3; have f4_2 := HB_2.out.frozen 4; have f5_2 := HB_2.out.frozen 5; have f6_2 := HB_2.out.frozen 6; have f7_2 := HB_2.out.frozen 7; clear b0 b1 b2 b3 b4 b5 b6; obtain ⟨b0, b1, b2, b3, b4, b5, b6⟩ := insAt HX_2.out; rw [HOP.out] at b0; clear t0_1 t1_1 t2_1 t3_1 t4_1 t5_1 t6_1 t7_1))
  go_wp2_with ((go_at_call 76; refine (l1LogicAt _ HVV.out HF.out).mono ?_; rintro e9 w9 ⟨rfl, hw⟩; have hw2 := hw.symm; clear hw; subst hw2))
  have HBY := hide ((HB_2.out.cF (Pl.logF x.z d.r.f (bits .and .i64 q v))).any (kept_drew (Kept.refl 0 0 (W_2.setCell ⟨p, 4, none⟩ (.int .i64 (Pl.logF x.z d.r.f (bits .and .i64 q v)))))))
  have HOY := hide ((HO_2.out.own (kept_one _ p 4 (.int .i64 (Pl.logF x.z d.r.f (bits .and .i64 q v))))).any (kept_drew (Kept.refl 0 0 (W_2.setCell ⟨p, 4, none⟩ (.int .i64 (Pl.logF x.z d.r.f (bits .and .i64 q v)))))))
  have HSY := hide ((HS_2.out.set p 4 (.int .i64 (Pl.logF x.z d.r.f (bits .and .i64 q v))) HPH.out).drew)
  have HXY := hide ((HX_2.out.other p 4 (.int .i64 (Pl.logF x.z d.r.f (bits .and .i64 q v))) (by have := HPB.out; omega)).kept0 (kept_drew (Kept.refl 0 0 (W_2.setCell ⟨p, 4, none⟩ (.int .i64 (Pl.logF x.z d.r.f (bits .and .i64 q v)))))))
  have HRY := hide (MO.reg (r := (d.setF (Pl.logF x.z d.r.f (bits .and .i64 q v))).r) HOY.out)
  have HMY : Hid (mid ≤ (W_2.setCell ⟨p, 4, none⟩ (.int .i64 (Pl.logF x.z d.r.f (bits .and .i64 q v)))).drew.heap.size) := hide (Nat.le_trans HMH.out HOY.out.hh)
  have HPM := HOY.out.p0
  have HNM : Hid (¬ (lo ≤ w.heap.size ∧ w.heap.size < mid)) := hide (by have := HHB.out; have := HMH.out; omega)
  have HNP : Hid (¬ (p ≤ w.heap.size ∧ w.heap.size < p + 1)) := hide (by have := HPB.out; omega)
  have SYD := cellsS HBY.out HXY.out
  go_region_held3 (fun w' => w'.cell? ⟨p, 0, none⟩ = some (.slice (some ⟨gd_1, 0, none⟩) 4 cd_1) ∧ w'.cell? ⟨p, 1, none⟩ = some (.slice (some ⟨ga_1, 0, none⟩) 4 ca_1) ∧ w'.cell? ⟨p, 2, none⟩ = some (.int .i64 (d.setF (Pl.logF x.z d.r.f (bits .and .i64 q v))).r.o) ∧ w'.cell? ⟨p, 3, none⟩ = some (.int .i64 (d.setF (Pl.logF x.z d.r.f (bits .and .i64 q v))).r.p) ∧ w'.cell? ⟨p, 4, none⟩ = some (.int .i64 (d.setF (Pl.logF x.z d.r.f (bits .and .i64 q v))).r.f) ∧ w'.cell? ⟨p, 5, none⟩ = some (.int .i64 (d.setF (Pl.logF x.z d.r.f (bits .and .i64 q v))).r.m) ∧ w'.cell? ⟨p, 6, none⟩ = some (.bool (d.setF (Pl.logF x.z d.r.f (bits .and .i64 q v))).r.s) ∧ w'.cell? ⟨p, 7, none⟩ = some (.bool (d.setF (Pl.logF x.z d.r.f (bits .and .i64 q v))).r.t) ∧ w'.cell? ⟨w.heap.size, 1, none⟩ = some (.int .i64 x.z) ∧ w'.cell? ⟨w.heap.size, 2, none⟩ = some (.int .i64 x.r)) (first | with_reducible exact SYD | with_reducible exact cellsS HB_9.out HX_9.out | exact cellsS (HB_9.out.laid (Pl.putR (d.setF (Pl.logF x.z d.r.f (bits .and .i64 q v))).r x.z x.r (bits .and .i64 q v))) (Blk.kept HX_9.out (MB.kept8 _ _ _ _ _ _ _ _) HNP.out) | go_keep) (first | (go_at_call 79; refine (put4 _ lo mid gd_1 cd_1 ga_1 ca_1 (d.setF (Pl.logF x.z d.r.f (bits .and .i64 q v))).r x.z x.r (bits .and .i64 q v) HRY.out HMY.out HGF.out HI.out.r0 HI.out.r1 HVV.out).mono ?_; unfold regV; rintro e9 W_9 ⟨rfl, hr9, hk9⟩; have HO_9 := hide (HOY.out.regs hr9 hk9); have HB_9 := hide (HBY.out.regs hk9 HPM); have HX_9 := hide (Blk.kept HXY.out hk9 HNM.out); have HS_9 := hide (HSY.out.keptS hk9 (Nat.le_refl _) HMH.out); clear hr9 hk9; obtain ⟨u0, u1, u2, u3, u4, u5, u6, u7, _⟩ := HB_9.out.cells; have f0 := HB_9.out.frozen 0; have f1 := HB_9.out.frozen 1; have f2 := HB_9.out.frozen 2; have f3 := HB_9.out.frozen 3; have f4 := HB_9.out.frozen 4; have f5 := HB_9.out.frozen 5; have f6 := HB_9.out.frozen 6; have f7 := HB_9.out.frozen 7))
  go_wp2_with fail
  first | go_end0 | refine bodyPost_ret (results_none rfl _ _ _) rfl ?_
  exact ⟨rfl, g2_1, by rw [E.out, E2.out]; exact MAt.laid HB_9.out HO_9.out, since8 HS_9.out HPH.out _ _ _ _ _ _ _ _⟩
set_option maxHeartbeats 4000000 in
theorem mTwo_or (w : World) (lo mid hi p g2 : Nat) (c : Pl.Mc) (x : Pl.In) (h : MAt w lo mid hi p g2 c) (G : Pl.GM c) (B : Pl.InB x) (h1 : x.m = 1 → x.z = 2) (hf : (c.read x.z x.m x.k x.e).fine = true) (ho : x.op = 6) :
    Calls Tryz.prog 86 #[.pointer (some ⟨p, 0, none⟩), .agg #[.int .i64 x.op, .int .i64 x.z, .int .i64 x.r, .int .i64 x.m, .int .i64 x.k, .int .i64 x.e, .int .i64 x.s]] w fun e w' => e = .returned (.tuple #[]) ∧ ∃ g3, MAt w' lo mid hi p g3 (c.two x) ∧ Since w lo hi g2 w' g3 := by
  have HG := hide G
  have HI := hide B
  have HV := hide (Pl.readV_in G B.z B.k0 B.k1 B.e0 B.e1 h1 B.n7)
  have HG1 := hide (G.read (m := x.m) B.z B.k0 B.k1 B.e0 B.e1)
  have HOP := hide ho
  clear ho
  have hl := h.lo
  have KA := hide (kept_alloc w (.cells #[.int .i64 x.op, .int .i64 x.z, .int .i64 x.r, .int .i64 x.m, .int .i64 x.k, .int .i64 x.e, .int .i64 x.s] 79))
  have BA : Blk (w.alloc (.cells #[.int .i64 x.op, .int .i64 x.z, .int .i64 x.r, .int .i64 x.m, .int .i64 x.k, .int .i64 x.e, .int .i64 x.s] 79)) w.heap.size (insC x) 79 := Blk.new w #[.int .i64 x.op, .int .i64 x.z, .int .i64 x.r, .int .i64 x.m, .int .i64 x.k, .int .i64 x.e, .int .i64 x.s] 79
  obtain ⟨X, hX⟩ : ∃ X : World, w.alloc (.cells #[.int .i64 x.op, .int .i64 x.z, .int .i64 x.r, .int .i64 x.m, .int .i64 x.k, .int .i64 x.e, .int .i64 x.s] 79) = X := ⟨_, rfl⟩
  rw [hX] at KA BA
  have HX := hide BA
  have hbw := BA.lt
  obtain ⟨b0, b1, b2, b3, b4, b5, b6⟩ := insAt HX.out
  rw [HOP.out] at b0
  have HHB : Hid (hi ≤ w.heap.size) := hide hl.2.2.2.2.2.2
  have HGB : Hid (w.heap.size ≠ g2) := hide (by have := hl.2.2.2.2.2.1; omega)
  have HPH : Hid ((lo ≤ p ∧ p < hi) ∨ w.heap.size ≤ p) := hide (by omega)
  have HPB : Hid (p < w.heap.size) := hide hl.2.2.2.2.1
  have HMH : Hid (mid ≤ hi) := hide (by omega)
  have HS := hide ((Since.refl w lo hi g2).any KA.out)
  have h2 := h.any KA.out
  clear h BA
  have HM := hide h2
  obtain ⟨gd, cd, ga, ca, g1, c1, c2, hB9, hO9⟩ := h2
  have HB := hide hB9
  have HO := hide hO9
  obtain ⟨t0, t1, t2, t3, t4, t5, t6, t7, t8, t9, t10, t11, t12, t13, t14, t15⟩ := hB9.cells
  clear t0 t1 t2 t3 t4 t5 t6 t7 t8 t9 t10 t11 t12 t13 t14 t15
  clear hB9 hO9
  clear G B h1
  have HQ : Hid (el (c.read x.z x.m x.k x.e).r.xs x.r.toNat % Pl.top x.z = (c.read x.z x.m x.k x.e).low x.z x.r) := hide rfl
  have HQ0 := Pl.low_in HG1.out HI.out.z HI.out.r0 HI.out.r1
  obtain ⟨d, hd⟩ : ∃ d, c.read x.z x.m x.k x.e = d := ⟨_, rfl⟩
  obtain ⟨v, hv⟩ : ∃ v, c.readV x.z x.m x.k x.e = v := ⟨_, rfl⟩
  have E : Hid (c.two x = d.two' x (d.low x.z x.r) v) := hide (by unfold Pl.Mc.two; rw [hf, hd, hv]; rfl)
  have HRD := fun w9 h9 => mRead w9 lo mid hi p g2 c x.z x.m x.k x.e h9 HG.out HI.out.z HI.out.k0 HI.out.k1 HI.out.e0 HI.out.e1 HI.out.m0 HI.out.m1
  rw [hd] at hf HG1 HQ HQ0
  rw [hv] at HV
  simp only [hd, hv] at HRD
  clear hd hv
  obtain ⟨q, hq⟩ : ∃ q, d.low x.z x.r = q := ⟨_, rfl⟩
  rw [hq] at E HQ HQ0
  clear hq
  have HF := hide (Pl.flags_of HG1.out)
  have HVQ := hide HQ0
  have E2 : Hid (d.two' x q v = (d.setF (Pl.logF x.z d.r.f (bits .or .i64 q v))).put x.z x.r (bits .or .i64 q v)) := hide (by unfold Pl.Mc.two'; rw [HOP.out]; rfl)
  have HVV : Hid (Pl.okv x.z (bits .or .i64 q v) = true) := hide ((Pl.okv_bits HVQ.out HV.out).2.1)
  have HGF := hide (HG1.out.setF (v := Pl.logF x.z d.r.f (bits .or .i64 q v)) (Pl.logF_in x.z d.r.f (bits .or .i64 q v) HVV.out HF.out).1 (Pl.logF_in x.z d.r.f (bits .or .i64 q v) HVV.out HF.out).2).g
  go_enter Tryz.func86, Tryz.ntmps86
  go_wp2_with (first | (go_at_call 72; refine (HRD _ HM.out).mono ?_; rintro e9 W_1 ⟨rfl, g2_1, hm9, hb9⟩; have HX_1 := hide (hb9.blk HX.out HHB.out HGB.out); have HGB_1 := hide (hb9.ne HX.out.lt HGB.out); have HS_1 := hide (HS.out.trans hb9); clear hb9; have HM_1 := hide hm9; obtain ⟨gd_1, cd_1, ga_1, ca_1, g1_1, c1_1, c2_1, hB9, hO9⟩ := hm9; have HB_1 := hide hB9; have HO_1 := hide hO9; obtain ⟨t0_1, t1_1, t2_1, t3_1, t4_1, t5_1, t6_1, t7_1, t8_1, t9_1, t10_1, t11_1, t12_1, t13_1, t14_1, t15_1⟩ := hB9.cells; clear t8_1 t9_1 t10_1 t11_1 t12_1 t13_1 t14_1 t15_1; clear hB9 hO9; clear b0 b1 b2 b3 b4 b5 b6; obtain ⟨b0, b1, b2, b3, b4, b5, b6⟩ := insAt HX_1.out; rw [HOP.out] at b0) | (go_at_call 41; refine (mFine _ lo mid hi p g2_1 _ HM_1.out).mono ?_; rintro e9 w9 ⟨rfl, hw⟩; have hw2 := hw.symm; clear hw; subst hw2; rw [hf]))
  have HD := hide (HO_1.out.any (kept_drew (Kept.refl 0 0 W_1))).d
  have S1D := cellsS (HB_1.out.any (kept_drew (Kept.refl 0 0 W_1))) (HX_1.out.kept0 (kept_drew (Kept.refl 0 0 W_1)))
  go_region_held3 (fun w' => w'.cell? ⟨p, 0, none⟩ = some (.slice (some ⟨gd_1, 0, none⟩) 4 cd_1) ∧ w'.cell? ⟨p, 1, none⟩ = some (.slice (some ⟨ga_1, 0, none⟩) 4 ca_1) ∧ w'.cell? ⟨p, 2, none⟩ = some (.int .i64 d.r.o) ∧ w'.cell? ⟨p, 3, none⟩ = some (.int .i64 d.r.p) ∧ w'.cell? ⟨p, 4, none⟩ = some (.int .i64 d.r.f) ∧ w'.cell? ⟨p, 5, none⟩ = some (.int .i64 d.r.m) ∧ w'.cell? ⟨p, 6, none⟩ = some (.bool d.r.s) ∧ w'.cell? ⟨p, 7, none⟩ = some (.bool d.r.t) ∧ w'.cell? ⟨w.heap.size, 1, none⟩ = some (.int .i64 x.z) ∧ w'.cell? ⟨w.heap.size, 2, none⟩ = some (.int .i64 x.r)) (first | with_reducible exact S1D | with_reducible exact cellsS HB_2.out HX_2.out | go_keep) (first | (go_at_call 74; refine (mLow _ gd_1 cd_1 ga_1 ca_1 d.r x.z x.r HD.out HG1.out.g HI.out.z HI.out.r0 HI.out.r1).mono ?_; rw [HQ.out]; rintro e9 W_2 ⟨rfl, hk9⟩; have K2 := hide ((kept_drew (Kept.refl 0 0 W_1)).trans hk9); clear hk9; have HM_2 := hide (HM_1.out.any K2.out); have HB_2 := hide (HB_1.out.any K2.out); have HO_2 := hide (HO_1.out.any K2.out); have HX_2 := hide (HX_1.out.kept0 K2.out); have HS_2 := hide (HS_1.out.any K2.out); obtain ⟨t0_2, t1_2, t2_2, t3_2, t4_2, t5_2, t6_2, t7_2, t8_2, t9_2, t10_2, t11_2, t12_2, t13_2, t14_2, t15_2⟩ := HB_2.out.cells; clear t8_2 t9_2 t10_2 t11_2 t12_2 t13_2 t14_2 t15_2; have f0_2 := HB_2.out.frozen 0; have f1_2 := HB_2.out.frozen 1; have f2_2 := HB_2.out.frozen 2; have f3_2 := HB_2.out.frozen 3; have f4_2 := HB_2.out.frozen 4; have f5_2 := HB_2.out.frozen 5; have f6_2 := HB_2.out.frozen 6; have f7_2 := HB_2.out.frozen 7; clear b0 b1 b2 b3 b4 b5 b6; obtain ⟨b0, b1, b2, b3, b4, b5, b6⟩ := insAt HX_2.out; rw [HOP.out] at b0; clear t0_1 t1_1 t2_1 t3_1 t4_1 t5_1 t6_1 t7_1))
  go_wp2_with ((go_at_call 76; refine (l1LogicAt _ HVV.out HF.out).mono ?_; rintro e9 w9 ⟨rfl, hw⟩; have hw2 := hw.symm; clear hw; subst hw2))
  have HBY := hide ((HB_2.out.cF (Pl.logF x.z d.r.f (bits .or .i64 q v))).any (kept_drew (Kept.refl 0 0 (W_2.setCell ⟨p, 4, none⟩ (.int .i64 (Pl.logF x.z d.r.f (bits .or .i64 q v)))))))
  have HOY := hide ((HO_2.out.own (kept_one _ p 4 (.int .i64 (Pl.logF x.z d.r.f (bits .or .i64 q v))))).any (kept_drew (Kept.refl 0 0 (W_2.setCell ⟨p, 4, none⟩ (.int .i64 (Pl.logF x.z d.r.f (bits .or .i64 q v)))))))
  have HSY := hide ((HS_2.out.set p 4 (.int .i64 (Pl.logF x.z d.r.f (bits .or .i64 q v))) HPH.out).drew)
  have HXY := hide ((HX_2.out.other p 4 (.int .i64 (Pl.logF x.z d.r.f (bits .or .i64 q v))) (by have := HPB.out; omega)).kept0 (kept_drew (Kept.refl 0 0 (W_2.setCell ⟨p, 4, none⟩ (.int .i64 (Pl.logF x.z d.r.f (bits .or .i64 q v)))))))
  have HRY := hide (MO.reg (r := (d.setF (Pl.logF x.z d.r.f (bits .or .i64 q v))).r) HOY.out)
  have HMY : Hid (mid ≤ (W_2.setCell ⟨p, 4, none⟩ (.int .i64 (Pl.logF x.z d.r.f (bits .or .i64 q v)))).drew.heap.size) := hide (Nat.le_trans HMH.out HOY.out.hh)
  have HPM := HOY.out.p0
  have HNM : Hid (¬ (lo ≤ w.heap.size ∧ w.heap.size < mid)) := hide (by have := HHB.out; have := HMH.out; omega)
  have HNP : Hid (¬ (p ≤ w.heap.size ∧ w.heap.size < p + 1)) := hide (by have := HPB.out; omega)
  have SYD := cellsS HBY.out HXY.out
  go_region_held3 (fun w' => w'.cell? ⟨p, 0, none⟩ = some (.slice (some ⟨gd_1, 0, none⟩) 4 cd_1) ∧ w'.cell? ⟨p, 1, none⟩ = some (.slice (some ⟨ga_1, 0, none⟩) 4 ca_1) ∧ w'.cell? ⟨p, 2, none⟩ = some (.int .i64 (d.setF (Pl.logF x.z d.r.f (bits .or .i64 q v))).r.o) ∧ w'.cell? ⟨p, 3, none⟩ = some (.int .i64 (d.setF (Pl.logF x.z d.r.f (bits .or .i64 q v))).r.p) ∧ w'.cell? ⟨p, 4, none⟩ = some (.int .i64 (d.setF (Pl.logF x.z d.r.f (bits .or .i64 q v))).r.f) ∧ w'.cell? ⟨p, 5, none⟩ = some (.int .i64 (d.setF (Pl.logF x.z d.r.f (bits .or .i64 q v))).r.m) ∧ w'.cell? ⟨p, 6, none⟩ = some (.bool (d.setF (Pl.logF x.z d.r.f (bits .or .i64 q v))).r.s) ∧ w'.cell? ⟨p, 7, none⟩ = some (.bool (d.setF (Pl.logF x.z d.r.f (bits .or .i64 q v))).r.t) ∧ w'.cell? ⟨w.heap.size, 1, none⟩ = some (.int .i64 x.z) ∧ w'.cell? ⟨w.heap.size, 2, none⟩ = some (.int .i64 x.r)) (first | with_reducible exact SYD | with_reducible exact cellsS HB_9.out HX_9.out | exact cellsS (HB_9.out.laid (Pl.putR (d.setF (Pl.logF x.z d.r.f (bits .or .i64 q v))).r x.z x.r (bits .or .i64 q v))) (Blk.kept HX_9.out (MB.kept8 _ _ _ _ _ _ _ _) HNP.out) | go_keep) (first | (go_at_call 79; refine (put4 _ lo mid gd_1 cd_1 ga_1 ca_1 (d.setF (Pl.logF x.z d.r.f (bits .or .i64 q v))).r x.z x.r (bits .or .i64 q v) HRY.out HMY.out HGF.out HI.out.r0 HI.out.r1 HVV.out).mono ?_; unfold regV; rintro e9 W_9 ⟨rfl, hr9, hk9⟩; have HO_9 := hide (HOY.out.regs hr9 hk9); have HB_9 := hide (HBY.out.regs hk9 HPM); have HX_9 := hide (Blk.kept HXY.out hk9 HNM.out); have HS_9 := hide (HSY.out.keptS hk9 (Nat.le_refl _) HMH.out); clear hr9 hk9; obtain ⟨u0, u1, u2, u3, u4, u5, u6, u7, _⟩ := HB_9.out.cells; have f0 := HB_9.out.frozen 0; have f1 := HB_9.out.frozen 1; have f2 := HB_9.out.frozen 2; have f3 := HB_9.out.frozen 3; have f4 := HB_9.out.frozen 4; have f5 := HB_9.out.frozen 5; have f6 := HB_9.out.frozen 6; have f7 := HB_9.out.frozen 7))
  go_wp2_with fail
  first | go_end0 | refine bodyPost_ret (results_none rfl _ _ _) rfl ?_
  exact ⟨rfl, g2_1, by rw [E.out, E2.out]; exact MAt.laid HB_9.out HO_9.out, since8 HS_9.out HPH.out _ _ _ _ _ _ _ _⟩
set_option maxHeartbeats 4000000 in
theorem mTwo_xor (w : World) (lo mid hi p g2 : Nat) (c : Pl.Mc) (x : Pl.In) (h : MAt w lo mid hi p g2 c) (G : Pl.GM c) (B : Pl.InB x) (h1 : x.m = 1 → x.z = 2) (hf : (c.read x.z x.m x.k x.e).fine = true) (ho : x.op = 7) :
    Calls Tryz.prog 86 #[.pointer (some ⟨p, 0, none⟩), .agg #[.int .i64 x.op, .int .i64 x.z, .int .i64 x.r, .int .i64 x.m, .int .i64 x.k, .int .i64 x.e, .int .i64 x.s]] w fun e w' => e = .returned (.tuple #[]) ∧ ∃ g3, MAt w' lo mid hi p g3 (c.two x) ∧ Since w lo hi g2 w' g3 := by
  have HG := hide G
  have HI := hide B
  have HV := hide (Pl.readV_in G B.z B.k0 B.k1 B.e0 B.e1 h1 B.n7)
  have HG1 := hide (G.read (m := x.m) B.z B.k0 B.k1 B.e0 B.e1)
  have HOP := hide ho
  clear ho
  have hl := h.lo
  have KA := hide (kept_alloc w (.cells #[.int .i64 x.op, .int .i64 x.z, .int .i64 x.r, .int .i64 x.m, .int .i64 x.k, .int .i64 x.e, .int .i64 x.s] 79))
  have BA : Blk (w.alloc (.cells #[.int .i64 x.op, .int .i64 x.z, .int .i64 x.r, .int .i64 x.m, .int .i64 x.k, .int .i64 x.e, .int .i64 x.s] 79)) w.heap.size (insC x) 79 := Blk.new w #[.int .i64 x.op, .int .i64 x.z, .int .i64 x.r, .int .i64 x.m, .int .i64 x.k, .int .i64 x.e, .int .i64 x.s] 79
  obtain ⟨X, hX⟩ : ∃ X : World, w.alloc (.cells #[.int .i64 x.op, .int .i64 x.z, .int .i64 x.r, .int .i64 x.m, .int .i64 x.k, .int .i64 x.e, .int .i64 x.s] 79) = X := ⟨_, rfl⟩
  rw [hX] at KA BA
  have HX := hide BA
  have hbw := BA.lt
  obtain ⟨b0, b1, b2, b3, b4, b5, b6⟩ := insAt HX.out
  rw [HOP.out] at b0
  have HHB : Hid (hi ≤ w.heap.size) := hide hl.2.2.2.2.2.2
  have HGB : Hid (w.heap.size ≠ g2) := hide (by have := hl.2.2.2.2.2.1; omega)
  have HPH : Hid ((lo ≤ p ∧ p < hi) ∨ w.heap.size ≤ p) := hide (by omega)
  have HPB : Hid (p < w.heap.size) := hide hl.2.2.2.2.1
  have HMH : Hid (mid ≤ hi) := hide (by omega)
  have HS := hide ((Since.refl w lo hi g2).any KA.out)
  have h2 := h.any KA.out
  clear h BA
  have HM := hide h2
  obtain ⟨gd, cd, ga, ca, g1, c1, c2, hB9, hO9⟩ := h2
  have HB := hide hB9
  have HO := hide hO9
  obtain ⟨t0, t1, t2, t3, t4, t5, t6, t7, t8, t9, t10, t11, t12, t13, t14, t15⟩ := hB9.cells
  clear t0 t1 t2 t3 t4 t5 t6 t7 t8 t9 t10 t11 t12 t13 t14 t15
  clear hB9 hO9
  clear G B h1
  have HQ : Hid (el (c.read x.z x.m x.k x.e).r.xs x.r.toNat % Pl.top x.z = (c.read x.z x.m x.k x.e).low x.z x.r) := hide rfl
  have HQ0 := Pl.low_in HG1.out HI.out.z HI.out.r0 HI.out.r1
  obtain ⟨d, hd⟩ : ∃ d, c.read x.z x.m x.k x.e = d := ⟨_, rfl⟩
  obtain ⟨v, hv⟩ : ∃ v, c.readV x.z x.m x.k x.e = v := ⟨_, rfl⟩
  have E : Hid (c.two x = d.two' x (d.low x.z x.r) v) := hide (by unfold Pl.Mc.two; rw [hf, hd, hv]; rfl)
  have HRD := fun w9 h9 => mRead w9 lo mid hi p g2 c x.z x.m x.k x.e h9 HG.out HI.out.z HI.out.k0 HI.out.k1 HI.out.e0 HI.out.e1 HI.out.m0 HI.out.m1
  rw [hd] at hf HG1 HQ HQ0
  rw [hv] at HV
  simp only [hd, hv] at HRD
  clear hd hv
  obtain ⟨q, hq⟩ : ∃ q, d.low x.z x.r = q := ⟨_, rfl⟩
  rw [hq] at E HQ HQ0
  clear hq
  have HF := hide (Pl.flags_of HG1.out)
  have HVQ := hide HQ0
  have E2 : Hid (d.two' x q v = (d.setF (Pl.logF x.z d.r.f (bits .xor .i64 q v))).put x.z x.r (bits .xor .i64 q v)) := hide (by unfold Pl.Mc.two'; rw [HOP.out]; rfl)
  have HVV : Hid (Pl.okv x.z (bits .xor .i64 q v) = true) := hide ((Pl.okv_bits HVQ.out HV.out).2.2)
  have HGF := hide (HG1.out.setF (v := Pl.logF x.z d.r.f (bits .xor .i64 q v)) (Pl.logF_in x.z d.r.f (bits .xor .i64 q v) HVV.out HF.out).1 (Pl.logF_in x.z d.r.f (bits .xor .i64 q v) HVV.out HF.out).2).g
  go_enter Tryz.func86, Tryz.ntmps86
  go_wp2_with (first | (go_at_call 72; refine (HRD _ HM.out).mono ?_; rintro e9 W_1 ⟨rfl, g2_1, hm9, hb9⟩; have HX_1 := hide (hb9.blk HX.out HHB.out HGB.out); have HGB_1 := hide (hb9.ne HX.out.lt HGB.out); have HS_1 := hide (HS.out.trans hb9); clear hb9; have HM_1 := hide hm9; obtain ⟨gd_1, cd_1, ga_1, ca_1, g1_1, c1_1, c2_1, hB9, hO9⟩ := hm9; have HB_1 := hide hB9; have HO_1 := hide hO9; obtain ⟨t0_1, t1_1, t2_1, t3_1, t4_1, t5_1, t6_1, t7_1, t8_1, t9_1, t10_1, t11_1, t12_1, t13_1, t14_1, t15_1⟩ := hB9.cells; clear t8_1 t9_1 t10_1 t11_1 t12_1 t13_1 t14_1 t15_1; clear hB9 hO9; clear b0 b1 b2 b3 b4 b5 b6; obtain ⟨b0, b1, b2, b3, b4, b5, b6⟩ := insAt HX_1.out; rw [HOP.out] at b0) | (go_at_call 41; refine (mFine _ lo mid hi p g2_1 _ HM_1.out).mono ?_; rintro e9 w9 ⟨rfl, hw⟩; have hw2 := hw.symm; clear hw; subst hw2; rw [hf]))
  have HD := hide (HO_1.out.any (kept_drew (Kept.refl 0 0 W_1))).d
  have S1D := cellsS (HB_1.out.any (kept_drew (Kept.refl 0 0 W_1))) (HX_1.out.kept0 (kept_drew (Kept.refl 0 0 W_1)))
  go_region_held3 (fun w' => w'.cell? ⟨p, 0, none⟩ = some (.slice (some ⟨gd_1, 0, none⟩) 4 cd_1) ∧ w'.cell? ⟨p, 1, none⟩ = some (.slice (some ⟨ga_1, 0, none⟩) 4 ca_1) ∧ w'.cell? ⟨p, 2, none⟩ = some (.int .i64 d.r.o) ∧ w'.cell? ⟨p, 3, none⟩ = some (.int .i64 d.r.p) ∧ w'.cell? ⟨p, 4, none⟩ = some (.int .i64 d.r.f) ∧ w'.cell? ⟨p, 5, none⟩ = some (.int .i64 d.r.m) ∧ w'.cell? ⟨p, 6, none⟩ = some (.bool d.r.s) ∧ w'.cell? ⟨p, 7, none⟩ = some (.bool d.r.t) ∧ w'.cell? ⟨w.heap.size, 1, none⟩ = some (.int .i64 x.z) ∧ w'.cell? ⟨w.heap.size, 2, none⟩ = some (.int .i64 x.r)) (first | with_reducible exact S1D | with_reducible exact cellsS HB_2.out HX_2.out | go_keep) (first | (go_at_call 74; refine (mLow _ gd_1 cd_1 ga_1 ca_1 d.r x.z x.r HD.out HG1.out.g HI.out.z HI.out.r0 HI.out.r1).mono ?_; rw [HQ.out]; rintro e9 W_2 ⟨rfl, hk9⟩; have K2 := hide ((kept_drew (Kept.refl 0 0 W_1)).trans hk9); clear hk9; have HM_2 := hide (HM_1.out.any K2.out); have HB_2 := hide (HB_1.out.any K2.out); have HO_2 := hide (HO_1.out.any K2.out); have HX_2 := hide (HX_1.out.kept0 K2.out); have HS_2 := hide (HS_1.out.any K2.out); obtain ⟨t0_2, t1_2, t2_2, t3_2, t4_2, t5_2, t6_2, t7_2, t8_2, t9_2, t10_2, t11_2, t12_2, t13_2, t14_2, t15_2⟩ := HB_2.out.cells; clear t8_2 t9_2 t10_2 t11_2 t12_2 t13_2 t14_2 t15_2; have f0_2 := HB_2.out.frozen 0; have f1_2 := HB_2.out.frozen 1; have f2_2 := HB_2.out.frozen 2; have f3_2 := HB_2.out.frozen 3; have f4_2 := HB_2.out.frozen 4; have f5_2 := HB_2.out.frozen 5; have f6_2 := HB_2.out.frozen 6; have f7_2 := HB_2.out.frozen 7; clear b0 b1 b2 b3 b4 b5 b6; obtain ⟨b0, b1, b2, b3, b4, b5, b6⟩ := insAt HX_2.out; rw [HOP.out] at b0; clear t0_1 t1_1 t2_1 t3_1 t4_1 t5_1 t6_1 t7_1))
  go_wp2_with ((go_at_call 76; refine (l1LogicAt _ HVV.out HF.out).mono ?_; rintro e9 w9 ⟨rfl, hw⟩; have hw2 := hw.symm; clear hw; subst hw2))
  have HBY := hide ((HB_2.out.cF (Pl.logF x.z d.r.f (bits .xor .i64 q v))).any (kept_drew (Kept.refl 0 0 (W_2.setCell ⟨p, 4, none⟩ (.int .i64 (Pl.logF x.z d.r.f (bits .xor .i64 q v)))))))
  have HOY := hide ((HO_2.out.own (kept_one _ p 4 (.int .i64 (Pl.logF x.z d.r.f (bits .xor .i64 q v))))).any (kept_drew (Kept.refl 0 0 (W_2.setCell ⟨p, 4, none⟩ (.int .i64 (Pl.logF x.z d.r.f (bits .xor .i64 q v)))))))
  have HSY := hide ((HS_2.out.set p 4 (.int .i64 (Pl.logF x.z d.r.f (bits .xor .i64 q v))) HPH.out).drew)
  have HXY := hide ((HX_2.out.other p 4 (.int .i64 (Pl.logF x.z d.r.f (bits .xor .i64 q v))) (by have := HPB.out; omega)).kept0 (kept_drew (Kept.refl 0 0 (W_2.setCell ⟨p, 4, none⟩ (.int .i64 (Pl.logF x.z d.r.f (bits .xor .i64 q v)))))))
  have HRY := hide (MO.reg (r := (d.setF (Pl.logF x.z d.r.f (bits .xor .i64 q v))).r) HOY.out)
  have HMY : Hid (mid ≤ (W_2.setCell ⟨p, 4, none⟩ (.int .i64 (Pl.logF x.z d.r.f (bits .xor .i64 q v)))).drew.heap.size) := hide (Nat.le_trans HMH.out HOY.out.hh)
  have HPM := HOY.out.p0
  have HNM : Hid (¬ (lo ≤ w.heap.size ∧ w.heap.size < mid)) := hide (by have := HHB.out; have := HMH.out; omega)
  have HNP : Hid (¬ (p ≤ w.heap.size ∧ w.heap.size < p + 1)) := hide (by have := HPB.out; omega)
  have SYD := cellsS HBY.out HXY.out
  go_region_held3 (fun w' => w'.cell? ⟨p, 0, none⟩ = some (.slice (some ⟨gd_1, 0, none⟩) 4 cd_1) ∧ w'.cell? ⟨p, 1, none⟩ = some (.slice (some ⟨ga_1, 0, none⟩) 4 ca_1) ∧ w'.cell? ⟨p, 2, none⟩ = some (.int .i64 (d.setF (Pl.logF x.z d.r.f (bits .xor .i64 q v))).r.o) ∧ w'.cell? ⟨p, 3, none⟩ = some (.int .i64 (d.setF (Pl.logF x.z d.r.f (bits .xor .i64 q v))).r.p) ∧ w'.cell? ⟨p, 4, none⟩ = some (.int .i64 (d.setF (Pl.logF x.z d.r.f (bits .xor .i64 q v))).r.f) ∧ w'.cell? ⟨p, 5, none⟩ = some (.int .i64 (d.setF (Pl.logF x.z d.r.f (bits .xor .i64 q v))).r.m) ∧ w'.cell? ⟨p, 6, none⟩ = some (.bool (d.setF (Pl.logF x.z d.r.f (bits .xor .i64 q v))).r.s) ∧ w'.cell? ⟨p, 7, none⟩ = some (.bool (d.setF (Pl.logF x.z d.r.f (bits .xor .i64 q v))).r.t) ∧ w'.cell? ⟨w.heap.size, 1, none⟩ = some (.int .i64 x.z) ∧ w'.cell? ⟨w.heap.size, 2, none⟩ = some (.int .i64 x.r)) (first | with_reducible exact SYD | with_reducible exact cellsS HB_9.out HX_9.out | exact cellsS (HB_9.out.laid (Pl.putR (d.setF (Pl.logF x.z d.r.f (bits .xor .i64 q v))).r x.z x.r (bits .xor .i64 q v))) (Blk.kept HX_9.out (MB.kept8 _ _ _ _ _ _ _ _) HNP.out) | go_keep) (first | (go_at_call 79; refine (put4 _ lo mid gd_1 cd_1 ga_1 ca_1 (d.setF (Pl.logF x.z d.r.f (bits .xor .i64 q v))).r x.z x.r (bits .xor .i64 q v) HRY.out HMY.out HGF.out HI.out.r0 HI.out.r1 HVV.out).mono ?_; unfold regV; rintro e9 W_9 ⟨rfl, hr9, hk9⟩; have HO_9 := hide (HOY.out.regs hr9 hk9); have HB_9 := hide (HBY.out.regs hk9 HPM); have HX_9 := hide (Blk.kept HXY.out hk9 HNM.out); have HS_9 := hide (HSY.out.keptS hk9 (Nat.le_refl _) HMH.out); clear hr9 hk9; obtain ⟨u0, u1, u2, u3, u4, u5, u6, u7, _⟩ := HB_9.out.cells; have f0 := HB_9.out.frozen 0; have f1 := HB_9.out.frozen 1; have f2 := HB_9.out.frozen 2; have f3 := HB_9.out.frozen 3; have f4 := HB_9.out.frozen 4; have f5 := HB_9.out.frozen 5; have f6 := HB_9.out.frozen 6; have f7 := HB_9.out.frozen 7))
  go_wp2_with fail
  first | go_end0 | refine bodyPost_ret (results_none rfl _ _ _) rfl ?_
  exact ⟨rfl, g2_1, by rw [E.out, E2.out]; exact MAt.laid HB_9.out HO_9.out, since8 HS_9.out HPH.out _ _ _ _ _ _ _ _⟩
set_option maxHeartbeats 4000000 in
theorem mTwo_to (w : World) (lo mid hi p g2 : Nat) (c : Pl.Mc) (x : Pl.In) (h : MAt w lo mid hi p g2 c) (G : Pl.GM c) (B : Pl.InB x) (h1 : x.m = 1 → x.z = 2) (hf : (c.read x.z x.m x.k x.e).fine = true) (ho : x.op = 1) :
    Calls Tryz.prog 86 #[.pointer (some ⟨p, 0, none⟩), .agg #[.int .i64 x.op, .int .i64 x.z, .int .i64 x.r, .int .i64 x.m, .int .i64 x.k, .int .i64 x.e, .int .i64 x.s]] w fun e w' => e = .returned (.tuple #[]) ∧ ∃ g3, MAt w' lo mid hi p g3 (c.two x) ∧ Since w lo hi g2 w' g3 := by
  have HG := hide G
  have HI := hide B
  have HV := hide (Pl.readV_in G B.z B.k0 B.k1 B.e0 B.e1 h1 B.n7)
  have HG1 := hide (G.read (m := x.m) B.z B.k0 B.k1 B.e0 B.e1)
  have HOP := hide ho
  clear ho
  have hl := h.lo
  have KA := hide (kept_alloc w (.cells #[.int .i64 x.op, .int .i64 x.z, .int .i64 x.r, .int .i64 x.m, .int .i64 x.k, .int .i64 x.e, .int .i64 x.s] 79))
  have BA : Blk (w.alloc (.cells #[.int .i64 x.op, .int .i64 x.z, .int .i64 x.r, .int .i64 x.m, .int .i64 x.k, .int .i64 x.e, .int .i64 x.s] 79)) w.heap.size (insC x) 79 := Blk.new w #[.int .i64 x.op, .int .i64 x.z, .int .i64 x.r, .int .i64 x.m, .int .i64 x.k, .int .i64 x.e, .int .i64 x.s] 79
  obtain ⟨X, hX⟩ : ∃ X : World, w.alloc (.cells #[.int .i64 x.op, .int .i64 x.z, .int .i64 x.r, .int .i64 x.m, .int .i64 x.k, .int .i64 x.e, .int .i64 x.s] 79) = X := ⟨_, rfl⟩
  rw [hX] at KA BA
  have HX := hide BA
  have hbw := BA.lt
  obtain ⟨b0, b1, b2, b3, b4, b5, b6⟩ := insAt HX.out
  rw [HOP.out] at b0
  have HHB : Hid (hi ≤ w.heap.size) := hide hl.2.2.2.2.2.2
  have HGB : Hid (w.heap.size ≠ g2) := hide (by have := hl.2.2.2.2.2.1; omega)
  have HPH : Hid ((lo ≤ p ∧ p < hi) ∨ w.heap.size ≤ p) := hide (by omega)
  have HPB : Hid (p < w.heap.size) := hide hl.2.2.2.2.1
  have HMH : Hid (mid ≤ hi) := hide (by omega)
  have HS := hide ((Since.refl w lo hi g2).any KA.out)
  have h2 := h.any KA.out
  clear h BA
  have HM := hide h2
  obtain ⟨gd, cd, ga, ca, g1, c1, c2, hB9, hO9⟩ := h2
  have HB := hide hB9
  have HO := hide hO9
  obtain ⟨t0, t1, t2, t3, t4, t5, t6, t7, t8, t9, t10, t11, t12, t13, t14, t15⟩ := hB9.cells
  clear t0 t1 t2 t3 t4 t5 t6 t7 t8 t9 t10 t11 t12 t13 t14 t15
  clear hB9 hO9
  clear G B h1
  have HQ : Hid (el (c.read x.z x.m x.k x.e).r.xs x.r.toNat % Pl.top x.z = (c.read x.z x.m x.k x.e).low x.z x.r) := hide rfl
  have HQ0 := Pl.low_in HG1.out HI.out.z HI.out.r0 HI.out.r1
  obtain ⟨d, hd⟩ : ∃ d, c.read x.z x.m x.k x.e = d := ⟨_, rfl⟩
  obtain ⟨v, hv⟩ : ∃ v, c.readV x.z x.m x.k x.e = v := ⟨_, rfl⟩
  have E : Hid (c.two x = d.two' x (d.low x.z x.r) v) := hide (by unfold Pl.Mc.two; rw [hf, hd, hv]; rfl)
  have HRD := fun w9 h9 => mRead w9 lo mid hi p g2 c x.z x.m x.k x.e h9 HG.out HI.out.z HI.out.k0 HI.out.k1 HI.out.e0 HI.out.e1 HI.out.m0 HI.out.m1
  rw [hd] at hf HG1 HQ HQ0
  rw [hv] at HV
  simp only [hd, hv] at HRD
  clear hd hv
  obtain ⟨q, hq⟩ : ∃ q, d.low x.z x.r = q := ⟨_, rfl⟩
  rw [hq] at E HQ HQ0
  clear hq
  have HF := hide (Pl.flags_of HG1.out)
  have HVQ := hide HQ0
  have E2 : Hid (d.two' x q v = (d.setF (Pl.logF x.z d.r.f (v))).put x.z x.r (v)) := hide (by unfold Pl.Mc.two'; rw [HOP.out]; rfl)
  have HVV : Hid (Pl.okv x.z (v) = true) := hide (HV.out)
  have HGF := hide (HG1.out.setF (v := Pl.logF x.z d.r.f (v)) (Pl.logF_in x.z d.r.f (v) HVV.out HF.out).1 (Pl.logF_in x.z d.r.f (v) HVV.out HF.out).2).g
  go_enter Tryz.func86, Tryz.ntmps86
  go_wp2_with (first | (go_at_call 72; refine (HRD _ HM.out).mono ?_; rintro e9 W_1 ⟨rfl, g2_1, hm9, hb9⟩; have HX_1 := hide (hb9.blk HX.out HHB.out HGB.out); have HGB_1 := hide (hb9.ne HX.out.lt HGB.out); have HS_1 := hide (HS.out.trans hb9); clear hb9; have HM_1 := hide hm9; obtain ⟨gd_1, cd_1, ga_1, ca_1, g1_1, c1_1, c2_1, hB9, hO9⟩ := hm9; have HB_1 := hide hB9; have HO_1 := hide hO9; obtain ⟨t0_1, t1_1, t2_1, t3_1, t4_1, t5_1, t6_1, t7_1, t8_1, t9_1, t10_1, t11_1, t12_1, t13_1, t14_1, t15_1⟩ := hB9.cells; clear t8_1 t9_1 t10_1 t11_1 t12_1 t13_1 t14_1 t15_1; clear hB9 hO9; clear b0 b1 b2 b3 b4 b5 b6; obtain ⟨b0, b1, b2, b3, b4, b5, b6⟩ := insAt HX_1.out; rw [HOP.out] at b0) | (go_at_call 41; refine (mFine _ lo mid hi p g2_1 _ HM_1.out).mono ?_; rintro e9 w9 ⟨rfl, hw⟩; have hw2 := hw.symm; clear hw; subst hw2; rw [hf]))
  have HD := hide (HO_1.out.any (kept_drew (Kept.refl 0 0 W_1))).d
  have S1D := cellsS (HB_1.out.any (kept_drew (Kept.refl 0 0 W_1))) (HX_1.out.kept0 (kept_drew (Kept.refl 0 0 W_1)))
  go_region_held3 (fun w' => w'.cell? ⟨p, 0, none⟩ = some (.slice (some ⟨gd_1, 0, none⟩) 4 cd_1) ∧ w'.cell? ⟨p, 1, none⟩ = some (.slice (some ⟨ga_1, 0, none⟩) 4 ca_1) ∧ w'.cell? ⟨p, 2, none⟩ = some (.int .i64 d.r.o) ∧ w'.cell? ⟨p, 3, none⟩ = some (.int .i64 d.r.p) ∧ w'.cell? ⟨p, 4, none⟩ = some (.int .i64 d.r.f) ∧ w'.cell? ⟨p, 5, none⟩ = some (.int .i64 d.r.m) ∧ w'.cell? ⟨p, 6, none⟩ = some (.bool d.r.s) ∧ w'.cell? ⟨p, 7, none⟩ = some (.bool d.r.t) ∧ w'.cell? ⟨w.heap.size, 1, none⟩ = some (.int .i64 x.z) ∧ w'.cell? ⟨w.heap.size, 2, none⟩ = some (.int .i64 x.r)) (first | with_reducible exact S1D | with_reducible exact cellsS HB_2.out HX_2.out | go_keep) (first | (go_at_call 74; refine (mLow _ gd_1 cd_1 ga_1 ca_1 d.r x.z x.r HD.out HG1.out.g HI.out.z HI.out.r0 HI.out.r1).mono ?_; rw [HQ.out]; rintro e9 W_2 ⟨rfl, hk9⟩; have K2 := hide ((kept_drew (Kept.refl 0 0 W_1)).trans hk9); clear hk9; have HM_2 := hide (HM_1.out.any K2.out); have HB_2 := hide (HB_1.out.any K2.out); have HO_2 := hide (HO_1.out.any K2.out); have HX_2 := hide (HX_1.out.kept0 K2.out); have HS_2 := hide (HS_1.out.any K2.out); obtain ⟨t0_2, t1_2, t2_2, t3_2, t4_2, t5_2, t6_2, t7_2, t8_2, t9_2, t10_2, t11_2, t12_2, t13_2, t14_2, t15_2⟩ := HB_2.out.cells; clear t8_2 t9_2 t10_2 t11_2 t12_2 t13_2 t14_2 t15_2; have f0_2 := HB_2.out.frozen 0; have f1_2 := HB_2.out.frozen 1; have f2_2 := HB_2.out.frozen 2; have f3_2 := HB_2.out.frozen 3; have f4_2 := HB_2.out.frozen 4; have f5_2 := HB_2.out.frozen 5; have f6_2 := HB_2.out.frozen 6; have f7_2 := HB_2.out.frozen 7; clear b0 b1 b2 b3 b4 b5 b6; obtain ⟨b0, b1, b2, b3, b4, b5, b6⟩ := insAt HX_2.out; rw [HOP.out] at b0; clear t0_1 t1_1 t2_1 t3_1 t4_1 t5_1 t6_1 t7_1))
  go_wp2_with ((go_at_call 76; refine (l1LogicAt _ HVV.out HF.out).mono ?_; rintro e9 w9 ⟨rfl, hw⟩; have hw2 := hw.symm; clear hw; subst hw2))
  have HBY := hide ((HB_2.out.cF (Pl.logF x.z d.r.f (v))).any (kept_drew (Kept.refl 0 0 (W_2.setCell ⟨p, 4, none⟩ (.int .i64 (Pl.logF x.z d.r.f (v)))))))
  have HOY := hide ((HO_2.out.own (kept_one _ p 4 (.int .i64 (Pl.logF x.z d.r.f (v))))).any (kept_drew (Kept.refl 0 0 (W_2.setCell ⟨p, 4, none⟩ (.int .i64 (Pl.logF x.z d.r.f (v)))))))
  have HSY := hide ((HS_2.out.set p 4 (.int .i64 (Pl.logF x.z d.r.f (v))) HPH.out).drew)
  have HXY := hide ((HX_2.out.other p 4 (.int .i64 (Pl.logF x.z d.r.f (v))) (by have := HPB.out; omega)).kept0 (kept_drew (Kept.refl 0 0 (W_2.setCell ⟨p, 4, none⟩ (.int .i64 (Pl.logF x.z d.r.f (v)))))))
  have HRY := hide (MO.reg (r := (d.setF (Pl.logF x.z d.r.f (v))).r) HOY.out)
  have HMY : Hid (mid ≤ (W_2.setCell ⟨p, 4, none⟩ (.int .i64 (Pl.logF x.z d.r.f (v)))).drew.heap.size) := hide (Nat.le_trans HMH.out HOY.out.hh)
  have HPM := HOY.out.p0
  have HNM : Hid (¬ (lo ≤ w.heap.size ∧ w.heap.size < mid)) := hide (by have := HHB.out; have := HMH.out; omega)
  have HNP : Hid (¬ (p ≤ w.heap.size ∧ w.heap.size < p + 1)) := hide (by have := HPB.out; omega)
  have SYD := cellsS HBY.out HXY.out
  go_region_held3 (fun w' => w'.cell? ⟨p, 0, none⟩ = some (.slice (some ⟨gd_1, 0, none⟩) 4 cd_1) ∧ w'.cell? ⟨p, 1, none⟩ = some (.slice (some ⟨ga_1, 0, none⟩) 4 ca_1) ∧ w'.cell? ⟨p, 2, none⟩ = some (.int .i64 (d.setF (Pl.logF x.z d.r.f (v))).r.o) ∧ w'.cell? ⟨p, 3, none⟩ = some (.int .i64 (d.setF (Pl.logF x.z d.r.f (v))).r.p) ∧ w'.cell? ⟨p, 4, none⟩ = some (.int .i64 (d.setF (Pl.logF x.z d.r.f (v))).r.f) ∧ w'.cell? ⟨p, 5, none⟩ = some (.int .i64 (d.setF (Pl.logF x.z d.r.f (v))).r.m) ∧ w'.cell? ⟨p, 6, none⟩ = some (.bool (d.setF (Pl.logF x.z d.r.f (v))).r.s) ∧ w'.cell? ⟨p, 7, none⟩ = some (.bool (d.setF (Pl.logF x.z d.r.f (v))).r.t) ∧ w'.cell? ⟨w.heap.size, 1, none⟩ = some (.int .i64 x.z) ∧ w'.cell? ⟨w.heap.size, 2, none⟩ = some (.int .i64 x.r)) (first | with_reducible exact SYD | with_reducible exact cellsS HB_9.out HX_9.out | exact cellsS (HB_9.out.laid (Pl.putR (d.setF (Pl.logF x.z d.r.f (v))).r x.z x.r (v))) (Blk.kept HX_9.out (MB.kept8 _ _ _ _ _ _ _ _) HNP.out) | go_keep) (first | (go_at_call 79; refine (put4 _ lo mid gd_1 cd_1 ga_1 ca_1 (d.setF (Pl.logF x.z d.r.f (v))).r x.z x.r (v) HRY.out HMY.out HGF.out HI.out.r0 HI.out.r1 HVV.out).mono ?_; unfold regV; rintro e9 W_9 ⟨rfl, hr9, hk9⟩; have HO_9 := hide (HOY.out.regs hr9 hk9); have HB_9 := hide (HBY.out.regs hk9 HPM); have HX_9 := hide (Blk.kept HXY.out hk9 HNM.out); have HS_9 := hide (HSY.out.keptS hk9 (Nat.le_refl _) HMH.out); clear hr9 hk9; obtain ⟨u0, u1, u2, u3, u4, u5, u6, u7, _⟩ := HB_9.out.cells; have f0 := HB_9.out.frozen 0; have f1 := HB_9.out.frozen 1; have f2 := HB_9.out.frozen 2; have f3 := HB_9.out.frozen 3; have f4 := HB_9.out.frozen 4; have f5 := HB_9.out.frozen 5; have f6 := HB_9.out.frozen 6; have f7 := HB_9.out.frozen 7))
  go_wp2_with fail
  first | go_end0 | refine bodyPost_ret (results_none rfl _ _ _) rfl ?_
  exact ⟨rfl, g2_1, by rw [E.out, E2.out]; exact MAt.laid HB_9.out HO_9.out, since8 HS_9.out HPH.out _ _ _ _ _ _ _ _⟩
theorem mTwo (w : World) (lo mid hi p g2 : Nat) (c : Pl.Mc) (x : Pl.In) (h : MAt w lo mid hi p g2 c) (G : Pl.GM c) (B : Pl.InB x) (h1 : x.m = 1 → x.z = 2) (ho : x.op = 1 ∨ x.op = 3 ∨ x.op = 4 ∨ x.op = 5 ∨ x.op = 6 ∨ x.op = 7 ∨ x.op = 8) :
    Calls Tryz.prog 86 #[.pointer (some ⟨p, 0, none⟩), .agg #[.int .i64 x.op, .int .i64 x.z, .int .i64 x.r, .int .i64 x.m, .int .i64 x.k, .int .i64 x.e, .int .i64 x.s]] w fun e w' => e = .returned (.tuple #[]) ∧ ∃ g3, MAt w' lo mid hi p g3 (c.two x) ∧ Since w lo hi g2 w' g3 := by
  cases hf : (c.read x.z x.m x.k x.e).fine
  · exact mTwo_no w lo mid hi p g2 c x h G B h1 hf
  · rcases ho with ho | ho | ho | ho | ho | ho | ho
    · exact mTwo_to w lo mid hi p g2 c x h G B h1 hf ho
    · exact mTwo_add w lo mid hi p g2 c x h G B h1 hf ho
    · exact mTwo_sub w lo mid hi p g2 c x h G B h1 hf ho
    · exact mTwo_and w lo mid hi p g2 c x h G B h1 hf ho
    · exact mTwo_or w lo mid hi p g2 c x h G B h1 hf ho
    · exact mTwo_xor w lo mid hi p g2 c x h G B h1 hf ho
    · exact mTwo_cmp w lo mid hi p g2 c x h G B h1 hf ho
end Go.Proofs.YtblddehlkaolbaaGreatDoor

