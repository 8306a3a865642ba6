/- What chapter 2's functions that read a constant table answer, where the tables hold what the program's text lays: one contract a function. -/
import Derived.Test.YtkahmepoblhbnaaDoorImplNum
import Derived.Test.YtkahmepoblhbnaaDoorBit
import Derived.Test.YtkahmepoblhbnaaDoorBcd
import Derived.Deep.QuietTactic
import Derived.BigQuiet
namespace Go.Proofs.YtkahmepoblhbnaaDoor
open Go.RowKit
set_option linter.unusedVariables false

/-- the table of sums: at each sum of two digits and a carry what is written down and, in the upper half, what is carried on -/
def TabS (w : World) : Prop := ∀ i : Nat, i < 20 → w.cell? ⟨0, i, none⟩ = some (.int .i64 ((i : Int) / 10 * 16 + (i : Int) % 10))
/-- the table of 9 less each digit -/
def TabN (w : World) : Prop := ∀ i : Nat, i < 10 → w.cell? ⟨1, i, none⟩ = some (.int .i64 (9 - (i : Int)))

theorem TabS.below {w w' : World} (h : TabS w) (hb : Below w.heap.size w w') : TabS w' := by
  intro i hi
  have hc := h i hi
  rw [hb.cell (World.block_lt_of_cell? _ _ hc)]; exact hc
theorem TabN.below {w w' : World} (h : TabN w) (hb : Below w.heap.size w w') : TabN w' := by
  intro i hi
  have hc := h i hi
  rw [hb.cell (World.block_lt_of_cell? _ _ hc)]; exact hc
theorem below_drewN {B : Nat} {a w : World} (h : Below B a w) (n : Nat) : Below B a (w.drewN n) := ⟨h.os, h.tape, h.output, h.size, h.block⟩
theorem TabS.drewN {w : World} (h : TabS w) (n : Nat) : TabS (w.drewN n) := h
theorem TabN.drewN {w : World} (h : TabN w) (n : Nat) : TabN (w.drewN n) := h

theorem TabS.at {w : World} (h : TabS w) (s : Int) (s0 : 0 ≤ s) (s1 : s < 20) : ∃ d : Int, w.cell? ⟨0, s.toNat, none⟩ = some (.int .i64 d) ∧ 0 ≤ d ∧ d ≤ 25 ∧ d / 16 = s / 10 ∧ d % 16 = s % 10 :=
  ⟨_, h s.toNat (by omega), by omega, by omega, by omega, by omega⟩
theorem TabN.at {w : World} (h : TabN w) (s : Int) (s0 : 0 ≤ s) (s1 : s < 10) : w.cell? ⟨1, s.toNat, none⟩ = some (.int .i64 (9 - s)) := by
  rw [h s.toNat (by omega), Int.toNat_of_nonneg s0]

theorem sumOnPaper (c a b : Int) (w : World) (ht : TabS w) (c0 : 0 ≤ c) (c1 : c ≤ 1) (ka : Pl.bcd a = true) (kb : Pl.bcd b = true) :
    Calls Tryd.prog 39 #[.int .i64 c, .int .i64 a, .int .i64 b] w fun e w' => e = .returned (.tuple #[.int .i64 (Pl.aV c a b), .int .i64 (Pl.aC c a b)]) ∧ w' = w := by
  have K := Pl.two2_mk c0 c1 ka kb
  obtain ⟨a0, a1, a2, a3⟩ := Pl.bcd_ok ka
  obtain ⟨b0, b1, b2, b3⟩ := Pl.bcd_ok kb
  obtain ⟨d, hd, d0, d1, d2, d3⟩ := ht.at (a % 16 + b % 16 + c) (by omega) (by omega)
  have d4 : d / 16 ≤ 1 := by omega
  have d5 : 0 ≤ d / 16 := by omega
  obtain ⟨f, hf, f0, f1, f2, f3⟩ := ht.at (a / 16 + b / 16 + d / 16) (by omega) (by omega)
  have f4 : f / 16 ≤ 1 := by omega
  have E : Hid (Pl.aV c a b = f % 16 * 16 + d % 16 ∧ Pl.aC c a b = f / 16) := by
    refine hide ?_
    rw [Pl.aV_is K, Pl.aC_is K]
    unfold Pl.ofN Pl.num
    omega
  clear ka kb K ht d2 d3 f2 f3
  go_enter Tryd.func39, Tryd.ntmps39
  go_wp2_with fail
  refine (halvesOf a _ (by omega) (by omega)).mono ?_
  rintro e w' ⟨rfl, rfl⟩
  go_wp2_with fail
  refine (halvesOf b _ (by omega) (by omega)).mono ?_
  rintro e w' ⟨rfl, rfl⟩
  go_wp2_with fail
  refine (halvesOf d _ (by omega) (by omega)).mono ?_
  rintro e w' ⟨rfl, rfl⟩
  go_wp2_with fail
  refine (halvesOf f _ (by omega) (by omega)).mono ?_
  rintro e w' ⟨rfl, rfl⟩
  go_wp2_with fail
  refine (byteOf (f % 16) (d % 16) _ (by omega) (by omega) (by omega) (by omega)).mono ?_
  rintro e w' ⟨rfl, rfl⟩
  go_wp2_with fail
  go_ret2
  exact ⟨rII E.out.1.symm E.out.2.symm, rfl⟩

theorem complementOnPaper (v : Int) (w : World) (ht : TabN w) (kv : Pl.bcd v = true) :
    Calls Tryd.prog 42 #[.int .i64 v] w fun e w' => e = .returned (.int .i64 (Pl.cplV v)) ∧ ∃ n, w' = w.drewN n := by
  obtain ⟨v0, v1, v2, v3⟩ := Pl.bcd_ok kv
  have h1 := ht.at (v / 16) (by omega) (by omega)
  have h2 := ht.at (v % 16) (by omega) (by omega)
  have E : Hid (Pl.cplV v = (9 - v / 16) * 16 + (9 - v % 16)) := by
    refine hide ?_
    simp only [Pl.cplV, kv, if_true]
    unfold Pl.ofN Pl.num
    omega
  clear kv ht
  go_enter Tryd.func42, Tryd.ntmps42
  go_wp2_with fail
  refine (halvesOf v _ (by omega) (by omega)).mono ?_
  rintro e w' ⟨rfl, rfl⟩
  go_wp2_with fail
  go_quiet ((go_at_call 46; exact Calls.quiet_of_same (byteOf (9 - v / 16) (9 - v % 16) _ (by omega) (by omega) (by omega) (by omega))))
  go_wp2_with fail
  go_ret
  exact ⟨rI E.out.symm, _, rfl⟩

theorem addBcd (x a b : Int) (w : World) (ht : TabS w) (lx : -9223372036854775808 ≤ x) (hx : x ≤ 9223372036854775807) (la : -9223372036854775808 ≤ a) (ha : a ≤ 9223372036854775807) (lb : -9223372036854775808 ≤ b) (hb : b ≤ 9223372036854775807) :
    Calls Tryd.prog 11 #[.int .i64 x, .int .i64 a, .int .i64 b] w fun e w' => e = .returned (.tuple #[.int .i64 (Pl.aV x a b), .int .i64 (Pl.aC x a b), .bool (Pl.two2 x a b)]) ∧ w' = w := by
  cases kx : Pl.bit x
  · have K : Hid (Pl.two2 x a b = false) := hide (by simp [Pl.two2, kx])
    go_enter Tryd.func11, Tryd.ntmps11
    go_wp2_with fail
    refine (isBit x _).mono ?_
    rintro e w' ⟨rfl, rfl⟩
    go_wp2_with fail
    go_ret3
    exact ⟨rIIB (by simp [Pl.aV, K.out]) (by simp [Pl.aC, K.out]) K.out.symm, rfl⟩
  · cases ka : Pl.bcd a
    · have K : Hid (Pl.two2 x a b = false) := hide (by simp [Pl.two2, ka])
      go_enter Tryd.func11, Tryd.ntmps11
      go_wp2_with fail
      refine (isBit x _).mono ?_
      rintro e w' ⟨rfl, rfl⟩
      go_wp2_with fail
      refine (isBcd a _ la ha).mono ?_
      rintro e w' ⟨rfl, rfl⟩
      go_wp2_with fail
      go_ret3
      exact ⟨rIIB (by simp [Pl.aV, K.out]) (by simp [Pl.aC, K.out]) K.out.symm, rfl⟩
    · cases kb : Pl.bcd b
      · have K : Hid (Pl.two2 x a b = false) := hide (by simp [Pl.two2, kb])
        go_enter Tryd.func11, Tryd.ntmps11
        go_wp2_with fail
        refine (isBit x _).mono ?_
        rintro e w' ⟨rfl, rfl⟩
        go_wp2_with fail
        refine (isBcd a _ la ha).mono ?_
        rintro e w' ⟨rfl, rfl⟩
        go_wp2_with fail
        refine (isBcd b _ lb hb).mono ?_
        rintro e w' ⟨rfl, rfl⟩
        go_wp2_with fail
        go_ret3
        exact ⟨rIIB (by simp [Pl.aV, K.out]) (by simp [Pl.aC, K.out]) K.out.symm, rfl⟩
      · obtain ⟨x0, x1⟩ := Pl.bit_ok kx
        have K : Hid (Pl.two2 x a b = true) := hide (by simp [Pl.two2, kx, ka, kb])
        go_enter Tryd.func11, Tryd.ntmps11
        go_wp2_with fail
        refine (isBit x _).mono ?_
        rintro e w' ⟨rfl, rfl⟩
        go_wp2_with fail
        refine (isBcd a _ la ha).mono ?_
        rintro e w' ⟨rfl, rfl⟩
        go_wp2_with fail
        refine (isBcd b _ lb hb).mono ?_
        rintro e w' ⟨rfl, rfl⟩
        go_wp2_with fail
        refine (sumOnPaper x a b _ ht x0 x1 ka kb).mono ?_
        rintro e w' ⟨rfl, rfl⟩
        go_wp2_with fail
        go_ret3
        exact ⟨rIIB rfl rfl K.out.symm, rfl⟩

theorem Pl.sub_as_add {x a b : Int} (x0 : 0 ≤ x) (x1 : x ≤ 1) (ka : Pl.bcd a = true) (kb : Pl.bcd b = true) :
    Pl.bcd (Pl.cplV b) = true ∧ Pl.aV (1 - x) a (Pl.cplV b) = Pl.sV x a b ∧ 1 - Pl.aC (1 - x) a (Pl.cplV b) = Pl.sC x a b := by
  have nb := Pl.num_bd kb
  have na := Pl.num_bd ka
  have ec : Pl.cplV b = Pl.ofN (99 - Pl.num b) := by simp [Pl.cplV, kb]
  have kc : Pl.bcd (Pl.cplV b) = true := by rw [ec]; exact Pl.ofN_bcd (by omega) (by omega)
  have nc : Pl.num (Pl.cplV b) = 99 - Pl.num b := by rw [ec]; exact Pl.num_ofN (by omega) (by omega)
  have k1 : Pl.two2 (1 - x) a (Pl.cplV b) = true := Pl.two2_mk (by omega) (by omega) ka kc
  have k2 : Pl.two2 x a b = true := Pl.two2_mk x0 x1 ka kb
  refine ⟨kc, ?_, ?_⟩
  · rw [Pl.aV_is k1, Pl.sV_is k2, nc, Pl.difN]
    congr 1
    split <;> omega
  · rw [Pl.aC_is k1, Pl.sC_is k2, nc, Pl.difB]
    split <;> omega

theorem subBcd (x a b : Int) (w : World) (ht : TabS w) (hn : TabN w) (lx : -9223372036854775808 ≤ x) (hx : x ≤ 9223372036854775807) (la : -9223372036854775808 ≤ a) (ha : a ≤ 9223372036854775807) (lb : -9223372036854775808 ≤ b) (hb : b ≤ 9223372036854775807) :
    Calls Tryd.prog 13 #[.int .i64 x, .int .i64 a, .int .i64 b] w fun e w' => e = .returned (.tuple #[.int .i64 (Pl.sV x a b), .int .i64 (Pl.sC x a b), .bool (Pl.two2 x a b)]) ∧ ∃ n, w' = w.drewN n := by
  cases kx : Pl.bit x
  · have K : Hid (Pl.two2 x a b = false) := hide (by simp [Pl.two2, kx])
    go_enter Tryd.func13, Tryd.ntmps13
    go_wp2_with fail
    refine (isBit x _).mono ?_
    rintro e w' ⟨rfl, rfl⟩
    go_wp2_with fail
    go_ret3
    exact ⟨rIIB (by simp [Pl.sV, K.out]) (by simp [Pl.sC, K.out]) K.out.symm, 0, rfl⟩
  · cases ka : Pl.bcd a
    · have K : Hid (Pl.two2 x a b = false) := hide (by simp [Pl.two2, ka])
      go_enter Tryd.func13, Tryd.ntmps13
      go_wp2_with fail
      refine (isBit x _).mono ?_
      rintro e w' ⟨rfl, rfl⟩
      go_wp2_with fail
      refine (isBcd a _ la ha).mono ?_
      rintro e w' ⟨rfl, rfl⟩
      go_wp2_with fail
      go_ret3
      exact ⟨rIIB (by simp [Pl.sV, K.out]) (by simp [Pl.sC, K.out]) K.out.symm, 0, rfl⟩
    · cases kb : Pl.bcd b
      · have K : Hid (Pl.two2 x a b = false) := hide (by simp [Pl.two2, kb])
        go_enter Tryd.func13, Tryd.ntmps13
        go_wp2_with fail
        refine (isBit x _).mono ?_
        rintro e w' ⟨rfl, rfl⟩
        go_wp2_with fail
        refine (isBcd a _ la ha).mono ?_
        rintro e w' ⟨rfl, rfl⟩
        go_wp2_with fail
        refine (isBcd b _ lb hb).mono ?_
        rintro e w' ⟨rfl, rfl⟩
        go_wp2_with fail
        go_ret3
        exact ⟨rIIB (by simp [Pl.sV, K.out]) (by simp [Pl.sC, K.out]) K.out.symm, 0, rfl⟩
      · obtain ⟨x0, x1⟩ := Pl.bit_ok kx
        have K : Hid (Pl.two2 x a b = true) := hide (by simp [Pl.two2, kx, ka, kb])
        obtain ⟨kc, e1, e2⟩ := Pl.sub_as_add x0 x1 ka kb
        obtain ⟨c0, c1⟩ := Pl.aC_bd (1 - x) a (Pl.cplV b)
        have E1 := hide e1
        have E2 := hide e2
        clear e1 e2
        go_enter Tryd.func13, Tryd.ntmps13
        go_wp2_with fail
        refine (isBit x _).mono ?_
        rintro e w' ⟨rfl, rfl⟩
        go_wp2_with fail
        refine (isBcd a _ la ha).mono ?_
        rintro e w' ⟨rfl, rfl⟩
        go_wp2_with fail
        refine (isBcd b _ lb hb).mono ?_
        rintro e w' ⟨rfl, rfl⟩
        go_wp2_with fail
        refine (complementOnPaper b _ hn kb).mono ?_
        rintro e w' ⟨rfl, n, rfl⟩
        go_wp2_with fail
        refine (sumOnPaper (1 - x) a (Pl.cplV b) _ (ht.drewN n) (by omega) (by omega) ka kc).mono ?_
        rintro e w' ⟨rfl, rfl⟩
        go_wp2_with fail
        go_ret3
        exact ⟨rIIB E1.out E2.out K.out.symm, n, rfl⟩

theorem negBcd (x a : Int) (w : World) (ht : TabS w) (hn : TabN w) (lx : -9223372036854775808 ≤ x) (hx : x ≤ 9223372036854775807) (la : -9223372036854775808 ≤ a) (ha : a ≤ 9223372036854775807) :
    Calls Tryd.prog 27 #[.int .i64 x, .int .i64 a] w fun e w' => e = .returned (.tuple #[.int .i64 (Pl.sV x 0 a), .int .i64 (Pl.sC x 0 a), .bool (Pl.two2 x 0 a)]) ∧ ∃ n, w' = w.drewN n := by
  go_enter Tryd.func27, Tryd.ntmps27
  go_wp2_with fail
  refine (subBcd x 0 a _ ht hn lx hx (by omega) (by omega) la ha).mono ?_
  rintro e w' ⟨rfl, n, rfl⟩
  go_wp2_with fail
  go_ret3
  exact ⟨rfl, n, rfl⟩

theorem complementBcd (v : Int) (w : World) (hn : TabN w) (lv : -9223372036854775808 ≤ v) (hv : v ≤ 9223372036854775807) :
    Calls Tryd.prog 30 #[.int .i64 v] w fun e w' => e = .returned (.tuple #[.int .i64 (Pl.cplV v), .bool (Pl.bcd v)]) ∧ ∃ n, w' = w.drewN n := by
  cases k : Pl.bcd v
  · have K : Hid (Pl.cplV v = 0) := hide (by simp [Pl.cplV, k])
    go_enter Tryd.func30, Tryd.ntmps30
    go_wp2_with fail
    refine (isBcd v _ lv hv).mono ?_
    rintro e w' ⟨rfl, rfl⟩
    go_wp2_with fail
    go_ret2
    exact ⟨rIB K.out.symm rfl, 0, rfl⟩
  · go_enter Tryd.func30, Tryd.ntmps30
    go_wp2_with fail
    refine (isBcd v _ lv hv).mono ?_
    rintro e w' ⟨rfl, rfl⟩
    go_wp2_with fail
    refine (complementOnPaper v _ hn k).mono ?_
    rintro e w' ⟨rfl, n, rfl⟩
    go_wp2_with fail
    go_ret2
    exact ⟨rfl, n, rfl⟩

end Go.Proofs.YtkahmepoblhbnaaDoor
