/- Decimal bytes and the numbers that they tell: plain arithmetic; no Go text is spoken of here. -/
import Derived.Test.YtkahmepoblhbnaaDoorPlain
namespace Go.Proofs.YtkahmepoblhbnaaDoor.Pl
set_option linter.unusedVariables false

theorem and15 (a : Int) : bits .and .i64 a 15 = a % 16 := by
  show IntKind.i64.wrap ((BitVec.ofInt 64 a &&& BitVec.ofInt 64 15).toNat : Int) = _
  rw [BitVec.toNat_and, BitVec.toNat_ofInt, show (BitVec.ofInt 64 15).toNat = 2 ^ 4 - 1 from by decide, Nat.and_two_pow_sub_one_eq_mod, IntKind.wrap_i64]
  omega
theorem or_dgt (n : Int) (h0 : 0 ≤ n) (h1 : n ≤ 99) : bits .or .i64 (n / 10 * 16) (n % 10) = n / 10 * 16 + n % 10 :=
  bits_join .i64 62 (by decide) wraps_i64 4 (n / 10 * 16) (n % 10) (by omega) (by omega) (by omega) (by omega) (by omega) (by omega)

/-- a decimal byte -/
def bcd (v : Int) : Bool := (decide (0 ≤ v) && decide (v ≤ 255)) && (decide (v / 16 ≤ 9) && decide (v % 16 ≤ 9))
/-- the number that a decimal byte tells -/
def num (v : Int) : Int := v / 16 * 10 + v % 16
/-- the decimal byte of a number -/
def ofN (n : Int) : Int := n / 10 * 16 + n % 10
def dgt (n : Int) : Bool := decide (0 ≤ n) && decide (n ≤ 99)
def bcdV (n : Int) : Int := if dgt n = true then ofN n else 0
def numV (v : Int) : Int := if bcd v = true then num v else 0
def two2 (x a b : Int) : Bool := bit x && (bcd a && bcd b)
def difN (x a b : Int) : Int := if num a - num b - x < 0 then num a - num b - x + 100 else num a - num b - x
def difB (x a b : Int) : Int := if num a - num b - x < 0 then 1 else 0
def aV (x a b : Int) : Int := if two2 x a b = true then ofN ((num a + num b + x) % 100) else 0
def aC (x a b : Int) : Int := if two2 x a b = true then (num a + num b + x) / 100 else 0
def sV (x a b : Int) : Int := if two2 x a b = true then ofN (difN x a b) else 0
def sC (x a b : Int) : Int := if two2 x a b = true then difB x a b else 0
def cplV (v : Int) : Int := if bcd v = true then ofN (99 - num v) else 0

theorem bcd_ok {v : Int} (h : bcd v = true) : 0 ≤ v ∧ v ≤ 255 ∧ v / 16 ≤ 9 ∧ v % 16 ≤ 9 := by
  simp [bcd] at h; omega
theorem bcd_mk {v : Int} (h0 : 0 ≤ v) (h1 : v ≤ 255) (h2 : v / 16 ≤ 9) (h3 : v % 16 ≤ 9) : bcd v = true := by
  simp [bcd, h0, h1, h2, h3]
theorem dgt_ok {n : Int} (h : dgt n = true) : 0 ≤ n ∧ n ≤ 99 := by simpa [dgt] using h
theorem dgt_mk {n : Int} (h0 : 0 ≤ n) (h1 : n ≤ 99) : dgt n = true := by simp [dgt, h0, h1]
theorem num_bd {v : Int} (h : bcd v = true) : 0 ≤ num v ∧ num v ≤ 99 := by have := bcd_ok h; unfold num; omega
theorem numV_ok {v : Int} (h : bcd v = true) : numV v = num v := by simp [numV, h]
theorem bcdV_ok {n : Int} (h : dgt n = true) : bcdV n = ofN n := by simp [bcdV, h]
theorem ofN_bcd {n : Int} (h0 : 0 ≤ n) (h1 : n ≤ 99) : bcd (ofN n) = true := by
  unfold ofN; exact bcd_mk (by omega) (by omega) (by omega) (by omega)
theorem num_ofN {n : Int} (h0 : 0 ≤ n) (h1 : n ≤ 99) : num (ofN n) = n := by unfold num ofN; omega
theorem ofN_num {v : Int} (h : bcd v = true) : ofN (num v) = v := by have := bcd_ok h; unfold num ofN; omega
theorem ofN_bd {n : Int} (h0 : 0 ≤ n) (h1 : n ≤ 99) : 0 ≤ ofN n ∧ ofN n ≤ 255 := by unfold ofN; omega
theorem two2_ok {x a b : Int} (h : two2 x a b = true) : 0 ≤ x ∧ x ≤ 1 ∧ bcd a = true ∧ bcd b = true := by
  simp only [two2, Bool.and_eq_true] at h
  have := bit_ok h.1
  exact ⟨this.1, this.2, h.2.1, h.2.2⟩
theorem two2_mk {x a b : Int} (h0 : 0 ≤ x) (h1 : x ≤ 1) (ha : bcd a = true) (hb : bcd b = true) : two2 x a b = true := by
  simp [two2, bit, h0, h1, ha, hb]
theorem difN_bd {x a b : Int} (h : two2 x a b = true) : 0 ≤ difN x a b ∧ difN x a b ≤ 99 := by
  obtain ⟨x0, x1, ha, hb⟩ := two2_ok h
  have := num_bd ha
  have := num_bd hb
  unfold difN
  split <;> omega

/-! ### what the law on decimal digits asks -/
theorem aV_is {x a b : Int} (h : two2 x a b = true) : aV x a b = ofN ((num a + num b + x) % 100) := by simp [aV, h]
theorem aC_is {x a b : Int} (h : two2 x a b = true) : aC x a b = (num a + num b + x) / 100 := by simp [aC, h]
theorem sV_is {x a b : Int} (h : two2 x a b = true) : sV x a b = ofN (difN x a b) := by simp [sV, h]
theorem sC_is {x a b : Int} (h : two2 x a b = true) : sC x a b = difB x a b := by simp [sC, h]
theorem aC_bd (x a b : Int) : 0 ≤ aC x a b ∧ aC x a b ≤ 1 := by
  by_cases h : two2 x a b = true
  · obtain ⟨x0, x1, ha, hb⟩ := two2_ok h
    have := num_bd ha
    have := num_bd hb
    rw [aC_is h]; omega
  · simp [aC, h]
theorem sC_bd (x a b : Int) : 0 ≤ sC x a b ∧ sC x a b ≤ 1 := by
  unfold sC difB
  split
  · split <;> omega
  · omega
theorem aV_bcd {x a b : Int} (h : two2 x a b = true) : bcd (aV x a b) = true := by rw [aV_is h]; exact ofN_bcd (by omega) (by omega)
theorem sV_bcd {x a b : Int} (h : two2 x a b = true) : bcd (sV x a b) = true := by rw [sV_is h]; exact ofN_bcd (difN_bd h).1 (difN_bd h).2
theorem aV_num {x a b : Int} (h : two2 x a b = true) : num (aV x a b) = (num a + num b + x) % 100 := by rw [aV_is h]; exact num_ofN (by omega) (by omega)
theorem sV_num {x a b : Int} (h : two2 x a b = true) : num (sV x a b) = difN x a b := by rw [sV_is h]; exact num_ofN (difN_bd h).1 (difN_bd h).2
theorem sum_law {x a b : Int} (h : two2 x a b = true) : (numV a + numV b + x != numV (aV x a b) + 100 * aC x a b) = false := by
  obtain ⟨x0, x1, ha, hb⟩ := two2_ok h
  rw [numV_ok ha, numV_ok hb, numV_ok (aV_bcd h), aV_num h, aC_is h]
  simp; omega
theorem dif_law {x a b : Int} (h : two2 x a b = true) : (numV a - numV b - x != numV (sV x a b) - 100 * sC x a b) = false := by
  obtain ⟨x0, x1, ha, hb⟩ := two2_ok h
  rw [numV_ok ha, numV_ok hb, numV_ok (sV_bcd h), sV_num h, sC_is h]
  unfold difN difB
  split <;> simp <;> omega
theorem back2 {x a b : Int} (h : two2 x a b = true) : two2 x (aV x a b) b = true ∧ sV x (aV x a b) b = a ∧ sC x (aV x a b) b = aC x a b := by
  obtain ⟨x0, x1, ha, hb⟩ := two2_ok h
  have h2 := two2_mk x0 x1 (aV_bcd h) hb
  refine ⟨h2, ?_, ?_⟩
  · rw [sV_is h2]
    have e : difN x (aV x a b) b = num a := by
      unfold difN
      rw [aV_num h]
      have := num_bd ha
      have := num_bd hb
      split <;> omega
    rw [e, ofN_num ha]
  · rw [sC_is h2, aC_is h]
    unfold difB
    rw [aV_num h]
    have := num_bd ha
    have := num_bd hb
    split <;> omega
theorem bcdV_back {n : Int} (h : dgt n = true) : bcd (bcdV n) = true ∧ numV (bcdV n) = n ∧ 0 ≤ bcdV n ∧ bcdV n ≤ 255 := by
  obtain ⟨h0, h1⟩ := dgt_ok h
  rw [bcdV_ok h]
  exact ⟨ofN_bcd h0 h1, by rw [numV_ok (ofN_bcd h0 h1), num_ofN h0 h1], ofN_bd h0 h1⟩
theorem cpl_ok {v : Int} (h : bcd v = true) : bcd (cplV v) = true ∧ cplV (cplV v) = v ∧ two2 1 (cplV v) 0 = true ∧ two2 0 0 v = true ∧ aV 1 (cplV v) 0 = sV 0 0 v := by
  have hn := num_bd h
  have e : cplV v = ofN (99 - num v) := by simp [cplV, h]
  have hb : bcd (cplV v) = true := by rw [e]; exact ofN_bcd (by omega) (by omega)
  have z : bcd 0 = true := by decide
  have h1 : two2 1 (cplV v) 0 = true := two2_mk (by omega) (by omega) hb z
  have h2 : two2 0 0 v = true := two2_mk (by omega) (by omega) z h
  have n0 : num 0 = 0 := by decide
  refine ⟨hb, ?_, h1, h2, ?_⟩
  · rw [cplV, if_pos hb, e, num_ofN (by omega) (by omega), show 99 - (99 - num v) = num v from by omega, ofN_num h]
  · rw [aV_is h1, sV_is h2, e, num_ofN (by omega) (by omega), n0]
    congr 1
    unfold difN
    rw [n0]
    split <;> omega

theorem step_law {C x y : Int} (h : two2 C x y = true) : (numV x + numV y + C) % 100 = numV (aV C x y) ∧ aC C x y = (numV x + numV y + C) / 100 ∧ 0 ≤ numV x ∧ numV x ≤ 99 ∧ 0 ≤ numV y ∧ numV y ≤ 99 ∧ bcd x = true ∧ bcd y = true ∧ bcd (aV C x y) = true ∧ 0 ≤ C ∧ C ≤ 1 ∧ 0 ≤ aV C x y ∧ aV C x y ≤ 255 := by
  obtain ⟨c0, c1, hx, hy⟩ := two2_ok h
  have hA := aV_bcd h
  have b := bcd_ok hA
  rw [numV_ok hx, numV_ok hy, numV_ok hA, aV_num h, aC_is h]
  exact ⟨rfl, rfl, (num_bd hx).1, (num_bd hx).2, (num_bd hy).1, (num_bd hy).2, hx, hy, hA, c0, c1, b.1, b.2.1⟩

end Go.Proofs.YtkahmepoblhbnaaDoor.Pl
