/- Products and quotients in numbers (Booth; Robertson): plain arithmetic; no Go text is spoken of here. -/
import Derived.Test.YtjgcadighogmkaaPlain
namespace Go.Proofs.Ytjgcadighogmkaa.Pl
set_option linter.unusedVariables false
set_option linter.unusedSimpArgs false
def wOk (v : Int) : Bool := decide (0 ≤ v) && decide (v ≤ 65535)
theorem wOk_ok {v : Int} (h : wOk v = true) : 0 ≤ v ∧ v ≤ 65535 := by simpa [wOk] using h
/-- two to a power -/
def p2 (k : Nat) : Int := (2 : Int) ^ k
theorem p2_zero : p2 0 = 1 := rfl
theorem p2_succ (k : Nat) : p2 (k + 1) = p2 k * 2 := by unfold p2; rw [Int.pow_succ]
theorem p2_pos (k : Nat) : 0 < p2 k := by
  induction k with
  | zero => decide
  | succ k ih => rw [p2_succ]; omega
theorem p2_16 : p2 16 = 65536 := by decide
theorem p2_le {k : Nat} (h : k ≤ 16) : p2 k ≤ 65536 := by
  have : ∀ j : Nat, j ≤ 16 → p2 j ≤ 65536 := by decide +kernel
  exact this k h
def wbit (v : Int) (k : Nat) : Int := v / p2 k % 2
theorem wbit_bd (v : Int) (k : Nat) : wbit v k = 0 ∨ wbit v k = 1 := by unfold wbit; omega
/-- the lowest bits, one more -/
theorem mod_succ (v : Int) (k : Nat) : v % p2 (k + 1) = v % p2 k + wbit v k * p2 k := by
  have hp := p2_pos k
  rw [p2_succ]
  unfold wbit
  have h1 := Int.mul_ediv_add_emod v (p2 k)
  have h2 := Int.mul_ediv_add_emod (v / p2 k) 2
  have h3 := Int.emod_nonneg v (show p2 k ≠ 0 by omega)
  have h4 := Int.emod_lt_of_pos v hp
  have h5 : 0 ≤ v / p2 k % 2 ∧ v / p2 k % 2 < 2 := by omega
  obtain ⟨q, hq⟩ : ∃ q, v / p2 k / 2 = q := ⟨_, rfl⟩
  obtain ⟨b, hb⟩ : ∃ b, v / p2 k % 2 = b := ⟨_, rfl⟩
  obtain ⟨r, hr⟩ : ∃ r, v % p2 k = r := ⟨_, rfl⟩
  rw [hq, hb] at h2
  rw [← h2, hr] at h1
  rw [hr] at h3 h4
  rw [hb] at h5
  have e : v = (r + b * p2 k) + (p2 k * 2) * q := by rw [← h1, Int.mul_add, Int.mul_comm b (p2 k), Int.mul_assoc]; omega
  have hb2 : b * p2 k ≤ p2 k := by
    rcases (show b = 0 ∨ b = 1 by omega) with rfl | rfl <;> omega
  have hb3 : 0 ≤ b * p2 k := by
    rcases (show b = 0 ∨ b = 1 by omega) with rfl | rfl <;> omega
  have e2 : v % (p2 k * 2) = r + b * p2 k := by
    rw [e, Int.add_mul_emod_self_left]
    exact Int.emod_eq_of_lt (by omega) (by omega)
  rw [e2, hr, hb]
/-- the bit ahead of a place -/
def ahead (v : Int) : Nat → Int
  | 0 => 0
  | k + 1 => wbit v k
def bdig (v : Int) (k : Nat) : Int := ahead v k - wbit v k
def booth (v : Int) (n : Nat) : List Int := (List.range n).map (bdig v)
theorem booth_snoc (v : Int) (n : Nat) : booth v (n + 1) = booth v n ++ [bdig v n] := by simp [booth, List.range_succ]
theorem booth_len (v : Int) (n : Nat) : (booth v n).length = n := by simp [booth]
theorem bdig_bd (v : Int) (k : Nat) : -1 ≤ bdig v k ∧ bdig v k ≤ 1 := by
  unfold bdig
  have h1 := wbit_bd v k
  have h2 : ahead v k = 0 ∨ ahead v k = 1 := by
    cases k with
    | zero => exact .inl rfl
    | succ k => exact wbit_bd v k
  omega
/-- the number that the first digits tell -/
def bsum (v : Int) : Nat → Int
  | 0 => 0
  | k + 1 => bsum v k + bdig v k * p2 k
theorem bsum_is (v : Int) (n : Nat) : bsum v n = v % p2 n - ahead v n * p2 n := by
  induction n with
  | zero => simp [bsum, ahead, p2_zero, Int.emod_one]
  | succ n ih =>
    rw [bsum, ih, mod_succ, bdig]
    show _ = _ - wbit v n * p2 (n + 1)
    rw [p2_succ, Int.sub_mul, ← Int.mul_assoc]
    omega
theorem bsum_16 {v : Int} (h : wOk v = true) : bsum v 16 = sg 2 v := by
  obtain ⟨h0, h1⟩ := wOk_ok h
  rw [bsum_is, p2_16]
  show v % 65536 - wbit v 15 * 65536 = _
  have : wbit v 15 = v / 32768 % 2 := rfl
  rw [this]
  unfold sg top
  simp
  split <;> omega
theorem bsum_bd (v : Int) (n : Nat) : -(p2 n) ≤ bsum v n ∧ bsum v n < p2 n := by
  rw [bsum_is]
  have hp := p2_pos n
  have h3 := Int.emod_nonneg v (show p2 n ≠ 0 by omega)
  have h4 := Int.emod_lt_of_pos v hp
  have h2 : ahead v n = 0 ∨ ahead v n = 1 := by
    cases n with
    | zero => exact .inl rfl
    | succ k => exact wbit_bd v k
  rcases h2 with e | e <;> rw [e] <;> omega
/-- no two digits alike one behind the other but 0: what the last one that was not 0 tells of the bit ahead -/
def lastD (v : Int) : Nat → Int
  | 0 => 0
  | k + 1 => if bdig v k = 0 then lastD v k else bdig v k
theorem lastD_is (v : Int) (n : Nat) : (lastD v n = -1 ∧ ahead v n = 1) ∨ ((lastD v n = 0 ∨ lastD v n = 1) ∧ ahead v n = 0) := by
  induction n with
  | zero => exact .inr ⟨.inl rfl, rfl⟩
  | succ n ih =>
    have hw := wbit_bd v n
    have hb : bdig v n = ahead v n - wbit v n := rfl
    have ha : ahead v (n + 1) = wbit v n := rfl
    rw [ha]
    unfold lastD
    split <;> omega
theorem last_ne (v : Int) (n : Nat) (h : bdig v n ≠ 0) : bdig v n ≠ lastD v n := by
  have hw := wbit_bd v n
  have hb : bdig v n = ahead v n - wbit v n := rfl
  have := lastD_is v n
  omega
/-- the two words of a number -/
def hiW (p : Int) : Int := p / 65536 % 65536
def loW (p : Int) : Int := p % 65536
theorem low_same {a b : Int} (ha : wOk a = true) (hb : wOk b = true) : loW (sg 2 a * sg 2 b) = loW (a * b) := by
  have h : ∀ x : Int, wOk x = true → ∃ k : Int, sg 2 x = x + 65536 * k := by
    intro x hx
    unfold sg top
    simp
    split
    · exact ⟨-1, by omega⟩
    · exact ⟨0, by omega⟩
  obtain ⟨k, hk⟩ := h a ha
  obtain ⟨l, hl⟩ := h b hb
  unfold loW
  rw [hk, hl]
  have : (a + 65536 * k) * (b + 65536 * l) = a * b + 65536 * (a * l + k * b + 65536 * (k * l)) := by
    simp only [Int.add_mul, Int.mul_add, Int.mul_assoc, Int.mul_left_comm, Int.mul_comm, Int.add_assoc, Int.add_left_comm, Int.add_comm]
  rw [this, Int.add_mul_emod_self_left]
end Go.Proofs.Ytjgcadighogmkaa.Pl
