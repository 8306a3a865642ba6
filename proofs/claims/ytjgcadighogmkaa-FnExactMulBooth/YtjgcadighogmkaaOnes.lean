/- How many bits are 1, and the bits the other way round: plain arithmetic; no Go text is spoken of here. -/
import Derived.Test.YtjgcadighogmkaaShf
namespace Go.Proofs.Ytjgcadighogmkaa.Pl
set_option linter.unusedVariables false

def pop : Nat → Int → Int
  | 0, _ => 0
  | n + 1, v => v % 2 + pop n (v / 2)
def rv : Nat → Int → Int
  | 0, _ => 0
  | n + 1, v => rv n v * 2 + v / 2 ^ n % 2
def onesV (s v : Int) : Int := if okv s v = true then pop 16 v else 0
def revV (s v : Int) : Int := if okv s v = true then rv (8 * s).toNat v else 0

theorem pop_bd : ∀ (n : Nat) (v : Int), 0 ≤ pop n v ∧ pop n v ≤ n
  | 0, _ => by simp [pop]
  | n + 1, v => by
    have := pop_bd n (v / 2)
    simp only [pop]
    omega
theorem pop_zero : ∀ n : Nat, pop n 0 = 0
  | 0 => rfl
  | n + 1 => by
    have := pop_zero n
    simp only [pop]
    rw [show (0 : Int) / 2 = 0 from rfl, this]; rfl
theorem pow_pos (n : Nat) : (0 : Int) < 2 ^ n := Int.pow_pos (by decide)
theorem pop_more : ∀ (n : Nat) {v : Int}, 0 ≤ v → v < 2 ^ n → pop (n + 1) v = pop n v
  | 0, v, h0, h1 => by
    obtain rfl : v = 0 := by simp at h1; omega
    rfl
  | n + 1, v, h0, h1 => by
    rw [Int.pow_succ] at h1
    have := pop_more n (v := v / 2) (by omega) (by omega)
    rw [pop, this, pop]
theorem pop_step {v : Int} (h0 : 0 ≤ v) (h1 : v < 65536) : pop 16 v = v % 2 + pop 16 (v / 2) := by
  rw [pop_more 15 (v := v / 2) (by omega) (by omega)]
  rfl
/-- a bit above all others -/
theorem pop_top : ∀ (m : Nat) {n : Nat} {u : Int}, m < n → 0 ≤ u → u < 2 ^ m → pop n (u + 2 ^ m) = pop n u + 1
  | 0, n, u, hm, h0, h1 => by
    obtain rfl : u = 0 := by simp at h1; omega
    obtain ⟨j, rfl⟩ : ∃ j, n = j + 1 := ⟨n - 1, by omega⟩
    rw [pop_zero]
    show (0 + 1) % 2 + pop j ((0 + 1) / 2) = 0 + 1
    rw [show ((0 : Int) + 1) / 2 = 0 from rfl, pop_zero]; rfl
  | m + 1, n, u, hm, h0, h1 => by
    obtain ⟨j, rfl⟩ : ∃ j, n = j + 1 := ⟨n - 1, by omega⟩
    have hp := pow_pos m
    rw [Int.pow_succ] at h1 ⊢
    have ih := pop_top m (n := j) (u := u / 2) (by omega) (by omega) (by omega)
    rw [pop, pop, show (u + 2 ^ m * 2) % 2 = u % 2 from by omega, show (u + 2 ^ m * 2) / 2 = u / 2 + 2 ^ m from by omega, ih]
    omega

/-- one place turned: as many bits as before, the kept bit counted -/
theorem pop_turn {k s : Int} {p : Int × Int} (h : Fit s p) (k0 : 4 ≤ k) (k1 : k ≤ 7) : pop 16 (stp k s p).1 + (if k ≤ 5 then 0 else (stp k s p).2) = pop 16 p.1 + (if k ≤ 5 then 0 else p.2) := by
  obtain ⟨hs, v0, v1, x0, x1⟩ := h
  obtain ⟨v, x⟩ := p
  simp only at v0 v1 x0 x1
  -- the upper bit, and the lower ones
  have top_cut : ∀ {q u : Int} (m : Nat), m < 16 → (q = 0 ∨ q = 1) → 0 ≤ u → u < 2 ^ m → pop 16 (u + q * 2 ^ m) = pop 16 u + q := by
    intro q u m hm hq u0 u1
    rcases hq with rfl | rfl
    · simp
    · rw [Int.one_mul]; exact pop_top m hm u0 u1
  have low_in : ∀ {q u : Int}, (q = 0 ∨ q = 1) → 0 ≤ u → u < 32768 → pop 16 (u * 2 + q) = q + pop 16 u := by
    intro q u hq u0 u1
    rw [pop_step (v := u * 2 + q) (by omega) (by omega), show (u * 2 + q) % 2 = q from by omega, show (u * 2 + q) / 2 = u from by omega]
  have hb := hi_bd s v
  have hk : k = 4 ∨ k = 5 ∨ k = 6 ∨ k = 7 := by omega
  rcases top12 hs with ⟨rfl, e⟩ | ⟨rfl, e⟩
  · rw [e] at v1
    have ev : v = v % 128 + hi 1 v * 2 ^ 7 := by unfold hi; rw [e]; split <;> omega
    have e1 : v * 2 % 256 = v % 128 * 2 := by omega
    have c1 := top_cut (q := hi 1 v) (u := v % 128) 7 (by decide) (by omega) (by omega) (by omega)
    rw [← ev] at c1
    have c2 := pop_step v0 (show v < 65536 by omega)
    rcases hk with rfl | rfl | rfl | rfl
    · have c3 := low_in (q := hi 1 v) (u := v % 128) (by omega) (by omega) (by omega)
      simp only [stp, nv, nx, inn, fell, e, e1, Int.reduceMod, Int.reduceEq, Int.reduceLE, if_true, if_false, or_false]
      omega
    · have c3 := top_cut (q := v % 2) (u := v / 2) 7 (by decide) (by omega) (by omega) (by omega)
      simp only [stp, nv, nx, inn, fell, e, Int.reduceMod, Int.reduceEq, Int.reduceLE, Int.reduceDiv, Int.reducePow, if_true, if_false, or_true] at c3 ⊢
      omega
    · have c3 := low_in (q := x) (u := v % 128) (by omega) (by omega) (by omega)
      simp only [stp, nv, nx, inn, fell, e, e1, Int.reduceMod, Int.reduceEq, Int.reduceLE, if_true, if_false, or_self]
      omega
    · have c3 := top_cut (q := x) (u := v / 2) 7 (by decide) (by omega) (by omega) (by omega)
      simp only [stp, nv, nx, inn, fell, e, Int.reduceMod, Int.reduceEq, Int.reduceLE, Int.reduceDiv, Int.reducePow, if_true, if_false, or_self] at c3 ⊢
      omega
  · rw [e] at v1
    have ev : v = v % 32768 + hi 2 v * 2 ^ 15 := by unfold hi; rw [e]; split <;> omega
    have e1 : v * 2 % 65536 = v % 32768 * 2 := by omega
    have c1 := top_cut (q := hi 2 v) (u := v % 32768) 15 (by decide) (by omega) (by omega) (by omega)
    rw [← ev] at c1
    have c2 := pop_step v0 (show v < 65536 by omega)
    rcases hk with rfl | rfl | rfl | rfl
    · have c3 := low_in (q := hi 2 v) (u := v % 32768) (by omega) (by omega) (by omega)
      simp only [stp, nv, nx, inn, fell, e, e1, Int.reduceMod, Int.reduceEq, Int.reduceLE, if_true, if_false, or_false]
      omega
    · have c3 := top_cut (q := v % 2) (u := v / 2) 15 (by decide) (by omega) (by omega) (by omega)
      simp only [stp, nv, nx, inn, fell, e, Int.reduceMod, Int.reduceEq, Int.reduceLE, Int.reduceDiv, Int.reducePow, if_true, if_false, or_true] at c3 ⊢
      omega
    · have c3 := low_in (q := x) (u := v % 32768) (by omega) (by omega) (by omega)
      simp only [stp, nv, nx, inn, fell, e, e1, Int.reduceMod, Int.reduceEq, Int.reduceLE, if_true, if_false, or_self]
      omega
    · have c3 := top_cut (q := x) (u := v / 2) 15 (by decide) (by omega) (by omega) (by omega)
      simp only [stp, nv, nx, inn, fell, e, Int.reduceMod, Int.reduceEq, Int.reduceLE, Int.reduceDiv, Int.reducePow, if_true, if_false, or_self] at c3 ⊢
      omega
theorem pop_turned {k s : Int} {p : Int × Int} (h : Fit s p) (k0 : 4 ≤ k) (k1 : k ≤ 7) (n : Nat) : pop 16 (st k s p n).1 + (if k ≤ 5 then 0 else (st k s p n).2) = pop 16 p.1 + (if k ≤ 5 then 0 else p.2) := by
  induction n with
  | zero => rfl
  | succ n ih => rw [← ih]; exact pop_turn (st_fit h n) k0 k1

/-! ### the other way round -/
theorem rv_bd : ∀ (n : Nat) (v : Int), 0 ≤ rv n v ∧ rv n v < 2 ^ n
  | 0, _ => by simp [rv]
  | n + 1, v => by
    have := rv_bd n v
    rw [Int.pow_succ, rv]
    omega
theorem pow_div (v : Int) (n : Nat) : v / 2 / 2 ^ n = v / 2 ^ (n + 1) := by
  rw [Int.pow_succ, Int.mul_comm, Int.ediv_ediv_of_nonneg (by decide)]
theorem rv_front : ∀ (n : Nat) (v : Int), rv (n + 1) v = v % 2 * 2 ^ n + rv n (v / 2)
  | 0, v => by simp [rv]
  | n + 1, v => by
    rw [rv, rv_front n v, rv, pow_div, Int.pow_succ, ← Int.mul_assoc]
    omega
theorem mod_next (v : Int) (n : Nat) : v % 2 ^ (n + 1) = v / 2 ^ n % 2 * 2 ^ n + v % 2 ^ n := by
  have hd : v / 2 ^ n / 2 = v / (2 ^ n * 2) := by rw [Int.ediv_ediv_of_nonneg (Int.le_of_lt (pow_pos n))]
  have h1 := Int.mul_ediv_add_emod v (2 ^ n)
  have h2 := Int.mul_ediv_add_emod v (2 ^ n * 2)
  have h3 : v / 2 ^ n = 2 * (v / 2 ^ n / 2) + v / 2 ^ n % 2 := by omega
  rw [Int.pow_succ]
  rw [← hd, Int.mul_assoc] at h2
  have h4 : (2 : Int) ^ n * (v / 2 ^ n) = 2 ^ n * (2 * (v / 2 ^ n / 2)) + 2 ^ n * (v / 2 ^ n % 2) := by
    rw [← Int.mul_add, ← h3]
  rw [Int.mul_comm (v / 2 ^ n % 2) (2 ^ n)]
  omega
theorem rv_rv : ∀ (n : Nat) (v : Int), rv n (rv n v) = v % 2 ^ n
  | 0, v => by simp [rv]
  | n + 1, v => by
    have b : 0 ≤ v / 2 ^ n % 2 ∧ v / 2 ^ n % 2 ≤ 1 := by omega
    rw [rv_front, rv, mod_next]
    rw [show (rv n v * 2 + v / 2 ^ n % 2) % 2 = v / 2 ^ n % 2 from by omega, show (rv n v * 2 + v / 2 ^ n % 2) / 2 = rv n v from by omega, rv_rv n v]
theorem pop_back : ∀ (n : Nat) (v : Int), pop (n + 1) v = pop n v + v / 2 ^ n % 2
  | 0, v => by simp [pop]
  | n + 1, v => by
    rw [pop, pop_back n (v / 2), pow_div, pop]
    omega
theorem pop_rv : ∀ (n : Nat) (v : Int), pop n (rv n v) = pop n v
  | 0, v => rfl
  | n + 1, v => by
    rw [pop_back n v, pop, rv, show (rv n v * 2 + v / 2 ^ n % 2) % 2 = v / 2 ^ n % 2 from by omega, show (rv n v * 2 + v / 2 ^ n % 2) / 2 = rv n v from by omega, pop_rv n v]
    omega
/-- in 16 places as in so many as the value has -/
theorem pop_size {s v : Int} (h : okv s v = true) : pop 16 v = pop (8 * s).toNat v := by
  have ht := top_ok h
  rcases ht with ⟨⟨rfl, e⟩ | ⟨rfl, e⟩, v0, v1⟩
  · rw [e] at v1
    rw [pop_more 15 v0 (by omega), pop_more 14 v0 (by omega), pop_more 13 v0 (by omega), pop_more 12 v0 (by omega), pop_more 11 v0 (by omega), pop_more 10 v0 (by omega), pop_more 9 v0 (by omega), pop_more 8 v0 (by omega)]
    rfl
  · rfl
theorem rev_ok {s v : Int} (h : okv s v = true) : okv s (rv (8 * s).toNat v) = true ∧ rv (8 * s).toNat (rv (8 * s).toNat v) = v ∧ pop 16 (rv (8 * s).toNat v) = pop 16 v := by
  have ht := top_ok h
  have hb := rv_bd (8 * s).toNat v
  have hr := rv_rv (8 * s).toNat v
  have hk : okv s (rv (8 * s).toNat v) = true := by
    rcases ht with ⟨⟨rfl, e⟩ | ⟨rfl, e⟩, v0, v1⟩
    · exact okv_mk1 hb.1 hb.2
    · exact okv_mk2 hb.1 hb.2
  refine ⟨hk, ?_, ?_⟩
  · rw [hr]
    rcases ht with ⟨⟨rfl, e⟩ | ⟨rfl, e⟩, v0, v1⟩
    · rw [e] at v1; show v % 256 = v; omega
    · rw [e] at v1; show v % 65536 = v; omega
  · rw [pop_size hk, pop_size h, pop_rv]

/-! ### so many places at once -/
theorem st_shl {k s : Int} (hk : k = 0 ∨ k = 2) {v x : Int} (h : Fit s (v, x)) (n : Nat) : (st k s (v, x) n).1 = v * 2 ^ n % top s := by
  have ht := top12 h.1
  induction n with
  | zero =>
    obtain ⟨_, v0, v1, _, _⟩ := h
    simp only at v0 v1
    show v = v * 1 % top s
    rcases ht with ⟨rfl, e⟩ | ⟨rfl, e⟩ <;> rw [e] at v1 ⊢ <;> omega
  | succ n ih =>
    have e2 : (st k s (v, x) (n + 1)).1 = (st k s (v, x) n).1 * 2 % top s := by
      show nv k s (st k s (v, x) n).2 (st k s (v, x) n).1 = _
      rcases hk with rfl | rfl <;> simp [nv, inn]
    rw [e2, ih, Int.pow_succ, ← Int.mul_assoc]
    rcases ht with ⟨rfl, e⟩ | ⟨rfl, e⟩ <;> rw [e] <;> omega
theorem st_lsr {s : Int} {v x : Int} (h : Fit s (v, x)) (n : Nat) : (st 3 s (v, x) n).1 = v / 2 ^ n := by
  induction n with
  | zero => show v = v / 1; omega
  | succ n ih =>
    have e2 : (st 3 s (v, x) (n + 1)).1 = (st 3 s (v, x) n).1 / 2 := by
      show nv 3 s (st 3 s (v, x) n).2 (st 3 s (v, x) n).1 = _
      simp [nv, inn]
    rw [e2, ih, Int.pow_succ, Int.ediv_ediv_of_nonneg (Int.le_of_lt (pow_pos n))]
theorem st_asr {s : Int} {v x : Int} (h : Fit s (v, x)) (n : Nat) : sg s (st 1 s (v, x) n).1 = sg s v / 2 ^ n := by
  induction n with
  | zero => show sg s v = sg s v / 1; omega
  | succ n ih =>
    obtain ⟨hs, u0, u1, _, _⟩ := st_fit (k := 1) h n
    have e2 : sg s (st 1 s (v, x) (n + 1)).1 = sg s (st 1 s (v, x) n).1 / 2 := by
      show sg s (nv 1 s (st 1 s (v, x) n).2 (st 1 s (v, x) n).1) = _
      generalize (st 1 s (v, x) n).1 = u at u0 u1
      rcases top12 hs with ⟨rfl, e⟩ | ⟨rfl, e⟩
      all_goals
        rw [e] at u1
        simp only [nv, inn, hi, sg, e, Int.reduceMod, Int.reduceEq, Int.reduceDiv, if_true, if_false]
        repeat' split
        all_goals omega
    rw [e2, ih, Int.pow_succ, Int.ediv_ediv_of_nonneg (Int.le_of_lt (pow_pos n))]

end Go.Proofs.Ytjgcadighogmkaa.Pl
