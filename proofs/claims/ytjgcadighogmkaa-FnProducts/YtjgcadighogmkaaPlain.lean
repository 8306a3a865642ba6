/- The plain arithmetic beneath the walks of chapter 1: what masks, values with a sign and flags are, as functions on whole numbers. No Go text is spoken of here. -/
import Derived.WalkKit
namespace Go.Proofs.Ytjgcadighogmkaa.Pl

theorem and255 (a : Int) : bits .and .i64 a 255 = a % 256 := by
  show IntKind.i64.wrap ((BitVec.ofInt 64 a &&& BitVec.ofInt 64 255).toNat : Int) = _
  rw [BitVec.toNat_and, BitVec.toNat_ofInt, show (BitVec.ofInt 64 255).toNat = 2 ^ 8 - 1 from by decide, Nat.and_two_pow_sub_one_eq_mod, IntKind.wrap_i64]
  omega
theorem and65535 (a : Int) : bits .and .i64 a 65535 = a % 65536 := by
  show IntKind.i64.wrap ((BitVec.ofInt 64 a &&& BitVec.ofInt 64 65535).toNat : Int) = _
  rw [BitVec.toNat_and, BitVec.toNat_ofInt, show (BitVec.ofInt 64 65535).toNat = 2 ^ 16 - 1 from by decide, Nat.and_two_pow_sub_one_eq_mod, IntKind.wrap_i64]
  omega
theorem and1 (a : Int) : bits .and .i64 a 1 = a % 2 := by
  show IntKind.i64.wrap ((BitVec.ofInt 64 a &&& BitVec.ofInt 64 1).toNat : Int) = _
  rw [BitVec.toNat_and, BitVec.toNat_ofInt, show (BitVec.ofInt 64 1).toNat = 2 ^ 1 - 1 from by decide, Nat.and_two_pow_sub_one_eq_mod, IntKind.wrap_i64]
  omega

/-- how many values a size has -/
def top (s : Int) : Int := if s = 1 then 256 else 65536
/-- a value of a size -/
def okv (s v : Int) : Bool := (decide (s = 1) || decide (s = 2)) && (decide (0 ≤ v) && decide (v < top s))
/-- a value as a number with a sign -/
def sg (s v : Int) : Int := if top s / 2 ≤ v then v - top s else v
/-- a flag where something is so -/
def fl (b : Bool) (f : Int) : Int := if b then f else 0
/-- the four flags of a result together -/
def four (c v z n : Bool) : Int := fl c 17 + fl v 2 + fl z 4 + fl n 8
def sgnV (s v : Int) : Int := if okv s v = true then sg s v else 0
def bit (x : Int) : Bool := decide (0 ≤ x) && decide (x ≤ 1)
def two (s x a b : Int) : Bool := okv s a && (okv s b && bit x)
def flags (f : Int) : Bool := decide (0 ≤ f) && decide (f ≤ 31)
/-- what is kept of a result, and its flags: of the result without signs and of that with signs -/
def keptF (s plain signed : Int) : Int := four (plain % top s != plain) (sg s (plain % top s) != signed) (plain % top s == 0) (decide (sg s (plain % top s) < 0))
def addV (s x a b : Int) : Int := if two s x a b = true then (a + b + x) % top s else 0
def addF (s x a b : Int) : Int := if two s x a b = true then keptF s (a + b + x) (sg s a + sg s b + x) else 0
def subV (s x a b : Int) : Int := if two s x a b = true then (a - b - x) % top s else 0
def subF (s x a b : Int) : Int := if two s x a b = true then keptF s (a - b - x) (sg s a - sg s b - x) else 0

theorem fl_or (c v z n : Bool) : bits .or .i64 (bits .or .i64 (bits .or .i64 (fl c 17) (fl v 2)) (fl z 4)) (fl n 8) = four c v z n := by
  cases c <;> cases v <;> cases z <;> cases n <;> decide
theorem fl_or2 (c v z n : Bool) : bits .or .i64 (bits .or .i64 (fl c 17) (fl v 2)) (bits .or .i64 (fl z 4) (fl n 8)) = four c v z n := by
  cases c <;> cases v <;> cases z <;> cases n <;> decide
theorem four_bd (c v z n : Bool) : 0 ≤ four c v z n ∧ four c v z n ≤ 31 := by
  cases c <;> cases v <;> cases z <;> cases n <;> decide
theorem top_ok {s v : Int} (h : okv s v = true) : (s = 1 ∧ top s = 256 ∨ s = 2 ∧ top s = 65536) ∧ 0 ≤ v ∧ v < top s := by
  simp [okv] at h
  obtain ⟨h1, h2, h3⟩ := h
  refine ⟨?_, h2, h3⟩
  rcases h1 with rfl | rfl
  · exact .inl ⟨rfl, rfl⟩
  · exact .inr ⟨rfl, rfl⟩

theorem andNot16 (t : Int) (h0 : 0 ≤ t) (h1 : t ≤ 31) : bits .andNot .i64 t 16 = bits .and .i64 t 15 := by
  obtain ⟨n, rfl⟩ := Int.eq_ofNat_of_zero_le h0
  have k : ∀ m : Fin 32, bits .andNot .i64 ((m.val : Nat) : Int) 16 = bits .and .i64 ((m.val : Nat) : Int) 15 := by decide
  exact k ⟨n, by omega⟩

theorem sgnV_ok {s v : Int} (h : okv s v = true) : sgnV s v = sg s v := by simp [sgnV, h]
theorem okv_mk1 {v : Int} (h0 : 0 ≤ v) (h1 : v < 256) : okv 1 v = true := by simp [okv, top, h0, h1]
theorem okv_mk2 {v : Int} (h0 : 0 ≤ v) (h1 : v < 65536) : okv 2 v = true := by simp [okv, top, h0, h1]
theorem sg_bd1 {v : Int} (h0 : 0 ≤ v) (h1 : v < 256) : -128 ≤ sg 1 v ∧ sg 1 v ≤ 127 := by simp [sg, top]; omega
theorem sg_bd2 {v : Int} (h0 : 0 ≤ v) (h1 : v < 65536) : -32768 ≤ sg 2 v ∧ sg 2 v ≤ 32767 := by simp [sg, top]; omega
theorem two_ok {s x a b : Int} (h : two s x a b = true) : okv s a = true ∧ okv s b = true ∧ bit x = true := by
  simpa [two] using h
theorem bit_ok {x : Int} (h : bit x = true) : 0 ≤ x ∧ x ≤ 1 := by simpa [bit] using h
theorem flags_ok {x : Int} (h : flags x = true) : 0 ≤ x ∧ x ≤ 31 := by simpa [flags] using h
theorem kept1 (p q : Int) : bits .or .i64 (bits .or .i64 (bits .or .i64 (fl (p % 256 != p) 17) (fl (sgnV 1 (p % 256) != q) 2)) (fl (p % 256 == 0) 4)) (fl (decide (sgnV 1 (p % 256) < 0)) 8) = keptF 1 p q := by
  rw [fl_or, sgnV_ok (okv_mk1 (by omega) (by omega))]; rfl
theorem kept2 (p q : Int) : bits .or .i64 (bits .or .i64 (bits .or .i64 (fl (p % 65536 != p) 17) (fl (sgnV 2 (p % 65536) != q) 2)) (fl (p % 65536 == 0) 4)) (fl (decide (sgnV 2 (p % 65536) < 0)) 8) = keptF 2 p q := by
  rw [fl_or, sgnV_ok (okv_mk2 (by omega) (by omega))]; rfl

theorem bne_symm (a b : Int) : (a != b) = (b != a) := by rw [Bool.eq_iff_iff]; simp; omega
theorem neg1 {v : Int} (h0 : 0 ≤ v) (h1 : v < 256) : decide (128 ≤ v) = decide (sg 1 v < 0) := by
  rw [Bool.eq_iff_iff]; simp [sg, top]; omega
theorem neg2 {v : Int} (h0 : 0 ≤ v) (h1 : v < 65536) : decide (32768 ≤ v) = decide (sg 2 v < 0) := by
  rw [Bool.eq_iff_iff]; simp [sg, top]; omega
theorem skept1 (p q : Int) : bits .or .i64 (bits .or .i64 (fl (p != p % 256) 17) (fl (q != sg 1 (p % 256)) 2)) (bits .or .i64 (fl (p % 256 == 0) 4) (fl (decide (128 ≤ p % 256)) 8)) = keptF 1 p q := by
  rw [fl_or2, neg1 (by omega) (by omega), bne_symm p, bne_symm q]; rfl
theorem skept2 (p q : Int) : bits .or .i64 (bits .or .i64 (fl (p != p % 65536) 17) (fl (q != sg 2 (p % 65536)) 2)) (bits .or .i64 (fl (p % 65536 == 0) 4) (fl (decide (32768 ≤ p % 65536)) 8)) = keptF 2 p q := by
  rw [fl_or2, neg2 (by omega) (by omega), bne_symm p, bne_symm q]; rfl
theorem below1 {p : Int} (h : p < 256) : decide (p < 0) = (p != p % 256) := by rw [Bool.eq_iff_iff]; simp; omega
theorem below2 {p : Int} (h : p < 65536) : decide (p < 0) = (p != p % 65536) := by rw [Bool.eq_iff_iff]; simp; omega
theorem sbelow1 (p q : Int) (h : p < 256) : bits .or .i64 (bits .or .i64 (fl (decide (p < 0)) 17) (fl (q != sg 1 (p % 256)) 2)) (bits .or .i64 (fl (p % 256 == 0) 4) (fl (decide (128 ≤ p % 256)) 8)) = keptF 1 p q := by
  rw [below1 h, skept1]
theorem sbelow2 (p q : Int) (h : p < 65536) : bits .or .i64 (bits .or .i64 (fl (decide (p < 0)) 17) (fl (q != sg 2 (p % 65536)) 2)) (bits .or .i64 (fl (p % 65536 == 0) 4) (fl (decide (32768 ≤ p % 65536)) 8)) = keptF 2 p q := by
  rw [below2 h, skept2]

theorem keptF_bd (s p q : Int) : 0 ≤ keptF s p q ∧ keptF s p q ≤ 31 := four_bd _ _ _ _
theorem subF_bd (s x a b : Int) : 0 ≤ subF s x a b ∧ subF s x a b ≤ 31 := by
  unfold subF; split
  · exact keptF_bd _ _ _
  · omega
theorem addF_bd (s x a b : Int) : 0 ≤ addF s x a b ∧ addF s x a b ≤ 31 := by
  unfold addF; split
  · exact keptF_bd _ _ _
  · omega
theorem or_comm (a b : Int) : bits .or .i64 a b = bits .or .i64 b a := by
  show IntKind.i64.wrap ((BitVec.ofInt 64 a ||| BitVec.ofInt 64 b).toNat : Int) = IntKind.i64.wrap ((BitVec.ofInt 64 b ||| BitVec.ofInt 64 a).toNat : Int)
  rw [BitVec.or_comm]
def cmpF (s f a b : Int) : Int := if (two s 0 a b && flags f) = true then bits .or .i64 (bits .and .i64 (subF s 0 a b) 15) (bits .and .i64 f 16) else 0
def logF (s f v : Int) : Int := if (okv s v && flags f) = true then bits .or .i64 (bits .and .i64 f 16) (bits .or .i64 (fl (v == 0) 4) (fl (decide (sg s v < 0)) 8)) else 0
def extV (v : Int) : Int := if okv 1 v = true then sg 1 v % 65536 else 0
def swpV (v : Int) : Int := if okv 2 v = true then v % 256 * 256 + v / 256 else 0
theorem keptSelf {s v : Int} (h : okv s v = true) : keptF s v (sg s v) = bits .or .i64 (fl (v == 0) 4) (fl (decide (sg s v < 0)) 8) := by
  obtain ⟨hs, h0, h1⟩ := top_ok h
  have e : v % top s = v := Int.emod_eq_of_lt h0 h1
  unfold keptF
  rw [e, bne_self_eq_false, bne_self_eq_false]
  cases (v == 0) <;> cases decide (sg s v < 0) <;> decide
theorem wraps_i64 (n : Int) (h₀ : 0 ≤ n) (h₁ : n < 2 ^ 62) : IntKind.i64.wrap n = n := by rw [IntKind.wrap_i64]; omega
theorem swap_or (v : Int) (h0 : 0 ≤ v) (h1 : v < 65536) : bits .or .i64 (v / 256) (v % 256 * 256) = v % 256 * 256 + v / 256 := by
  rw [or_comm]
  exact bits_join .i64 62 (by decide) wraps_i64 8 (v % 256 * 256) (v / 256) (by omega) (by omega) (by omega) (by omega) (by omega) (by omega)

end Go.Proofs.Ytjgcadighogmkaa.Pl
