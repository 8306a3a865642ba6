/- Sums and differences of values of a size are those of numbers, without a sign and with one, and each flag tells what it says: plain arithmetic; no Go text is spoken of here. -/
import Derived.Test.YtceipklpbnmggaaPlain
namespace Go.Proofs.Ytceipklpbnmggaa.Pl

theorem four_c (c v z n : Bool) : (bits .and .i64 (four c v z n) 1 != 0) = c := by cases c <;> cases v <;> cases z <;> cases n <;> decide
theorem four_v (c v z n : Bool) : (bits .and .i64 (four c v z n) 2 != 0) = v := by cases c <;> cases v <;> cases z <;> cases n <;> decide
theorem four_z (c v z n : Bool) : (bits .and .i64 (four c v z n) 4 != 0) = z := by cases c <;> cases v <;> cases z <;> cases n <;> decide
theorem four_n (c v z n : Bool) : (bits .and .i64 (four c v z n) 8 != 0) = n := by cases c <;> cases v <;> cases z <;> cases n <;> decide
theorem four_x (c v z n : Bool) : bits .and .i64 (four c v z n) 1 = four c v z n / 16 := by cases c <;> cases v <;> cases z <;> cases n <;> decide

theorem top_bd {s v : Int} (h : okv s v = true) : 256 ≤ top s ∧ top s ≤ 65536 := by have := top_ok h; omega
theorem sgnV_bd {s v : Int} (h : okv s v = true) : -32768 ≤ sgnV s v ∧ sgnV s v ≤ 32767 := by
  rw [sgnV_ok h]
  obtain ⟨hs, h0, h1⟩ := top_ok h
  rcases hs with ⟨rfl, _⟩ | ⟨rfl, _⟩
  · have := sg_bd1 h0 h1; omega
  · exact sg_bd2 h0 h1
theorem okv_mod {s v : Int} (p : Int) (h : okv s v = true) : okv s (p % top s) = true := by
  obtain ⟨hs, h0, h1⟩ := top_ok h
  rcases hs with ⟨rfl, e⟩ | ⟨rfl, e⟩
  · rw [e]; exact okv_mk1 (by omega) (by omega)
  · rw [e]; exact okv_mk2 (by omega) (by omega)

theorem addV_is {s x a b : Int} (h : two s x a b = true) : addV s x a b = (a + b + x) % top s := by simp [addV, h]
theorem subV_is {s x a b : Int} (h : two s x a b = true) : subV s x a b = (a - b - x) % top s := by simp [subV, h]
theorem addF_is {s x a b : Int} (h : two s x a b = true) : addF s x a b = keptF s (a + b + x) (sgnV s a + sgnV s b + x) := by
  obtain ⟨ka, kb, _⟩ := two_ok h
  simp [addF, h, sgnV_ok ka, sgnV_ok kb]
theorem subF_is {s x a b : Int} (h : two s x a b = true) : subF s x a b = keptF s (a - b - x) (sgnV s a - sgnV s b - x) := by
  obtain ⟨ka, kb, _⟩ := two_ok h
  simp [subF, h, sgnV_ok ka, sgnV_ok kb]
theorem addV_ok {s x a b : Int} (h : two s x a b = true) : okv s (addV s x a b) = true := by rw [addV_is h]; exact okv_mod _ (two_ok h).1
theorem subV_ok {s x a b : Int} (h : two s x a b = true) : okv s (subV s x a b) = true := by rw [subV_is h]; exact okv_mod _ (two_ok h).1

theorem sum_c {s x a b : Int} (h : two s x a b = true) : (bits .and .i64 (addF s x a b) 1 != 0) = decide (top s ≤ a + b + x) := by
  rw [addF_is h, keptF, four_c]
  obtain ⟨ka, kb, kx⟩ := two_ok h
  obtain ⟨hs, a0, a1⟩ := top_ok ka
  obtain ⟨_, b0, b1⟩ := top_ok kb
  obtain ⟨x0, x1⟩ := bit_ok kx
  rw [Bool.eq_iff_iff]
  rcases hs with ⟨_, e⟩ | ⟨_, e⟩ <;> rw [e] at a1 b1 ⊢ <;> simp <;> omega
theorem dif_c {s x a b : Int} (h : two s x a b = true) : (bits .and .i64 (subF s x a b) 1 != 0) = decide (a - b - x < 0) := by
  rw [subF_is h, keptF, four_c]
  obtain ⟨ka, kb, kx⟩ := two_ok h
  obtain ⟨hs, a0, a1⟩ := top_ok ka
  obtain ⟨_, b0, b1⟩ := top_ok kb
  obtain ⟨x0, x1⟩ := bit_ok kx
  rw [Bool.eq_iff_iff]
  rcases hs with ⟨_, e⟩ | ⟨_, e⟩ <;> rw [e] at a1 b1 ⊢ <;> simp <;> omega
theorem sum_v {s x a b : Int} (h : two s x a b = true) : (bits .and .i64 (addF s x a b) 2 != 0) = (sgnV s a + sgnV s b + x != sgnV s (addV s x a b)) := by
  rw [sgnV_ok (addV_ok h), addV_is h, addF_is h, keptF, four_v, bne_symm]
theorem dif_v {s x a b : Int} (h : two s x a b = true) : (bits .and .i64 (subF s x a b) 2 != 0) = (sgnV s a - sgnV s b - x != sgnV s (subV s x a b)) := by
  rw [sgnV_ok (subV_ok h), subV_is h, subF_is h, keptF, four_v, bne_symm]
theorem sum_n {s x a b : Int} (h : two s x a b = true) : (bits .and .i64 (addF s x a b) 8 != 0) = decide (sgnV s (addV s x a b) < 0) := by
  rw [sgnV_ok (addV_ok h), addV_is h, addF_is h, keptF, four_n]
theorem sum_z {s x a b : Int} (h : two s x a b = true) : (bits .and .i64 (addF s x a b) 4 != 0) = (addV s x a b == 0) := by
  rw [addV_is h, addF_is h, keptF, four_z]
theorem sum_x {s x a b : Int} (h : two s x a b = true) : (bits .and .i64 (addF s x a b) 1 != addF s x a b / 16) = false := by
  rw [addF_is h, keptF, four_x]; simp
theorem sum_m {s x a b : Int} (h : two s x a b = true) : (addV s x a b + top s - a - b - x) % top s = 0 ∧ 0 ≤ addV s x a b + top s - a - b - x := by
  rw [addV_is h]
  obtain ⟨ka, kb, kx⟩ := two_ok h
  obtain ⟨hs, a0, a1⟩ := top_ok ka
  obtain ⟨_, b0, b1⟩ := top_ok kb
  obtain ⟨x0, x1⟩ := bit_ok kx
  rcases hs with ⟨_, e⟩ | ⟨_, e⟩ <;> rw [e] at a1 b1 ⊢ <;> omega
theorem dif_m {s x a b : Int} (h : two s x a b = true) : (subV s x a b + 2 * top s - a + b + x) % top s = 0 ∧ 0 ≤ subV s x a b + 2 * top s - a + b + x := by
  rw [subV_is h]
  obtain ⟨ka, kb, kx⟩ := two_ok h
  obtain ⟨hs, a0, a1⟩ := top_ok ka
  obtain ⟨_, b0, b1⟩ := top_ok kb
  obtain ⟨x0, x1⟩ := bit_ok kx
  rcases hs with ⟨_, e⟩ | ⟨_, e⟩ <;> rw [e] at a1 b1 ⊢ <;> omega
theorem back_two {s x a b : Int} (h : two s x a b = true) : two s x (addV s x a b) b = true := by
  obtain ⟨ka, kb, kx⟩ := two_ok h
  simp [two, addV_ok h, kb, kx]
theorem back_is {s x a b : Int} (h : two s x a b = true) : subV s x (addV s x a b) b = a := by
  rw [subV_is (back_two h), addV_is h]
  obtain ⟨ka, kb, kx⟩ := two_ok h
  obtain ⟨hs, a0, a1⟩ := top_ok ka
  obtain ⟨_, b0, b1⟩ := top_ok kb
  obtain ⟨x0, x1⟩ := bit_ok kx
  rcases hs with ⟨_, e⟩ | ⟨_, e⟩ <;> rw [e] at a1 b1 ⊢ <;> omega
theorem neg_m {s d : Int} (h : two s 0 0 d = true) : (subV s 0 0 d + d) % top s = 0 ∧ 0 ≤ subV s 0 0 d + d := by
  rw [subV_is h]
  obtain ⟨ka, kb, kx⟩ := two_ok h
  obtain ⟨hs, a0, a1⟩ := top_ok ka
  obtain ⟨_, b0, b1⟩ := top_ok kb
  rcases hs with ⟨_, e⟩ | ⟨_, e⟩ <;> rw [e] at a1 b1 ⊢ <;> omega

end Go.Proofs.Ytceipklpbnmggaa.Pl
