/- Long sums, bytes as words, words turned round, and flags of comparisons: what the law on words asks of them, in plain arithmetic; no Go text is spoken of here. -/
import Derived.Test.YtogckmalfdddcaaMany
namespace Go.Proofs.Ytogckmalfdddcaa.Pl

theorem small_and {p : Int → Prop} [DecidablePred p] (h : ∀ m : Fin 32, p ((m.val : Nat) : Int)) {f : Int} (f0 : 0 ≤ f) (f1 : f ≤ 31) : p f := by
  obtain ⟨n, rfl⟩ := Int.eq_ofNat_of_zero_le f0
  exact h ⟨n, by omega⟩

theorem manyF_1 (F : Int) (z : Bool) (f0 : 0 ≤ F) (f1 : F ≤ 31) : bits .and .i64 (bits .or .i64 (bits .andNot .i64 F 4) (fl z 4)) 1 = bits .and .i64 F 1 := by
  cases z
  · exact small_and (p := fun F => bits .and .i64 (bits .or .i64 (bits .andNot .i64 F 4) (fl false 4)) 1 = bits .and .i64 F 1) (by decide) f0 f1
  · exact small_and (p := fun F => bits .and .i64 (bits .or .i64 (bits .andNot .i64 F 4) (fl true 4)) 1 = bits .and .i64 F 1) (by decide) f0 f1
theorem manyF_4 (F : Int) (z : Bool) (f0 : 0 ≤ F) (f1 : F ≤ 31) : (bits .and .i64 (bits .or .i64 (bits .andNot .i64 F 4) (fl z 4)) 4 != 0) = z := by
  cases z
  · exact small_and (p := fun F => (bits .and .i64 (bits .or .i64 (bits .andNot .i64 F 4) (fl false 4)) 4 != 0) = false) (by decide) f0 f1
  · exact small_and (p := fun F => (bits .and .i64 (bits .or .i64 (bits .andNot .i64 F 4) (fl true 4)) 4 != 0) = true) (by decide) f0 f1
theorem stF_bd (s : Int) (xs ys : List Int) (k : Nat) : 0 ≤ stF s xs ys k ∧ stF s xs ys k ≤ 31 := by
  cases k
  · exact ⟨Int.le_refl _, by show (0 : Int) ≤ 31; decide⟩
  · exact addF_bd _ _ _ _
theorem manyF_c {s : Int} {xs ys : List Int} (h : manyOk s xs ys = true) : bits .and .i64 (manyF s xs ys) 1 = bits .and .i64 (stF s xs ys xs.length) 1 := by
  rw [manyF, if_pos h]; exact manyF_1 _ _ (stF_bd s xs ys _).1 (stF_bd s xs ys _).2
theorem manyF_z {s : Int} {xs ys : List Int} (h : manyOk s xs ys = true) : (bits .and .i64 (manyF s xs ys) 4 != 0) = manyZ s xs ys xs.length := by
  rw [manyF, if_pos h]; exact manyF_4 _ _ (stF_bd s xs ys _).1 (stF_bd s xs ys _).2
theorem manyOk_at {s : Int} {xs ys : List Int} (h : manyOk s xs ys = true) : xs.length = ys.length ∧ xs.length ≤ 8 ∧ ∀ j, j < xs.length → stO s xs ys j = true := by
  unfold manyOk at h
  rw [Bool.and_eq_true, List.all_eq_true] at h
  obtain ⟨h1, h2⟩ := h
  simp only [fits, decide_eq_true_eq] at h1
  exact ⟨h1.1, h1.2.2, fun j hj => h2 j (by simpa using hj)⟩
theorem manyL_at {s : Int} {xs ys : List Int} (h : manyOk s xs ys = true) (k : Nat) (hk : k < xs.length) : (manyL s xs ys)[k]?.getD 0 = stV s xs ys k := by
  rw [manyL, if_pos h]; simp [hk]
theorem manyL_length {s : Int} {xs ys : List Int} (h : manyOk s xs ys = true) : (manyL s xs ys).length = xs.length := by
  rw [manyL, if_pos h]; simp
/-- the carry of one part: what the number says -/
theorem carry_is {s c x y : Int} (h : two s c x y = true) : bits .and .i64 (addF s c x y) 1 = if top s ≤ x + y + c then 1 else 0 := by
  have hc := sum_c h
  have hb := and1 (addF s c x y)
  have hm := Int.emod_two_eq (addF s c x y)
  by_cases ht : top s ≤ x + y + c
  · rw [if_pos ht]
    simp [ht] at hc
    omega
  · rw [if_neg ht]
    simp [ht] at hc
    omega

theorem ext_ok {v : Int} (h : okv 1 v = true) : okv 2 (extV v) = true ∧ sgnV 2 (extV v) = sgnV 1 v ∧ 0 ≤ extV v ∧ extV v < 65536 := by
  have e : extV v = sg 1 v % 65536 := by simp [extV, h]
  obtain ⟨hs, h0, h1⟩ := top_ok h
  have h1 : v < 256 := h1
  have hk : okv 2 (extV v) = true := by rw [e]; exact okv_mk2 (by omega) (by omega)
  refine ⟨hk, ?_, by rw [e]; omega, by rw [e]; omega⟩
  rw [sgnV_ok hk, sgnV_ok h, e]
  have t1 : top 1 = 256 := rfl
  have t2 : top 2 = 65536 := rfl
  unfold sg
  rw [t1, t2]
  split <;> split <;> omega
theorem swp_ok {v : Int} (h : okv 2 v = true) : okv 2 (swpV v) = true ∧ swpV (swpV v) = v ∧ 0 ≤ swpV v ∧ swpV v < 65536 := by
  obtain ⟨hs, h0, h1⟩ := top_ok h
  have h1 : v < 65536 := h1
  have e : swpV v = v % 256 * 256 + v / 256 := by simp [swpV, h]
  have hk : okv 2 (swpV v) = true := by rw [e]; exact okv_mk2 (by omega) (by omega)
  refine ⟨hk, ?_, by rw [e]; omega, by rw [e]; omega⟩
  have e2 : swpV (swpV v) = swpV v % 256 * 256 + swpV v / 256 := by rw [swpV, if_pos hk]
  rw [e2, e]
  omega
theorem tab16 : ∀ g f : Fin 32, bits .and .i64 (bits .or .i64 (bits .and .i64 ((g.val : Nat) : Int) 15) (bits .and .i64 ((f.val : Nat) : Int) 16)) 16 = bits .and .i64 ((f.val : Nat) : Int) 16 := by decide +kernel
theorem tab4 : ∀ g f : Fin 32, (bits .and .i64 (bits .or .i64 (bits .and .i64 ((g.val : Nat) : Int) 15) (bits .and .i64 ((f.val : Nat) : Int) 16)) 4 != 0) = (bits .and .i64 ((g.val : Nat) : Int) 4 != 0) := by decide +kernel
theorem cmp_x {s f a b : Int} (h : (two s 0 a b && flags f) = true) : bits .and .i64 (cmpF s f a b) 16 = bits .and .i64 f 16 := by
  rw [cmpF, if_pos h]
  rw [Bool.and_eq_true] at h
  obtain ⟨f0, f1⟩ := flags_ok h.2
  obtain ⟨g0, g1⟩ := subF_bd s 0 a b
  obtain ⟨m, hm⟩ := Int.eq_ofNat_of_zero_le g0
  obtain ⟨n, rfl⟩ := Int.eq_ofNat_of_zero_le f0
  rw [hm]
  exact tab16 ⟨m, by omega⟩ ⟨n, by omega⟩
theorem dif_z {s x a b : Int} (h : two s x a b = true) : (bits .and .i64 (subF s x a b) 4 != 0) = (subV s x a b == 0) := by
  rw [subV_is h, subF_is h, keptF, four_z]
theorem cmp_z {s f a b : Int} (h : (two s 0 a b && flags f) = true) : (bits .and .i64 (cmpF s f a b) 4 != 0) = (a == b) := by
  rw [cmpF, if_pos h]
  rw [Bool.and_eq_true] at h
  obtain ⟨f0, f1⟩ := flags_ok h.2
  obtain ⟨g0, g1⟩ := subF_bd s 0 a b
  have hz := dif_z h.1
  rw [subV_is h.1] at hz
  obtain ⟨m, hm⟩ := Int.eq_ofNat_of_zero_le g0
  obtain ⟨n, rfl⟩ := Int.eq_ofNat_of_zero_le f0
  rw [hm] at hz ⊢
  refine (tab4 ⟨m, by omega⟩ ⟨n, by omega⟩).trans (hz.trans ?_)
  obtain ⟨ka, kb, _⟩ := two_ok h.1
  obtain ⟨hs, a0, a1⟩ := top_ok ka
  obtain ⟨_, b0, b1⟩ := top_ok kb
  rw [Bool.eq_iff_iff]
  rcases hs with ⟨_, e⟩ | ⟨_, e⟩ <;> rw [e] at a1 b1 ⊢ <;> simp <;> omega
theorem log_3 {s f v : Int} (h : (okv s v && flags f) = true) : bits .and .i64 (logF s f v) 3 = 0 := by
  rw [logF, if_pos h]
  rw [Bool.and_eq_true] at h
  obtain ⟨f0, f1⟩ := flags_ok h.2
  cases (v == 0) <;> cases decide (sg s v < 0) <;> (obtain ⟨n, rfl⟩ := Int.eq_ofNat_of_zero_le f0)
  · exact (by decide +kernel : ∀ f : Fin 32, bits .and .i64 (bits .or .i64 (bits .and .i64 ((f.val : Nat) : Int) 16) (bits .or .i64 (fl false 4) (fl false 8))) 3 = 0) ⟨n, by omega⟩
  · exact (by decide +kernel : ∀ f : Fin 32, bits .and .i64 (bits .or .i64 (bits .and .i64 ((f.val : Nat) : Int) 16) (bits .or .i64 (fl false 4) (fl true 8))) 3 = 0) ⟨n, by omega⟩
  · exact (by decide +kernel : ∀ f : Fin 32, bits .and .i64 (bits .or .i64 (bits .and .i64 ((f.val : Nat) : Int) 16) (bits .or .i64 (fl true 4) (fl false 8))) 3 = 0) ⟨n, by omega⟩
  · exact (by decide +kernel : ∀ f : Fin 32, bits .and .i64 (bits .or .i64 (bits .and .i64 ((f.val : Nat) : Int) 16) (bits .or .i64 (fl true 4) (fl true 8))) 3 = 0) ⟨n, by omega⟩
theorem log_x {s f v : Int} (h : (okv s v && flags f) = true) : bits .and .i64 (logF s f v) 16 = bits .and .i64 f 16 := by
  rw [logF, if_pos h]
  rw [Bool.and_eq_true] at h
  obtain ⟨f0, f1⟩ := flags_ok h.2
  cases (v == 0) <;> cases decide (sg s v < 0) <;> (obtain ⟨n, rfl⟩ := Int.eq_ofNat_of_zero_le f0)
  · exact (by decide +kernel : ∀ f : Fin 32, bits .and .i64 (bits .or .i64 (bits .and .i64 ((f.val : Nat) : Int) 16) (bits .or .i64 (fl false 4) (fl false 8))) 16 = bits .and .i64 ((f.val : Nat) : Int) 16) ⟨n, by omega⟩
  · exact (by decide +kernel : ∀ f : Fin 32, bits .and .i64 (bits .or .i64 (bits .and .i64 ((f.val : Nat) : Int) 16) (bits .or .i64 (fl false 4) (fl true 8))) 16 = bits .and .i64 ((f.val : Nat) : Int) 16) ⟨n, by omega⟩
  · exact (by decide +kernel : ∀ f : Fin 32, bits .and .i64 (bits .or .i64 (bits .and .i64 ((f.val : Nat) : Int) 16) (bits .or .i64 (fl true 4) (fl false 8))) 16 = bits .and .i64 ((f.val : Nat) : Int) 16) ⟨n, by omega⟩
  · exact (by decide +kernel : ∀ f : Fin 32, bits .and .i64 (bits .or .i64 (bits .and .i64 ((f.val : Nat) : Int) 16) (bits .or .i64 (fl true 4) (fl true 8))) 16 = bits .and .i64 ((f.val : Nat) : Int) 16) ⟨n, by omega⟩

end Go.Proofs.Ytogckmalfdddcaa.Pl
