/- What the two laws on shifts ask of numbers: plain arithmetic. -/
import Derived.Test.YtlagdbajdehanaaOnes
import Derived.Test.YtlagdbajdehanaaSpecShf
namespace Go.Proofs.Ytlagdbajdehanaa.Pl
set_option linter.unusedVariables false

theorem pw_bd {m : Nat} (h : m ≤ 20) : (1 : Int) ≤ 2 ^ m ∧ (2 : Int) ^ m ≤ 1048576 := by
  have : ∀ j : Nat, j ≤ 20 → (1 : Int) ≤ 2 ^ j ∧ (2 : Int) ^ j ≤ 1048576 := by decide
  exact this m h
theorem pw_big {n : Nat} (h : 20 < n) : ∃ j : Nat, (2 : Int) ^ n = 1048576 * 2 ^ j ∧ (1 : Int) ≤ 2 ^ j :=
  ⟨n - 20, by rw [show n = 20 + (n - 20) from by omega, Int.pow_add, show 20 + (n - 20) - 20 = n - 20 from by omega]; rfl, by have := pow_pos (n - 20); omega⟩

theorem byVal_is {k s f v n : Int} (h : byOk k s f v n = true) : byVal k s f v n = (st k s (v, f / 16) n.toNat).1 := by simp [byVal, h]
theorem byFl_is {k s f v n : Int} (h : byOk k s f v n = true) : byFl k s f v n = byF k s (v, f / 16) n.toNat := by simp [byFl, h]
theorem byOk_fit {k s f v n : Int} (h : byOk k s f v n = true) : 0 ≤ k ∧ k ≤ 7 ∧ (s = 1 ∨ s = 2) ∧ 0 ≤ v ∧ v < top s ∧ 0 ≤ n ∧ n ≤ 63 ∧ 0 ≤ f ∧ f ≤ 31 ∧ Fit s (v, f / 16) := by
  obtain ⟨hg, n0, n1⟩ := byOk_ok h
  obtain ⟨k0, k1, _, f0, f1, hf⟩ := goodK_ok hg
  exact ⟨k0, k1, hf.1, hf.2.1, hf.2.2.1, n0, n1, f0, f1, hf⟩

theorem by_bd {k s f v n : Int} (h : byOk k s f v n = true) : 0 ≤ byVal k s f v n ∧ byVal k s f v n < 65536 ∧ 0 ≤ byFl k s f v n ∧ byFl k s f v n ≤ 31 := by
  obtain ⟨_, _, hs, _, _, _, _, _, _, hf⟩ := byOk_fit h
  obtain ⟨F0, F1, _⟩ := byF_bd (k := k) hf n.toNat
  obtain ⟨_, u0, u1, _, _⟩ := st_fit (k := k) hf n.toNat
  rw [byVal_is h, byFl_is h]
  refine ⟨u0, ?_, F0, F1⟩
  rcases top12 hs with ⟨_, e⟩ | ⟨_, e⟩ <;> rw [e] at u1 <;> omega

theorem law_shl {k s f v n : Int} (h : byOk k s f v n = true) (hk : k = 0 ∨ k = 2) : byVal k s f v n = v * 2 ^ min n.toNat 20 % top s := by
  obtain ⟨_, _, hs, _, _, _, _, _, _, hf⟩ := byOk_fit h
  rw [byVal_is h, st_shl hk hf]
  by_cases hn : n.toNat ≤ 20
  · rw [Nat.min_eq_left hn]
  · obtain ⟨j, e, _⟩ := pw_big (n := n.toNat) (by omega)
    rw [Nat.min_eq_right (by omega), e, Int.mul_left_comm, show (2 : Int) ^ 20 = 1048576 from rfl]
    generalize v * 2 ^ j = q
    rcases top12 hs with ⟨_, e⟩ | ⟨_, e⟩ <;> rw [e] <;> omega
theorem law_lsr {s f v n : Int} (h : byOk 3 s f v n = true) : byVal 3 s f v n = v / 2 ^ min n.toNat 20 := by
  obtain ⟨_, _, hs, v0, v1, _, _, _, _, hf⟩ := byOk_fit h
  have hv : v < 65536 := by rcases top12 hs with ⟨_, e⟩ | ⟨_, e⟩ <;> rw [e] at v1 <;> omega
  rw [byVal_is h, st_lsr hf]
  by_cases hn : n.toNat ≤ 20
  · rw [Nat.min_eq_left hn]
  · obtain ⟨j, e, hj⟩ := pw_big (n := n.toNat) (by omega)
    rw [Nat.min_eq_right (by omega), Int.ediv_eq_zero_of_lt v0 (by rw [e]; omega), Int.ediv_eq_zero_of_lt v0 (by show v < 1048576; omega)]
theorem floor_small {i Q : Int} (h0 : i < 0) (hQ : 0 < Q) (h1 : -Q ≤ i) : i / Q = -1 := by
  have a := Int.ediv_neg_of_neg_of_pos h0 hQ
  have b : -1 ≤ i / Q := Int.le_ediv_of_mul_le hQ (by omega)
  omega
theorem prod_bd {v P : Int} (v0 : 0 ≤ v) (v1 : v < 65536) (p0 : 1 ≤ P) (p1 : P ≤ 1048576) : 0 ≤ v * P ∧ v * P ≤ 68719476736 := by
  refine ⟨Int.mul_nonneg v0 (by omega), ?_⟩
  have := Int.mul_le_mul (show v ≤ 65536 by omega) p1 (by omega) (by decide)
  omega
theorem prod_neg {j P : Int} (j0 : j < 0) (j1 : -32768 ≤ j) (p0 : 1 ≤ P) (p1 : P ≤ 1048576) : -68719476736 ≤ j * P ∧ j * P ≤ 0 ∧ -68719476736 ≤ (j + 1) * P ∧ (j + 1) * P ≤ 0 := by
  obtain ⟨a, b⟩ := prod_bd (v := -j) (by omega) (by omega) p0 p1
  obtain ⟨c, d⟩ := prod_bd (v := -(j + 1)) (by omega) (by omega) p0 p1
  rw [Int.neg_mul] at a b c d
  omega

/-- a number below 0, taken down -/
theorem floor_law {i P : Int} (h0 : i < 0) (h1 : -32768 ≤ i) (p0 : 1 ≤ P) (p1 : P ≤ 1048576) : i / P < 0 ∧ -32768 ≤ i / P ∧ i / P * P ≤ i ∧ i < (i / P + 1) * P := by
  have a := Int.ediv_neg_of_neg_of_pos h0 (show 0 < P by omega)
  have b : -32768 ≤ i / P := Int.le_ediv_of_mul_le (by omega) (by omega)
  exact ⟨a, b, Int.ediv_mul_le i (by omega), Int.lt_ediv_add_one_mul_self i (by omega)⟩

theorem law_asr {s f v n : Int} (h : byOk 1 s f v n = true) : okv s (byVal 1 s f v n) = true ∧ sgnV s (byVal 1 s f v n) = sgnV s v / 2 ^ min n.toNat 20 ∧ -32768 ≤ sgnV s v ∧ sgnV s v ≤ 32767 ∧ okv s v = true := by
  obtain ⟨_, _, hs, v0, v1, _, _, _, _, hf⟩ := byOk_fit h
  have hv : okv s v = true := (goodK_ok (byOk_ok h).1).2.2.1
  obtain ⟨_, u0, u1, _, _⟩ := st_fit (k := 1) hf n.toNat
  have hu : okv s (byVal 1 s f v n) = true := by
    rw [byVal_is h]
    rcases top12 hs with ⟨rfl, e⟩ | ⟨rfl, e⟩
    · exact okv_mk1 u0 (by rw [e] at u1; exact u1)
    · exact okv_mk2 u0 (by rw [e] at u1; exact u1)
  have hb : -32768 ≤ sg s v ∧ sg s v ≤ 32767 := by
    rcases top12 hs with ⟨rfl, e⟩ | ⟨rfl, e⟩
    · have := sg_bd1 v0 (by rw [e] at v1; exact v1); omega
    · exact sg_bd2 v0 (by rw [e] at v1; exact v1)
  refine ⟨hu, ?_, by rw [sgnV_ok hv]; exact hb.1, by rw [sgnV_ok hv]; exact hb.2, hv⟩
  rw [sgnV_ok hu, sgnV_ok hv, byVal_is h, st_asr hf]
  by_cases hn : n.toNat ≤ 20
  · rw [Nat.min_eq_left hn]
  · obtain ⟨j, e, hj⟩ := pw_big (n := n.toNat) (by omega)
    rw [Nat.min_eq_right (by omega)]
    by_cases hi : sg s v < 0
    · rw [floor_small hi (by rw [e]; omega) (by rw [e]; omega), floor_small hi (by decide) (by show -1048576 ≤ _; omega)]
    · rw [Int.ediv_eq_zero_of_lt (by omega) (by rw [e]; omega), Int.ediv_eq_zero_of_lt (by omega) (by show _ < 1048576; omega)]

theorem parts_not2 {c x : Int} {o q z n : Bool} (hc : c = 0 ∨ c = 1) (hx : x = 0 ∨ x = 1) : bits .andNot .i64 (c + fl o 2 + (fl z 4 + fl n 8) + 16 * x) 2 = bits .andNot .i64 (c + fl q 2 + (fl z 4 + fl n 8) + 16 * x) 2 := by
  rcases hc with rfl | rfl <;> rcases hx with rfl | rfl <;> cases o <;> cases q <;> cases z <;> cases n <;> decide
theorem law_step {k s f v n : Int} (h : byOk k s f v n = true) (hn : 0 < n) : byOk k s f v (n - 1) = true ∧ goodK k s (byFl k s f v (n - 1)) (byVal k s f v (n - 1)) = true ∧
    onceV k s (byFl k s f v (n - 1)) (byVal k s f v (n - 1)) = byVal k s f v n ∧ bits .andNot .i64 (onceF k s (byFl k s f v (n - 1)) (byVal k s f v (n - 1))) 2 = bits .andNot .i64 (byFl k s f v n) 2 ∧
    (n = 1 → onceF k s (byFl k s f v (n - 1)) (byVal k s f v (n - 1)) = byFl k s f v n) := by
  obtain ⟨k0, k1, hs, v0, v1, n0, n1, f0, f1, hf⟩ := byOk_fit h
  have h1 : byOk k s f v (n - 1) = true := byOk_mk (byOk_ok h).1 (by omega) (by omega)
  obtain ⟨m, hm⟩ : ∃ m : Nat, n.toNat = m + 1 := ⟨n.toNat - 1, by omega⟩
  have hm1 : (n - 1).toNat = m := by omega
  have eF := byFl_is h1
  have eV := byVal_is h1
  rw [hm1] at eF eV
  obtain ⟨F0, F1, F2⟩ := byF_bd (k := k) hf m
  have hfm := st_fit (k := k) hf m
  have hg : goodK k s (byFl k s f v (n - 1)) (byVal k s f v (n - 1)) = true := by
    rw [eF, eV]; exact fit_good hfm k0 k1 F0 F1
  have eO : onceV k s (byFl k s f v (n - 1)) (byVal k s f v (n - 1)) = byVal k s f v n := by
    rw [onceV, if_pos hg, byVal_is h, hm, eF, eV, F2]; rfl
  have eP : onceF k s (byFl k s f v (n - 1)) (byVal k s f v (n - 1)) = onF k s (st k s (v, f / 16) m).2 (st k s (v, f / 16) m).1 := by
    rw [onceF, if_pos hg, eF, eV, F2]
  have eB : byFl k s f v n = fell k s (st k s (v, f / 16) m).1 + fl (ov k s (v, f / 16) (m + 1)) 2 + zn s (nv k s (st k s (v, f / 16) m).2 (st k s (v, f / 16) m).1) + 16 * nx k s (st k s (v, f / 16) m).2 (st k s (v, f / 16) m).1 := by
    rw [byFl_is h, hm]; rfl
  refine ⟨h1, hg, eO, ?_, ?_⟩
  · rw [eP, eB]
    have hfe := fell_bd k s (st k s (v, f / 16) m).1
    have x := nx_bd k s (st k s (v, f / 16) m).2 (st k s (v, f / 16) m).1 hfm.2.2.2.1 hfm.2.2.2.2
    unfold onF zn
    exact parts_not2 (by omega) (by omega)
  · intro e
    obtain rfl : m = 0 := by omega
    rw [eP, eB]
    simp [onF, ov]

end Go.Proofs.Ytlagdbajdehanaa.Pl
