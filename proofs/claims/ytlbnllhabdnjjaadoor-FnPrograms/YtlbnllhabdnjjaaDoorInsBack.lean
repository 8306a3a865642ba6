/- Instructions come back from their words, and words from their instructions: plain arithmetic. -/
import Derived.Test.YtlbnllhabdnjjaaDoorGrB
namespace Go.Proofs.YtlbnllhabdnjjaaDoor.Pl
set_option linter.unusedVariables false
theorem word1_in {x : In} (h : inOk x = true) : 0 ≤ word1 x ∧ word1 x ≤ 65535 := by
  obtain ⟨a1, a2, a3, a4, a5, a6, a7, a8, a9, b1, b2, b3, b4, _⟩ := modeR h
  unfold word1
  rcases a3 with a3 | a3 <;> rw [a3] <;> omega
theorem word1_parts {x : In} (h : inOk x = true) : word1 x / 2048 = x.op ∧ word1 x / 1024 % 2 + 1 = x.z ∧ word1 x / 256 % 4 = x.r ∧ word1 x / 32 % 8 = x.m ∧ word1 x / 8 % 4 = x.k ∧ word1 x % 8 = x.s := by
  obtain ⟨a1, a2, a3, a4, a5, a6, a7, a8, a9, b1, b2, b3, b4, _⟩ := modeR h
  unfold word1
  rcases a3 with a3 | a3 <;> rw [a3] <;> refine ⟨?_, ?_, ?_, ?_, ?_, ?_⟩ <;> omega
theorem long_enc {x : In} (h : inOk x = true) : longW (word1 x) = ((encode x).length : Int) := by
  unfold longW encode
  rw [(word1_parts h).2.2.2.1]
  split <;> simp
theorem dec_enc {x : In} (h : inOk x = true) {v : Int} (hw : wordOk v = true) (hv : extM x.m = true → v = x.e) :
    decode (word1 x) v = x ∧ decOk (word1 x) v = true := by
  obtain ⟨p1, p2, p3, p4, p5, p6⟩ := word1_parts h
  obtain ⟨w0, w1⟩ := word1_in h
  have hx := (modeR h).2.2.2.2.2.2.2.2.2.2.2.2.2
  have e : (if longW (word1 x) = 2 then v else 0) = x.e := by
    unfold longW
    rw [p4]
    cases hE : extM x.m
    · simp [hx hE]
    · simp [hv hE]
  have d : decode (word1 x) v = x := by
    unfold decode
    rw [e, p1, p2, p3, p4, p5, p6]
  refine ⟨d, ?_⟩
  unfold decOk
  rw [d, h, hw]
  simp [wordOk, within, w0, w1]
theorem enc_dec {w v : Int} (h : decOk w v = true) : word1 (decode w v) = w ∧ ((encode (decode w v)).length : Int) = longW w ∧ (encode (decode w v) = [w] ∨ encode (decode w v) = [w, v]) := by
  have hk := h
  simp only [decOk, Bool.and_eq_true] at hk
  obtain ⟨hw, hv, hi⟩ := hk
  have hw' : 0 ≤ w ∧ w ≤ 65535 := by simpa [wordOk, within] using hw
  have e : word1 (decode w v) = w := by
    unfold word1 decode
    simp only
    omega
  refine ⟨e, ?_, ?_⟩
  · rw [← long_enc hi, e]
  · unfold encode
    rw [e]
    have hm : (decode w v).m = w / 32 % 8 := rfl
    rw [hm]
    split
    · rename_i q
      right
      simp [decode, longW, q]
    · left; rfl
/-- the words of a list of instructions -/
def encL : List In → List Int
  | [] => []
  | x :: t => encode x ++ encL t
theorem encL_snoc (l : List In) (x : In) : encL (l ++ [x]) = encL l ++ encode x := by
  induction l with
  | nil => simp [encL]
  | cons y t ih => simp [encL, ih]
def insL (ys : List Int) (n : Nat) : List In := (List.range n).map (inAt ys)
theorem insL_succ (ys : List Int) (n : Nat) : insL ys (n + 1) = insL ys n ++ [inAt ys n] := by simp [insL, List.range_succ]
theorem encTo_eq (ys : List Int) (n : Nat) : encTo ys n = encL (insL ys n) := by
  induction n with
  | zero => rfl
  | succ n ih => rw [insL_succ, encL_snoc, ← ih]; rfl
theorem word0 : wordOk 0 = true := by decide
theorem da_cons {x : In} (h : inOk x = true) (t : List Int) : da (encode x ++ t) = (da t).map (x :: ·) := by
  have hL := long_enc h
  have hwo : wordOk (word1 x) = true := by have := word1_in h; simp [wordOk, within, this]
  have he := (modeR h).2.2.2.2.2.2.2.2.2
  have hew : wordOk x.e = true := by simp [wordOk, within, he.1, he.2.1]
  unfold encode at hL ⊢
  split
  · rename_i q
    rw [if_pos q] at hL
    simp only [List.length_cons, List.length_nil] at hL
    obtain ⟨d1, d2⟩ := dec_enc h hew (fun _ => rfl)
    have hL2 : longW (word1 x) = 2 := by simpa using hL
    show da (word1 x :: x.e :: t) = _
    simp [da, hwo, hL2, d2, d1]
  · rename_i q
    rw [if_neg q] at hL
    obtain ⟨d1, d2⟩ := dec_enc h word0 (fun e => absurd e q)
    have hL1 : longW (word1 x) = 1 := by simpa using hL
    cases t with
    | nil => simp [da, hwo, hL1, d2, d1]
    | cons v t =>
      show da (word1 x :: v :: t) = _
      simp [da, hwo, hL1, d2, d1]
theorem da_encL : ∀ (l : List In), (∀ x ∈ l, inOk x = true) → da (encL l) = some l
  | [], _ => rfl
  | x :: t, h => by
    unfold encL
    rw [da_cons (h x (by simp)), da_encL t (fun y hy => h y (by simp [hy]))]
    rfl
theorem encL_len (l : List In) : (encL l).length ≤ 2 * l.length := by
  induction l with
  | nil => simp [encL]
  | cons x t ih => simp only [encL, List.length_append, List.length_cons]; have := encode_len x; omega
theorem allIn_mem {ys : List Int} {n : Nat} (h : allIn ys n = true) : ∀ x ∈ insL ys n, inOk x = true := by
  induction n with
  | zero => intro x hx; simp [insL] at hx
  | succ n ih =>
    unfold allIn at h
    rw [Bool.and_eq_true] at h
    intro x hx
    rw [insL_succ, List.mem_append] at hx
    rcases hx with hx | hx
    · exact ih h.1 x hx
    · simp at hx; rw [hx]; exact h.2
/-- programs come back from their words -/
theorem da_ea {ys : List Int} {n : Nat} (h : eaOk ys n = true) : daOk (eaV ys n) = true ∧ daV (eaV ys n) = insL ys n := by
  have hk := h
  simp only [eaOk, Bool.and_eq_true, decide_eq_true_eq] at hk
  have e : eaV ys n = encL (insL ys n) := by simp [eaV, h, encTo_eq]
  have d := da_encL _ (allIn_mem hk.1)
  have hl := encL_len (insL ys n)
  have hn : (insL ys n).length = n := by simp [insL]
  have ok : daOk (eaV ys n) = true := by
    rw [e]
    simp only [daOk, d, Bool.and_eq_true, decide_eq_true_eq]
    exact ⟨by omega, rfl⟩
  refine ⟨ok, ?_⟩
  unfold daV
  rw [if_pos ok, e, d]
  rfl
theorem flat_insL {ys : List Int} {n : Nat} (h : ys.length = 7 * n) : flat (insL ys n) = ys := by
  have key : ∀ k, k ≤ n → flat (insL ys k) = ys.take (7 * k) := by
    intro k
    induction k with
    | zero => intro _; simp [insL, flat]
    | succ k ih =>
      intro hk
      rw [insL_succ, flat_snoc, ih (by omega)]
      have g : ∀ (j : Nat) (hj : j < 7), el ys (k * 7 + j) = ys[7 * k + j]'(by omega) := by
        intro j hj
        have : k * 7 + j < ys.length := by omega
        simp only [el, List.getElem?_eq_getElem this, Option.getD_some]
        congr 1
        omega
      rw [show 7 * (k + 1) = 7 * k + 7 from by omega, List.take_add]
      congr 1
      apply List.ext_getElem
      · simp; omega
      · intro i h1 h2
        have hi : i < 7 := by simpa using h1
        simp only [List.getElem_take, List.getElem_drop]
        obtain rfl | rfl | rfl | rfl | rfl | rfl | rfl : i = 0 ∨ i = 1 ∨ i = 2 ∨ i = 3 ∨ i = 4 ∨ i = 5 ∨ i = 6 := by omega
        · exact g 0 (by omega)
        · exact g 1 (by omega)
        · exact g 2 (by omega)
        · exact g 3 (by omega)
        · exact g 4 (by omega)
        · exact g 5 (by omega)
        · exact g 6 (by omega)
  rw [key n (Nat.le_refl _), ← h, List.take_length]
end Go.Proofs.YtlbnllhabdnjjaaDoor.Pl
