/- Unlike instructions have unlike texts: plain reasoning over lists of bytes. -/
import Derived.Test.YtlbnllhabdnjjaaDoorNumPl
namespace Go.Proofs.YtlbnllhabdnjjaaDoor.Pl
set_option linter.unusedVariables false
def isDig (c : UInt8) : Prop := 48 ≤ c.toNat ∧ c.toNat ≤ 57
theorem dig_is {n : Nat} (h : n < 10) : isDig (dig n) ∧ (dig n).toNat = 48 + n := by
  have : (dig n).toNat = 48 + n := by have := ofNat_back h; omega
  exact ⟨⟨by omega, by omega⟩, this⟩
theorem num_digs : ∀ n : Nat, ∀ c ∈ num n, isDig c := by
  intro n
  induction n using Nat.strongRecOn with
  | ind n ih =>
    by_cases h : n < 10
    · rw [num_lt h]; intro c hc; simp at hc; rw [hc]; exact (dig_is h).1
    · rw [num_ge h]
      intro c hc
      rw [List.mem_append] at hc
      rcases hc with hc | hc
      · exact ih (n / 10) (by omega) c hc
      · simp at hc; rw [hc]; exact (dig_is (by omega)).1
def valOf (l : List UInt8) : Nat := l.foldl (fun a c => a * 10 + (c.toNat - 48)) 0
theorem val_num : ∀ n : Nat, valOf (num n) = n := by
  intro n
  induction n using Nat.strongRecOn with
  | ind n ih =>
    by_cases h : n < 10
    · rw [num_lt h]
      simp only [valOf, List.foldl_cons, List.foldl_nil, (dig_is h).2]
      omega
    · rw [num_ge h]
      have q := ih (n / 10) (by omega)
      unfold valOf at q ⊢
      rw [List.foldl_append, q]
      simp only [List.foldl_cons, List.foldl_nil, (dig_is (show n % 10 < 10 by omega)).2]
      omega
theorem num_inj {a b : Nat} (h : num a = num b) : a = b := by rw [← val_num a, ← val_num b, h]
/-- what does not go on with a digit -/
def stops : List UInt8 → Prop
  | [] => True
  | c :: _ => ¬ isDig c
theorem part_digs : ∀ {p q s t : List UInt8}, (∀ c ∈ p, isDig c) → (∀ c ∈ q, isDig c) → stops s → stops t → p ++ s = q ++ t → p = q ∧ s = t
  | [], [], s, t, _, _, _, _, h => ⟨rfl, by simpa using h⟩
  | [], d :: q, s, t, _, hq, hs, _, h => by
    simp only [List.nil_append, List.cons_append] at h
    rw [h] at hs
    exact absurd (hq d (by simp)) hs
  | c :: p, [], s, t, hp, _, _, ht, h => by
    simp only [List.nil_append, List.cons_append] at h
    rw [← h] at ht
    exact absurd (hp c (by simp)) ht
  | c :: p, d :: q, s, t, hp, hq, hs, ht, h => by
    simp only [List.cons_append, List.cons.injEq] at h
    obtain ⟨r1, r2⟩ := part_digs (fun x hx => hp x (by simp [hx])) (fun x hx => hq x (by simp [hx])) hs ht h.2
    exact ⟨by rw [h.1, r1], r2⟩
theorem part_num {a b : Nat} {s t : List UInt8} (hs : stops s) (ht : stops t) (h : num a ++ s = num b ++ t) : a = b ∧ s = t := by
  obtain ⟨r1, r2⟩ := part_digs (num_digs a) (num_digs b) hs ht h
  exact ⟨num_inj r1, r2⟩
theorem text_inj {x y : In} (hx : inOk x = true) (hy : inOk y = true) (h : text x = text y) : x = y := by
  obtain ⟨a1, a2, a3, a4, a5, a6, a7, a8, a9, b1, b2, b3, b4, _⟩ := modeR hx
  obtain ⟨c1, c2, c3, c4, c5, c6, c7, c8, c9, d1, d2, d3, d4, _⟩ := modeR hy
  unfold text at h
  simp only [List.append_assoc] at h
  have n46 : ∀ t, stops ([46] ++ t) := fun t => by show ¬ isDig 46; unfold isDig; decide
  have n32 : ∀ c t, stops ([32, c] ++ t) := fun c t => by show ¬ isDig 32; unfold isDig; decide
  have n58 : ∀ t, stops ([58] ++ t) := fun t => by show ¬ isDig 58; unfold isDig; decide
  obtain ⟨e1, h⟩ := part_num (n46 _) (n46 _) (List.append_cancel_left h)
  obtain ⟨e2, h⟩ := part_num (n32 _ _) (n32 _ _) (List.append_cancel_left h)
  obtain ⟨e3, h⟩ := part_num (n32 _ _) (n32 _ _) (List.append_cancel_left h)
  obtain ⟨e4, h⟩ := part_num (n58 _) (n58 _) (List.append_cancel_left h)
  obtain ⟨e5, h⟩ := part_num (n32 _ _) (n32 _ _) (List.append_cancel_left h)
  obtain ⟨e6, h⟩ := part_num (n32 _ _) (n32 _ _) (List.append_cancel_left h)
  have h7 := List.append_cancel_left h
  have e7 := num_inj h7
  obtain ⟨op, z, r, m, k, e, s⟩ := x
  obtain ⟨op', z', r', m', k', e', s'⟩ := y
  simp only at *
  rw [In.mk.injEq]
  refine ⟨?_, ?_, ?_, ?_, ?_, ?_, ?_⟩ <;> omega
end Go.Proofs.YtlbnllhabdnjjaaDoor.Pl
