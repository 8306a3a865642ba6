/- A device in numbers, and what its steps do to it: plain arithmetic; no Go text is spoken of here. -/
import Derived.Test.YtlocilcnmbmikaaBus
namespace Go.Proofs.Ytlocilcnmbmikaa.Pl
set_option linter.unusedVariables false

structure Dev where
  e : Int
  l : Int
  r : Bool
  xs : List Int
  ys : List Int
  t : Int
def devNew : Dev := ⟨8, 8, false, [], [], 0⟩
def devNo : Dev := ⟨0, 0, false, [], [], 0⟩
def inR (n lo hi : Int) : Bool := decide (lo ≤ n) && decide (n ≤ hi)
def devOk (d : Dev) : Bool := inR d.e 0 255 && (inR d.l 0 d.e && (bytesOk d.xs && (bytesOk d.ys && (decide ((d.xs.length : Int) ≤ 4) && (decide ((d.ys.length : Int) ≤ 200) && inR d.t 0 1000)))))
def level (d : Dev) : Int := if d.r = true then 5 else if 0 < d.xs.length then 2 else 0
def rdV (d : Dev) (p : Int) : Int := if p = 0 then d.e else if p = 1 then (if d.r = true then 1 else 0) else if p = 2 then el d.xs 0 else (d.xs.length : Int)
def rdD (d : Dev) (p : Int) : Dev := if p = 0 then d else if p = 1 then { d with r := false } else if p = 2 then { d with xs := d.xs.drop 1 } else d
def wrD (d : Dev) (p v : Int) : Dev := if p = 0 then { d with e := v, l := v } else if p = 1 then { d with r := false } else if p = 2 then (if d.ys.length < 200 then { d with ys := d.ys ++ [v] } else d) else { d with xs := [] }
def tick (d : Dev) : Dev := if d.e = 0 then d else if d.l ≤ 1 ∧ 0 ≤ d.l then { d with l := d.e, r := true } else if 0 < d.l then { d with l := d.l - 1 } else d
def come (d : Dev) (v : Int) : Dev := if d.xs.length < 4 then { d with xs := d.xs ++ [v] } else if d.t < 1000 then { d with t := d.t + 1 } else d
def port (p : Int) : Bool := inR p 0 3
def stepOk (k p v : Int) : Bool := if k = 1 then (p == 0) && (v == 0) else if k = 2 then (p == 0) && inR v 0 255 else if k = 3 then port p && (v == 0) else (k == 4) && (port p && inR v 0 255)
def stepD (d : Dev) (k p v : Int) : Dev := if k = 1 then tick d else if k = 2 then come d v else if k = 3 then rdD d p else wrD d p v
def stepV (d : Dev) (k p v : Int) : Int := if k = 3 then rdV d p else 0
/-- what holds of a good device -/
structure Small (d : Dev) : Prop where
  e0 : 0 ≤ d.e
  e1 : d.e ≤ 255
  l0 : 0 ≤ d.l
  l1 : d.l ≤ 255
  t0 : 0 ≤ d.t
  t1 : d.t ≤ 1000
  x : d.xs.length ≤ 4
  y : d.ys.length ≤ 200
theorem devOk_small {d : Dev} (h : devOk d = true) : Small d := by
  simp only [devOk, inR, Bool.and_eq_true, decide_eq_true_eq] at h
  obtain ⟨⟨a1, a2⟩, ⟨a3, a4⟩, _, _, h1, h2, ⟨a5, a6⟩⟩ := h
  exact ⟨a1, a2, a3, by omega, a5, a6, by omega, by omega⟩
theorem small_rd {d : Dev} (h : Small d) (p : Int) : Small (rdD d p) := by
  obtain ⟨a1, a2, a3, a4, a5, a6, a7, a8⟩ := h
  unfold rdD
  split
  · exact ⟨a1, a2, a3, a4, a5, a6, a7, a8⟩
  · split
    · exact ⟨a1, a2, a3, a4, a5, a6, a7, a8⟩
    · split
      · exact ⟨a1, a2, a3, a4, a5, a6, by simp; omega, a8⟩
      · exact ⟨a1, a2, a3, a4, a5, a6, a7, a8⟩
theorem small_wr {d : Dev} (h : Small d) (p v : Int) (v0 : 0 ≤ v) (v1 : v ≤ 255) : Small (wrD d p v) := by
  obtain ⟨a1, a2, a3, a4, a5, a6, a7, a8⟩ := h
  unfold wrD
  split
  · exact ⟨v0, v1, v0, v1, a5, a6, a7, a8⟩
  · split
    · exact ⟨a1, a2, a3, a4, a5, a6, a7, a8⟩
    · split
      · split
        · exact ⟨a1, a2, a3, a4, a5, a6, a7, by simp; omega⟩
        · exact ⟨a1, a2, a3, a4, a5, a6, a7, a8⟩
      · exact ⟨a1, a2, a3, a4, a5, a6, by simp, a8⟩
theorem small_tick {d : Dev} (h : Small d) : Small (tick d) := by
  obtain ⟨a1, a2, a3, a4, a5, a6, a7, a8⟩ := h
  unfold tick
  split
  · exact ⟨a1, a2, a3, a4, a5, a6, a7, a8⟩
  · split
    · exact ⟨a1, a2, a1, a2, a5, a6, a7, a8⟩
    · split
      · exact ⟨a1, a2, by show 0 ≤ d.l - 1; omega, by show d.l - 1 ≤ 255; omega, a5, a6, a7, a8⟩
      · exact ⟨a1, a2, a3, a4, a5, a6, a7, a8⟩
theorem small_come {d : Dev} (h : Small d) (v : Int) : Small (come d v) := by
  obtain ⟨a1, a2, a3, a4, a5, a6, a7, a8⟩ := h
  unfold come
  split
  · exact ⟨a1, a2, a3, a4, a5, a6, by simp; omega, a8⟩
  · split
    · exact ⟨a1, a2, a3, a4, by show 0 ≤ d.t + 1; omega, by show d.t + 1 ≤ 1000; omega, a7, a8⟩
    · exact ⟨a1, a2, a3, a4, a5, a6, a7, a8⟩
theorem step_ok {k p v : Int} (h : stepOk k p v = true) : (k = 1 ∧ p = 0 ∧ v = 0) ∨ (k = 2 ∧ p = 0 ∧ 0 ≤ v ∧ v ≤ 255) ∨ (k = 3 ∧ (0 ≤ p ∧ p ≤ 3) ∧ v = 0) ∨ (k = 4 ∧ (0 ≤ p ∧ p ≤ 3) ∧ 0 ≤ v ∧ v ≤ 255) := by
  unfold stepOk at h
  split at h
  · rename_i h1; simp at h; exact .inl ⟨h1, h⟩
  · split at h
    · rename_i h1; simp [inR] at h; exact .inr (.inl ⟨h1, h.1, h.2⟩)
    · split at h
      · rename_i h1; simp [port, inR] at h; exact .inr (.inr (.inl ⟨h1, h.1, h.2⟩))
      · simp [port, inR] at h; exact .inr (.inr (.inr ⟨h.1, h.2.1, h.2.2⟩))
theorem small_step {d : Dev} (h : Small d) {k p v : Int} (hs : stepOk k p v = true) : Small (stepD d k p v) := by
  have := step_ok hs
  unfold stepD
  split
  · exact small_tick h
  · split
    · exact small_come h v
    · split
      · exact small_rd h p
      · exact small_wr h p v (by omega) (by omega)
/-- behind so many steps, of a row of their numbers -/
def playD (zs : List Int) : Nat → Dev
  | 0 => devNew
  | n + 1 => stepD (playD zs n) (el zs (n * 3)) (el zs (n * 3 + 1)) (el zs (n * 3 + 2))
def playV (zs : List Int) : Nat → List Int
  | 0 => []
  | n + 1 => playV zs n ++ [stepV (playD zs n) (el zs (n * 3)) (el zs (n * 3 + 1)) (el zs (n * 3 + 2))]
def stepAt (zs : List Int) (i : Nat) : Bool := stepOk (el zs (i * 3)) (el zs (i * 3 + 1)) (el zs (i * 3 + 2))
def playOk (zs : List Int) (n : Nat) : Bool := decide (n ≤ 80) && (List.range n).all (stepAt zs)
theorem playV_len (zs : List Int) (n : Nat) : (playV zs n).length = n := by
  induction n with
  | zero => rfl
  | succ n ih => unfold playV; simp [ih]
theorem small_new : Small devNew := ⟨by decide, by decide, by decide, by decide, by decide, by decide, by decide, by decide⟩
theorem small_play (zs : List Int) (n : Nat) (h : ∀ i, i < n → stepAt zs i = true) : Small (playD zs n) := by
  induction n with
  | zero => exact small_new
  | succ n ih => unfold playD; exact small_step (ih (fun i hi => h i (by omega))) (h n (by omega))
theorem playOk_no {zs : List Int} {n i : Nat} (hi : i < n) (h : stepAt zs i = false) : playOk zs n = false := by
  cases e : playOk zs n
  · rfl
  · simp only [playOk, Bool.and_eq_true] at e
    have := List.all_eq_true.1 e.2 i (List.mem_range.2 hi)
    rw [h] at this; cases this
theorem playOk_of {zs : List Int} {n : Nat} (hn : n ≤ 80) (h : ∀ i, i < n → stepAt zs i = true) : playOk zs n = true := by
  simp only [playOk, Bool.and_eq_true, decide_eq_true_eq]
  refine ⟨hn, ?_⟩
  rw [List.all_eq_true]
  intro i hi
  exact h i (List.mem_range.1 hi)
end Go.Proofs.Ytlocilcnmbmikaa.Pl
