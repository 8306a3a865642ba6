/- Programs in words: plain arithmetic over lists; no Go text is spoken of here. -/
import Derived.Test.YtlbnllhabdnjjaaDoorInsPl
namespace Go.Proofs.YtlbnllhabdnjjaaDoor.Pl
set_option linter.unusedVariables false
/-- the numbers of a list of instructions, seven an instruction -/
def flat : List In → List Int
  | [] => []
  | x :: t => x.op :: x.z :: x.r :: x.m :: x.k :: x.e :: x.s :: flat t
theorem flat_len (l : List In) : (flat l).length = 7 * l.length := by
  induction l with
  | nil => rfl
  | cons x t ih => simp only [flat, List.length_cons, ih]; omega
theorem flat_snoc (l : List In) (x : In) : flat (l ++ [x]) = flat l ++ [x.op, x.z, x.r, x.m, x.k, x.e, x.s] := by
  induction l with
  | nil => rfl
  | cons y t ih => simp only [List.cons_append, flat, ih]
/-- the instructions that a list of words is, if it is some -/
def da : List Int → Option (List In)
  | [] => some []
  | [w] => if wordOk w = true ∧ longW w = 1 ∧ decOk w 0 = true then some [decode w 0] else none
  | w :: v :: t =>
    if wordOk w = true then
      if longW w = 2 then (if decOk w v = true then (da t).map (decode w v :: ·) else none)
      else (if decOk w 0 = true then (da (v :: t)).map (decode w 0 :: ·) else none)
    else none
def daOk (l : List Int) : Bool := decide ((l.length : Int) ≤ 80) && (da l).isSome
def daV (l : List Int) : List In := if daOk l = true then (da l).getD [] else []
theorem long_or (w : Int) : longW w = 1 ∨ longW w = 2 := by unfold longW; split <;> simp
theorem drop_at {l : List Int} {i : Nat} (h : i < l.length) : l.drop i = el l i :: l.drop (i + 1) := by
  rw [List.drop_eq_getElem_cons h]
  simp [el, List.getElem?_eq_getElem h]
/-- how far one has come: what the list is, is what stands already and what the rest is -/
def daFrom (l : List Int) (i : Nat) (o : List In) : Prop := da l = (da (l.drop i)).map (o ++ ·)
theorem daFrom_start (l : List Int) : daFrom l 0 [] := by
  unfold daFrom
  simp
theorem daFrom_end {l : List Int} {i : Nat} {o : List In} (h : daFrom l i o) (hi : l.length ≤ i) : da l = some o := by
  unfold daFrom at h
  rw [h, List.drop_eq_nil_of_le hi]
  simp [da]
theorem daFrom_word {l : List Int} {i : Nat} {o : List In} (h : daFrom l i o) (hi : i < l.length) (hw : wordOk (el l i) = false) : da l = none := by
  unfold daFrom at h
  rw [h, drop_at hi]
  cases hd : l.drop (i + 1) with
  | nil => simp [da, hw]
  | cons v t => simp [da, hw]
theorem daFrom_short {l : List Int} {i : Nat} {o : List In} (h : daFrom l i o) (hi : i < l.length) (hL : longW (el l i) = 2) (he : i + 1 = l.length) : da l = none := by
  unfold daFrom at h
  rw [h, drop_at hi, List.drop_eq_nil_of_le (by omega)]
  simp [da, hL]
theorem daFrom_two {l : List Int} {i : Nat} {o : List In} (h : daFrom l i o) (hi : i + 1 < l.length) (hw : wordOk (el l i) = true) (hL : longW (el l i) = 2) :
    (decOk (el l i) (el l (i + 1)) = false → da l = none) ∧ (decOk (el l i) (el l (i + 1)) = true → daFrom l (i + 2) (o ++ [decode (el l i) (el l (i + 1))])) := by
  unfold daFrom at h ⊢
  rw [drop_at (by omega), drop_at hi] at h
  refine ⟨fun hd => ?_, fun hd => ?_⟩
  · rw [h]; simp [da, hw, hL, hd]
  · rw [h]
    simp only [da, hw, hL, hd, if_true]
    cases da (l.drop (i + 1 + 1)) <;> simp
theorem daFrom_one {l : List Int} {i : Nat} {o : List In} (h : daFrom l i o) (hi : i < l.length) (hw : wordOk (el l i) = true) (hL : longW (el l i) = 1) :
    (decOk (el l i) 0 = false → da l = none) ∧ (decOk (el l i) 0 = true → daFrom l (i + 1) (o ++ [decode (el l i) 0])) := by
  unfold daFrom at h ⊢
  rw [drop_at hi] at h
  refine ⟨fun hd => ?_, fun hd => ?_⟩
  · rw [h]
    cases hq : l.drop (i + 1) with
    | nil => simp [da, hd]
    | cons v t => simp [da, hw, hL, hd]
  · rw [h]
    cases hq : l.drop (i + 1) with
    | nil => simp [da, hw, hL, hd]
    | cons v t =>
      have hne : ¬ longW (el l i) = 2 := by omega
      simp only [da, hw, hd, if_true, if_neg hne]
      cases da (v :: t) <;> simp
end Go.Proofs.YtlbnllhabdnjjaaDoor.Pl
