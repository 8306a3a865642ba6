/- A bus in numbers: its bytes as a list, its log as the row of its accesses' numbers: plain arithmetic; no Go text is spoken of here. -/
import Derived.Test.YtbkafdphagmgpaaFrame
namespace Go.Proofs.Ytbkafdphagmgpaa.Pl
set_option linter.unusedVariables false

def kind (a : Int) : Int := if 512 ≤ a ∨ (448 ≤ a ∧ a ≤ 495) then 1 else if 384 ≤ a ∧ a ≤ 447 then 3 else 0
def addr (a : Int) : Bool := decide (0 ≤ a) && decide (a ≤ 65535)
def kindV (a : Int) : Int := if addr a = true then kind a else 0
def byteOk (v : Int) : Bool := decide (0 ≤ v) && decide (v ≤ 255)
def bytesOk (xs : List Int) : Bool := xs.all byteOk
def accKind (k : Int) : Bool := decide (1 ≤ k) && decide (k ≤ 3)
def accOk (k s a v c : Int) : Bool := accKind k && (okv s v && (addr a && ((decide (0 ≤ c) && decide (c ≤ 3)) && (k != 3 || c != 0))))
def accAt (ys : List Int) (i : Nat) : Bool := accOk (el ys (i * 5)) (el ys (i * 5 + 1)) (el ys (i * 5 + 2)) (el ys (i * 5 + 3)) (el ys (i * 5 + 4))
def accsOk (ys : List Int) (m : Nat) : Bool := (List.range m).all (accAt ys)
def goodBus (xs ys : List Int) (m : Nat) : Bool := accsOk ys m && (decide (xs.length = 512) && (bytesOk xs && decide (m ≤ 400)))
/-- what an access is told -/
def code (k s a : Int) : Int :=
  if s = 2 ∧ a % 2 = 1 then 2 else if kind a = 1 ∨ kind (a + s - 1) = 1 then 1 else if k = 2 ∧ (kind a = 3 ∨ kind (a + s - 1) = 3) then 3 else 0

theorem bytesOk_at {xs : List Int} (h : bytesOk xs = true) (i : Nat) (hi : i < xs.length) : 0 ≤ el xs i ∧ el xs i ≤ 255 := by
  have := List.all_eq_true.1 h (xs[i]) (List.getElem_mem hi)
  simp [byteOk] at this
  simpa [el, hi] using this
theorem bytesOk_no {xs : List Int} {i : Nat} (hi : i < xs.length) (h : byteOk (el xs i) = false) : bytesOk xs = false := by
  cases e : bytesOk xs
  · rfl
  · have := bytesOk_at e i hi
    simp [byteOk] at h
    omega
theorem bytesOk_of {xs : List Int} (h : ∀ i, i < xs.length → byteOk (el xs i) = true) : bytesOk xs = true := by
  unfold bytesOk
  rw [List.all_eq_true]
  intro x hx
  obtain ⟨i, hi, rfl⟩ := List.getElem_of_mem hx
  simpa [el, hi] using h i hi
theorem accsOk_no {ys : List Int} {m i : Nat} (hi : i < m) (h : accAt ys i = false) : accsOk ys m = false := by
  cases e : accsOk ys m
  · rfl
  · have := List.all_eq_true.1 e i (List.mem_range.2 hi)
    rw [h] at this; cases this
theorem accsOk_of {ys : List Int} {m : Nat} (h : ∀ i, i < m → accAt ys i = true) : accsOk ys m = true := by
  unfold accsOk
  rw [List.all_eq_true]
  intro i hi
  exact h i (List.mem_range.1 hi)
end Go.Proofs.Ytbkafdphagmgpaa.Pl
