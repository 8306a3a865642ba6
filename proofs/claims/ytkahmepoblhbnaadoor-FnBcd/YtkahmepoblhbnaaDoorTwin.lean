/- Two lists that grow side by side, each in a block of its own. -/
import Derived.Test.YtkahmepoblhbnaaDoorLists
import Derived.Test.YtkahmepoblhbnaaDoorRead
import Derived.Maps.AppendAt
namespace Go.Proofs.YtkahmepoblhbnaaDoor
open Go.RowKit
set_option linter.unusedVariables false

/-- two lists that grow, each in a block of its own, above block number c -/
structure Twin (c : Nat) (w : World) (va vb : Value) (xs ys : List Int) : Prop where
  oa : w.ownsRow (c + 1) 3 1 va xs.length (xs.map (Value.int .i64))
  ob : w.ownsRow (c + 1) 3 1 vb ys.length (ys.map (Value.int .i64))
  ne : va.ownBlock = none ∨ va.ownBlock ≠ vb.ownBlock

theorem own_ne {w : World} {c : Nat} {v : Value} {n : Nat} {zs : List Value} (h : w.ownsRow (c + 1) 3 1 v n zs) : v.ownBlock = none ∨ v.ownBlock ≠ some c := by
  cases e : v.ownBlock with
  | none => exact .inl rfl
  | some k => have := (h.lt k e).1; right; simp; omega

theorem Twin.cur {c : Nat} {w w' : World} {va vb : Value} {xs ys : List Int} (h : Twin c w va vb xs ys) (hg : w.grownBy w' (some c)) : Twin c w' va vb xs ys :=
  ⟨h.oa.kept hg (own_ne h.oa), h.ob.kept hg (own_ne h.ob), h.ne⟩

theorem Twin.alloc {c : Nat} {w : World} {va vb : Value} {xs ys : List Int} (h : Twin c w va vb xs ys) (o : Obj) : Twin c (w.alloc o) va vb xs ys := ⟨h.oa.alloc o, h.ob.alloc o, h.ne⟩

theorem Twin.pushA {c : Nat} {w w1 : World} {va vb v' : Value} {xs ys : List Int} {z : Int} (h : Twin c w va vb xs ys) (hown : w1.ownsRow (c + 1) 3 1 v' (xs.length + 1) (xs.map (Value.int .i64) ++ [.int .i64 z])) (hg : w.grownBy w1 va.ownBlock) (hat : v'.ownBlock = va.ownBlock ∨ v'.ownBlock = some w.heap.size) : Twin c w1 v' vb (xs ++ [z]) ys := by
  have hb : vb.ownBlock = none ∨ vb.ownBlock ≠ va.ownBlock := by
    rcases h.ne with e | e
    · rw [e]; cases vb.ownBlock <;> simp
    · exact .inr (Ne.symm e)
  refine ⟨by simpa using hown, h.ob.kept hg hb, ?_⟩
  rcases hat with e | e
  · rw [e]; exact h.ne
  · right
    rw [e]
    intro e2
    have := (h.ob.lt _ e2.symm).2
    omega

theorem Twin.pushB {c : Nat} {w w1 : World} {va vb v' : Value} {xs ys : List Int} {z : Int} (h : Twin c w va vb xs ys) (hown : w1.ownsRow (c + 1) 3 1 v' (ys.length + 1) (ys.map (Value.int .i64) ++ [.int .i64 z])) (hg : w.grownBy w1 vb.ownBlock) (hat : v'.ownBlock = vb.ownBlock ∨ v'.ownBlock = some w.heap.size) : Twin c w1 va v' xs (ys ++ [z]) := by
  refine ⟨h.oa.kept hg h.ne, by simpa using hown, ?_⟩
  rcases hat with e | e
  · rw [e]; exact h.ne
  · cases ea : va.ownBlock with
    | none => exact .inl rfl
    | some k =>
      right
      rw [e]
      intro e2
      have := (h.oa.lt k ea).2
      simp at e2
      omega

def Small (xs : List Int) : Prop := ∀ x ∈ xs, -1 ≤ x ∧ x ≤ 65536
theorem Small.push {xs : List Int} {z : Int} (h : Small xs) (z0 : -1 ≤ z) (z1 : z ≤ 65536) : Small (xs ++ [z]) := by
  intro x hx
  rcases List.mem_append.1 hx with hx | hx
  · exact h x hx
  · simp at hx; subst hx; exact ⟨z0, z1⟩

theorem Small.wide {xs : List Int} (h : Small xs) : Wide xs := by
  intro i hi
  have := h (xs[i]) (List.getElem_mem hi)
  simp [hi]
  omega

end Go.Proofs.YtkahmepoblhbnaaDoor
