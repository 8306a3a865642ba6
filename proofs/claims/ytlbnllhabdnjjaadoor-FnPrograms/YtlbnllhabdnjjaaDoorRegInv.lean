/- A region that draws its order, by what holds whatever has come up so far: every order at once. -/
import Derived.Test.YtlbnllhabdnjjaaDoorGrA
import Derived.RegionTactic
namespace Go.Proofs.YtlbnllhabdnjjaaDoor
open Go.RowKit
set_option linter.unusedVariables false

/-- operation k of the region waits for operation j -/
def waitsB (md : Region.Mode) (ops : Array Oper) (i k : Nat) : Bool := ((ops[i]?).map fun o => o.after.any fun e => Region.binds md e && e.on == k).getD false
theorem ready_new {md : Region.Mode} {ops : Array Oper} {l : Array Bool} {i : Nat} (h : i ∈ Region.ready md ops l) : i < ops.size ∧ l.getD i true = false := by
  unfold Region.ready at h
  rw [List.mem_filter, Bool.and_eq_true] at h
  refine ⟨List.mem_range.1 h.1, ?_⟩
  have := h.2.1
  revert this
  cases l.getD i true <;> simp
theorem getD_true {l : Array Bool} {k : Nat} (h : l.getD k false = true) : l.getD k true = true := by
  unfold Array.getD at *
  split
  · rename_i hk; simpa [hk] using h
  · rfl
theorem ready_dep {md : Region.Mode} {ops : Array Oper} {l : Array Bool} {i : Nat} (h : i ∈ Region.ready md ops l) (k : Nat) (hk : waitsB md ops i k = true) : l.getD k true = true := by
  unfold Region.ready at h
  rw [List.mem_filter, Bool.and_eq_true] at h
  have h2 := h.2.2
  unfold waitsB at hk
  cases ho : ops[i]? with
  | none => rw [ho] at hk; simp at hk
  | some o =>
    rw [ho] at hk h2
    simp only [Option.map_some, Option.getD_some] at hk h2
    rw [Array.any_eq_true'] at hk
    obtain ⟨e, he, hb⟩ := hk
    rw [Array.all_eq_true'] at h2
    have h3 := h2 e he
    rw [Bool.and_eq_true] at hb
    rw [hb.1] at h3
    have h4 : e.on = k := by simpa using hb.2
    rw [h4] at h3
    exact getD_true (by simpa using h3)
theorem filter_lt {xs : List Nat} {p q : Nat → Bool} (hpq : ∀ x, q x = true → p x = true) {i : Nat} (hi : i ∈ xs) (hp : p i = true) (hq : q i = false) : (xs.filter q).length < (xs.filter p).length := by
  induction xs with
  | nil => cases hi
  | cons x t ih =>
    have hle : (t.filter q).length ≤ (t.filter p).length := by
      clear ih hi
      induction t with
      | nil => simp
      | cons y t ih =>
        cases h1 : q y
        · cases h2 : p y <;> simp [h1, h2] <;> omega
        · simp [h1, hpq y h1]; exact ih
    rcases List.mem_cons.1 hi with rfl | hi
    · simp [hp, hq]; omega
    · have := ih hi
      cases h1 : q x
      · cases h2 : p x <;> simp [h1, h2] <;> omega
      · simp [h1, hpq x h1]; exact this
theorem getD_set_ne {l : Array Bool} {i j : Nat} (h : j ≠ i) : (l.setIfInBounds i true).getD j true = l.getD j true := by
  simp only [Array.getD_eq_getD_getElem?]
  rw [Array.getElem?_setIfInBounds_ne (Ne.symm h)]
theorem getD_set_eq {l : Array Bool} {i : Nat} : (l.setIfInBounds i true).getD i true = true := by
  simp only [Array.getD_eq_getD_getElem?, Array.getElem?_setIfInBounds]
  split
  · split <;> rfl
  · rename_i h; exact absurd trivial h

theorem getD_mono {l : Array Bool} {i j : Nat} (h : l.getD j true = true) : (l.setIfInBounds i true).getD j true = true := by
  by_cases e : j = i
  · subst e; exact getD_set_eq
  · rw [getD_set_ne e]; exact h

theorem wpAny_inv {P : Program} {md : Region.Mode} {ops : Array Oper} {Q : Exit → Act → World → Prop} {I : Array Bool → Act → World → Prop}
    (hfin : ∀ l a w, l.size = ops.size → I l a w → Region.ready md ops l = [] → Q .normal a w)
    (hstep : ∀ l a w i, I l a w → i ∈ Region.ready md ops l → wpOp P ops Q i (I (l.setIfInBounds i true)) a w) :
    ∀ (fuel : Nat) (l : Array Bool) (a : Act) (w : World), l.size = ops.size → ((List.range ops.size).filter fun i => !l.getD i true).length ≤ fuel → I l a w → wpAny P md ops Q fuel l a w := by
  intro fuel
  induction fuel with
  | zero =>
    intro l a w hz hn hI
    have h0 : Region.ready md ops l = [] := by
      cases hr : Region.ready md ops l with
      | nil => rfl
      | cons i t =>
        exfalso
        have hi : i ∈ Region.ready md ops l := by rw [hr]; simp
        obtain ⟨h1, h2⟩ := ready_new hi
        have : i ∈ (List.range ops.size).filter fun i => !l.getD i true := List.mem_filter.2 ⟨List.mem_range.2 h1, by rw [h2]; rfl⟩
        have := List.length_pos_of_mem this
        omega
    exact ⟨h0, hfin l a w hz hI h0⟩
  | succ n ih =>
    intro l a w hz hn hI
    refine ⟨fun h0 => hfin l a w hz hI h0, fun i hi => ?_⟩
    refine wpOp_mono (fun a' w' h' => ih _ a' w' (by simp [hz]) ?_ h') (hstep l a w i hI hi)
    obtain ⟨h1, h2⟩ := ready_new hi
    have := filter_lt (xs := List.range ops.size) (p := fun j => !l.getD j true) (q := fun j => !(l.setIfInBounds i true).getD j true) (i := i) (by
      intro x hx
      by_cases e : x = i
      · subst e; rw [h2]; rfl
      · rw [getD_set_ne e] at hx; exact hx) (List.mem_range.2 h1) (by rw [h2]; rfl) (by rw [getD_set_eq]; rfl)
    omega

/-- an operation waits for earlier ones alone -/
def lowB (md : Region.Mode) (ops : Array Oper) : Bool := (List.range ops.size).all fun i => ((ops[i]?).map fun o => o.after.all fun e => !Region.binds md e || decide (e.on < i)).getD true
theorem ready_none {md : Region.Mode} {ops : Array Oper} {l : Array Bool} (hz : l.size = ops.size) (hB : lowB md ops = true) (h0 : Region.ready md ops l = []) : ∀ i, i < ops.size → l.getD i true = true := by
  intro i
  induction i using Nat.strongRecOn with
  | ind i ih =>
    intro hi
    cases hl : l.getD i true
    · exfalso
      have hm : i ∈ Region.ready md ops l := by
        unfold Region.ready
        rw [List.mem_filter, Bool.and_eq_true]
        refine ⟨List.mem_range.2 hi, by rw [hl]; rfl, ?_⟩
        have hb := List.all_eq_true.1 hB i (List.mem_range.2 hi)
        rw [Array.getElem?_eq_getElem hi] at hb ⊢
        simp only [Option.map_some, Option.getD_some] at hb ⊢
        rw [Array.all_eq_true'] at hb ⊢
        intro e he
        have h1 := hb e he
        rw [Bool.or_eq_true] at h1 ⊢
        rcases h1 with h1 | h1
        · exact .inl h1
        · have h2 : e.on < i := by simpa using h1
          have h3 := ih e.on h2 (by omega)
          refine .inr ?_
          unfold Array.getD at h3 ⊢
          split
          · rename_i hk; simpa [hk] using h3
          · rename_i hk; omega
      rw [h0] at hm
      cases hm
    · rfl
theorem wp_region_inv {P : Program} {ops : Array Oper} {Q : Exit → Act → World → Prop} {id : Nat} {a : Act} {w : World} (I : Array Bool → Act → World → Prop) (hm : P.follows .mixedOrders = true) (hB : lowB .any ops = true)
    (hstart : I (Array.replicate ops.size false) a w.drew)
    (hfin : ∀ l a w, I l a w → (∀ i, i < ops.size → l.getD i true = true) → Q .normal a w)
    (hstep : ∀ l a w i, I l a w → i ∈ Region.ready .any ops l → wpOp P ops Q i (I (l.setIfInBounds i true)) a w) :
    (Code.region id ops true).wp P Q a w := by
  refine wp_region_any hm (wpAny_inv (I := I) (fun l a w hz h h0 => hfin l a w h (ready_none hz hB h0)) hstep _ _ _ _ (by simp) ?_ hstart)
  exact Nat.le_trans (List.length_filter_le _ _) (by simp)

/-- what holds once operation i has come up -/
def Once (l : Array Bool) (i : Nat) (p : Prop) : Prop := l.getD i true = true → p
theorem Once.past {l : Array Bool} {i j : Nat} {p q : Prop} (h : Once l j p) (hn : j ≠ i) (hp : p → q) : Once (l.setIfInBounds i true) j q := fun e => hp (h (by rwa [getD_set_ne hn] at e))
theorem Once.now {l : Array Bool} {i j : Nat} {p : Prop} (h : p) : Once (l.setIfInBounds i true) j p := fun _ => h
theorem once_start {n i : Nat} {p : Prop} (hi : i < n) : Once (Array.replicate n false) i p := by
  intro e
  simp [Array.getD_eq_getD_getElem?, hi] at e
theorem start_at {n i : Nat} (hi : i < n) : (Array.replicate n false).getD i true = false := by
  simp [Array.getD_eq_getD_getElem?, hi]
end Go.Proofs.YtlbnllhabdnjjaaDoor
