/- What the model's GoodIns answers, for every instruction. What the model's small functions of chapter 1 answer, for every argument: one contract a function; none changes the world. What the program's test of a value of a size answers: one contract a function; none changes the world. What the small functions of chapter 1 and of its model answer, for every argument: one contract a function; none changes the world. What the model's conditions answer. A region that draws its order, by what holds whatever has come up so far: every order at once. A frame of which some slots alone are written: for a drawn region walked by what holds, the frame a variable. What the program's tests of words, sizes and register numbers answer; none changes the world. The ways to name an operand, as the program holds them: one type a way; the operand that each comes back as. The region of the program's GoodOperand, drawn and guarded: every way to name an operand, every order at once. What the model tells of flags that nobody reads: one contract a function. An instruction whose fields fit into its words: plain arithmetic; no Go text is spoken of here. What the program's GoodOperand answers, for every argument. The ways to name an operand, as the program holds them: told apart. What the program's NeedsExt answers, for every argument. What the program's wrapWord answers. What the program's small functions of chapter 7 answer: tests of modes, the first word, the instruction of two words. What the program's conditions (chapter 8) answer: one contract a function. -/
import Derived.Test.YtloaedfoecjalaaDE2
import Derived.Test.YtloaedfoecjalaaDE3
import Derived.Test.YtloaedfoecjalaaDE4
import Derived.Test.YtloaedfoecjalaaDE5
import Derived.Test.YtloaedfoecjalaaDE1
import Derived.Deep.AppendLies
import Derived.RegionTactic
import Derived.Deep.RegionHeld3
import Derived.BigQuiet
import Derived.Deep.QuietTactic
namespace Go.Proofs.Ytloaedfoecjalaa
open Go.RowKit
set_option linter.unusedVariables false
set_option linter.unusedSimpArgs false
set_option maxRecDepth 100000 in
set_option maxHeartbeats 4000000 in
theorem specGoodIns (w : World) (op z r m k e s : Int) :
    Calls Try.prog 29 #[.agg (inA op z r m k e s)] w fun r' w' => r' = .returned (.bool (Pl.inOk ⟨op, z, r, m, k, e, s⟩)) ∧ Kept 0 0 w w' := by
  have K0 := hide (kept_alloc w (.cells (inA op z r m k e s) 30))
  have B0 := hide (Blk.new w (inA op z r m k e s) 30)
  cases h1 : (decide (z = 1) || decide (z = 2))
  · have G : Hid (Pl.inOk ⟨op, z, r, m, k, e, s⟩ = false) := hide (by simp only [Pl.inOk, Pl.inBase, h1]; rfl)
    go_enter Try.func29, Try.ntmps29
    go_wp2_with (first | (go_at_call 47; refine (specSize _ _).mono ?_; rintro e9 w' ⟨rfl, hw⟩; have hw2 := hw.symm; clear hw; subst hw2; rw [h1]))
    go_ret
    exact ⟨rB G.out.symm, K0.out⟩
  · cases h2 : Pl.within r 0 3
    · have G : Hid (Pl.inOk ⟨op, z, r, m, k, e, s⟩ = false) := hide (by simp only [Pl.inOk, Pl.inBase, h1, h2]; rfl)
      go_enter Try.func29, Try.ntmps29
      go_wp2_with (first | (go_at_call 47; refine (specSize _ _).mono ?_; rintro e9 w' ⟨rfl, hw⟩; have hw2 := hw.symm; clear hw; subst hw2; rw [h1]) | (go_at_call 48; refine (l1In _ _ _ _).mono ?_; rintro e9 w' ⟨rfl, hw⟩; have hw2 := hw.symm; clear hw; subst hw2; rw [show (decide (0 ≤ r) && decide (r ≤ 3)) = Pl.within r 0 3 from rfl, h2]))
      go_ret
      exact ⟨rB G.out.symm, K0.out⟩
    · cases h3 : Pl.opOk m k e
      · have G : Hid (Pl.inOk ⟨op, z, r, m, k, e, s⟩ = false) := hide (by simp only [Pl.inOk, Pl.inBase, h1, h2, h3]; rfl)
        go_enter Try.func29, Try.ntmps29
        go_wp2_with (first | (go_at_call 47; refine (specSize _ _).mono ?_; rintro e9 w' ⟨rfl, hw⟩; have hw2 := hw.symm; clear hw; subst hw2; rw [h1]) | (go_at_call 48; refine (l1In _ _ _ _).mono ?_; rintro e9 w' ⟨rfl, hw⟩; have hw2 := hw.symm; clear hw; subst hw2; rw [show (decide (0 ≤ r) && decide (r ≤ 3)) = Pl.within r 0 3 from rfl, h2]) | (go_at_call 49; refine (specGoodOperand _ m k e).mono ?_; rintro e9 w2 ⟨rfl, k2⟩; rw [h3]; have B2 := hide (B0.out.kept0 k2); have K2 := hide (K0.out.trans k2); have c0 := B2.out.cell (i := 0) rfl; have c1 := B2.out.cell (i := 1) rfl; have c2 := B2.out.cell (i := 2) rfl; have c3 := B2.out.cell (i := 3) rfl; have c4 := B2.out.cell (i := 4) rfl; have c5 := B2.out.cell (i := 5) rfl; have c6 := B2.out.cell (i := 6) rfl; clear k2))
        go_ret
        exact ⟨rB G.out.symm, K2.out⟩
      · cases h4 : Pl.within s 0 7
        · have G : Hid (Pl.inOk ⟨op, z, r, m, k, e, s⟩ = false) := hide (by simp only [Pl.inOk, Pl.inBase, h1, h2, h3, h4]; rfl)
          go_enter Try.func29, Try.ntmps29
          go_wp2_with (first | (go_at_call 48; have z9 := B2; refine (l1In _ _ _ _).mono ?_; rintro e9 w' ⟨rfl, hw⟩; have hw2 := hw.symm; clear hw; subst hw2; rw [show (decide (0 ≤ s) && decide (s ≤ 7)) = Pl.within s 0 7 from rfl, h4]) | (go_at_call 47; refine (specSize _ _).mono ?_; rintro e9 w' ⟨rfl, hw⟩; have hw2 := hw.symm; clear hw; subst hw2; rw [h1]) | (go_at_call 48; refine (l1In _ _ _ _).mono ?_; rintro e9 w' ⟨rfl, hw⟩; have hw2 := hw.symm; clear hw; subst hw2; rw [show (decide (0 ≤ r) && decide (r ≤ 3)) = Pl.within r 0 3 from rfl, h2]) | (go_at_call 49; refine (specGoodOperand _ m k e).mono ?_; rintro e9 w2 ⟨rfl, k2⟩; rw [h3]; have B2 := hide (B0.out.kept0 k2); have K2 := hide (K0.out.trans k2); have c0 := B2.out.cell (i := 0) rfl; have c1 := B2.out.cell (i := 1) rfl; have c2 := B2.out.cell (i := 2) rfl; have c3 := B2.out.cell (i := 3) rfl; have c4 := B2.out.cell (i := 4) rfl; have c5 := B2.out.cell (i := 5) rfl; have c6 := B2.out.cell (i := 6) rfl; clear k2))
          go_ret
          exact ⟨rB G.out.symm, K2.out⟩
        · cases h6 : (m == 7)
          · clear K0 B0
            simp at h1
            rcases h1 with rfl | rfl
            · exact goodInsA1 w op r m k e s h2 h3 h4 h6
            · exact goodInsA2 w op r m k e s h2 h3 h4 h6
          · have hm : m = 7 := by simpa using h6
            subst hm
            have h1b := h1
            simp at h1b
            rcases h1b with rfl | rfl
            · cases h8 : decide (255 < e)
              · exact goodInsB1 w op r k e s h2 h3 h4 h8
              · have G : Hid (Pl.inOk ⟨op, 1, r, 7, k, e, s⟩ = false) := hide (by simp only [Pl.inOk, Pl.inBase, Pl.byteNow, h2, h3, h4, h8]; rfl)
                go_enter Try.func29, Try.ntmps29
                go_wp2_with (first | (go_at_call 48; have z9 := B2; refine (l1In _ _ _ _).mono ?_; rintro e9 w' ⟨rfl, hw⟩; have hw2 := hw.symm; clear hw; subst hw2; rw [show (decide (0 ≤ s) && decide (s ≤ 7)) = Pl.within s 0 7 from rfl, h4]) | (go_at_call 47; refine (specSize _ _).mono ?_; rintro e9 w' ⟨rfl, hw⟩; have hw2 := hw.symm; clear hw; subst hw2; rw [h1]) | (go_at_call 48; refine (l1In _ _ _ _).mono ?_; rintro e9 w' ⟨rfl, hw⟩; have hw2 := hw.symm; clear hw; subst hw2; rw [show (decide (0 ≤ r) && decide (r ≤ 3)) = Pl.within r 0 3 from rfl, h2]) | (go_at_call 49; refine (specGoodOperand _ 7 k e).mono ?_; rintro e9 w2 ⟨rfl, k2⟩; rw [h3]; have B2 := hide (B0.out.kept0 k2); have K2 := hide (K0.out.trans k2); have c0 := B2.out.cell (i := 0) rfl; have c1 := B2.out.cell (i := 1) rfl; have c2 := B2.out.cell (i := 2) rfl; have c3 := B2.out.cell (i := 3) rfl; have c4 := B2.out.cell (i := 4) rfl; have c5 := B2.out.cell (i := 5) rfl; have c6 := B2.out.cell (i := 6) rfl; clear k2))
                go_ret
                exact ⟨rB G.out.symm, K2.out⟩
            · exact goodInsB2 w op r k e s h2 h3 h4
end Go.Proofs.Ytloaedfoecjalaa

namespace Go.Proofs.Ytloaedfoecjalaa
open Go.RowKit
set_option linter.unusedVariables false

theorem l1Flag (b : Bool) (f : Int) (w : World) :
    Calls Try.prog 54 #[.bool b, iv f] w fun e w' => e = .returned (iv (Pl.fl b f)) ∧ w' = w := by
  cases b
  all_goals
    go_enter Try.func54, Try.ntmps54
    go_wp2
    go_ret
    exact ⟨rfl, rfl⟩

end Go.Proofs.Ytloaedfoecjalaa

namespace Go.Proofs.Ytloaedfoecjalaa
open Go.RowKit
set_option linter.unusedVariables false

theorem signedAs8 (v : Int) (w : World) (lo : -9223372036854775808 ≤ v) (hi : v ≤ 9223372036854775807) :
    Calls Try.prog 88 #[iv v] w fun e w' => e = .returned (.tuple #[iv (Pl.sgnV 1 v), .bool (Pl.okv 1 v)]) ∧ w' = w := by
  by_cases h : 0 ≤ v ∧ v < 256
  · obtain ⟨h0, h1⟩ := h
    have hs : IntKind.u8.signed = false := rfl
    have hm : IntKind.u8.max = 255 := by decide
    have hb : bits .xor .u8 255 0 = 255 := by decide
    by_cases h : 127 < v
    all_goals
      go_enter Try.func88, Try.ntmps88
      go_wp2
      go_ret2
      exact ⟨rIB (by simp [Pl.sgnV, Pl.okv, Pl.sg, Pl.top, h0, h1]; omega) (by simp [Pl.okv, Pl.top, h0, h1]), rfl⟩
  · go_enter Try.func88, Try.ntmps88
    go_wp2
    go_ret2
    have k : Pl.okv 1 v = false := by
      cases c : Pl.okv 1 v
      · rfl
      · have := Pl.top_ok c; omega
    exact ⟨rIB (by simp [Pl.sgnV, k]) k.symm, rfl⟩

theorem signedAs16 (v : Int) (w : World) (lo : -9223372036854775808 ≤ v) (hi : v ≤ 9223372036854775807) :
    Calls Try.prog 89 #[iv v] w fun e w' => e = .returned (.tuple #[iv (Pl.sgnV 2 v), .bool (Pl.okv 2 v)]) ∧ w' = w := by
  by_cases h : 0 ≤ v ∧ v < 65536
  · obtain ⟨h0, h1⟩ := h
    have hs : IntKind.u16.signed = false := rfl
    have hm : IntKind.u16.max = 65535 := by decide
    have hb : bits .xor .u16 65535 0 = 65535 := by decide
    by_cases h : 32767 < v
    all_goals
      go_enter Try.func89, Try.ntmps89
      go_wp2
      go_ret2
      exact ⟨rIB (by simp [Pl.sgnV, Pl.okv, Pl.sg, Pl.top, h0, h1]; omega) (by simp [Pl.okv, Pl.top, h0, h1]), rfl⟩
  · have hw : IntKind.u16.wrap v = v % 65536 := IntKind.wrap_u16 v
    go_enter Try.func89, Try.ntmps89
    go_wp2
    go_ret2
    have k : Pl.okv 2 v = false := by
      cases c : Pl.okv 2 v
      · rfl
      · have := Pl.top_ok c; omega
    exact ⟨rIB (by simp [Pl.sgnV, k]) k.symm, rfl⟩

theorem signedOf (s v : Int) (w : World) (lo : -9223372036854775808 ≤ v) (hi : v ≤ 9223372036854775807) :
    Calls Try.prog 85 #[iv s, iv v] w fun e w' => e = .returned (.tuple #[iv (Pl.sgnV s v), .bool (Pl.okv s v)]) ∧ w' = w := by
  by_cases h1 : s = 1
  · subst h1
    go_enter Try.func85, Try.ntmps85
    go_wp2_with fail
    refine (signedAs8 v _ lo hi).mono ?_
    rintro e w' ⟨rfl, rfl⟩
    go_wp2_with fail
    go_ret2
    exact ⟨rfl, rfl⟩
  · by_cases h2 : s = 2
    · subst h2
      go_enter Try.func85, Try.ntmps85
      go_wp2_with fail
      refine (signedAs16 v _ lo hi).mono ?_
      rintro e w' ⟨rfl, rfl⟩
      go_wp2_with fail
      go_ret2
      exact ⟨rfl, rfl⟩
    · have k : Pl.okv s v = false := by simp [Pl.okv, h1, h2]
      have k1 : (s == 1) = false := by simpa using h1
      have k2 : (s == 2) = false := by simpa using h2
      go_enter Try.func85, Try.ntmps85
      go_wp2_with fail
      go_ret2
      exact ⟨rIB (by simp [Pl.sgnV, k]) k.symm, rfl⟩

end Go.Proofs.Ytloaedfoecjalaa

namespace Go.Proofs.Ytloaedfoecjalaa
open Go.RowKit
set_option linter.unusedVariables false

/-! ### the program's own -/

theorem flagsIf (b : Bool) (f : Int) (w : World) :
    Calls Try.prog 59 #[.bool b, iv f] w fun e w' => e = .returned (iv (Pl.fl b f)) ∧ w' = w := by
  cases b
  all_goals
    go_enter Try.func59, Try.ntmps59
    go_wp2
    go_ret
    exact ⟨rfl, rfl⟩

/-! ### the model's -/

end Go.Proofs.Ytloaedfoecjalaa

namespace Go.Proofs.Ytloaedfoecjalaa
open Go.RowKit
set_option linter.unusedVariables false
theorem specNeed (k : Nat) (hk : k < 16) (w : World) : Calls Try.prog 61 #[iv (k : Int)] w fun e w' => e = .returned (iv (Pl.need k)) ∧ w' = w := by
  have hE := Pl.bit_even k hk
  have hc : (k : Int) - (k : Int) % 2 = 0 ∨ (k : Int) - (k : Int) % 2 = 2 ∨ (k : Int) - (k : Int) % 2 = 4 ∨ (k : Int) - (k : Int) % 2 = 6 ∨ (k : Int) - (k : Int) % 2 = 8 ∨ (k : Int) - (k : Int) % 2 = 10 ∨ (k : Int) - (k : Int) % 2 = 12 ∨ (k : Int) - (k : Int) % 2 = 14 := by omega
  rcases hc with h | h | h | h | h | h | h | h <;> (
    have G : Hid (Pl.need (k : Int) = _) := hide (by unfold Pl.need; rw [h])
    rw [h] at hE
    clear h
    go_enter Try.func61, Try.ntmps61
    go_wp2
    go_ret
    exact ⟨rI (by rw [G.out]; rfl), rfl⟩)
end Go.Proofs.Ytloaedfoecjalaa

namespace Go.Proofs.Ytloaedfoecjalaa
open Go.RowKit
set_option linter.unusedVariables false

/-- operation k of the region waits for operation j -/
def waitsB (md : Region.Mode) (ops : Array Oper) (i k : Nat) : Bool := ((ops[i]?).map fun o => o.after.any fun e => Region.binds md e && e.on == k).getD false
theorem ready_new {md : Region.Mode} {ops : Array Oper} {l : Array Bool} {i : Nat} (h : i ∈ Region.ready md ops l) : i < ops.size ∧ l.getD i true = false := by
  unfold Region.ready at h
  rw [List.mem_filter, Bool.and_eq_true] at h
  refine ⟨List.mem_range.1 h.1, ?_⟩
  have := h.2.1
  revert this
  cases l.getD i true <;> simp
theorem getD_true {l : Array Bool} {k : Nat} (h : l.getD k false = true) : l.getD k true = true := by
  unfold Array.getD at *
  split
  · rename_i hk; simpa [hk] using h
  · rfl
theorem ready_dep {md : Region.Mode} {ops : Array Oper} {l : Array Bool} {i : Nat} (h : i ∈ Region.ready md ops l) (k : Nat) (hk : waitsB md ops i k = true) : l.getD k true = true := by
  unfold Region.ready at h
  rw [List.mem_filter, Bool.and_eq_true] at h
  have h2 := h.2.2
  unfold waitsB at hk
  cases ho : ops[i]? with
  | none => rw [ho] at hk; simp at hk
  | some o =>
    rw [ho] at hk h2
    simp only [Option.map_some, Option.getD_some] at hk h2
    rw [Array.any_eq_true'] at hk
    obtain ⟨e, he, hb⟩ := hk
    rw [Array.all_eq_true'] at h2
    have h3 := h2 e he
    rw [Bool.and_eq_true] at hb
    rw [hb.1] at h3
    have h4 : e.on = k := by simpa using hb.2
    rw [h4] at h3
    exact getD_true (by simpa using h3)
theorem filter_lt {xs : List Nat} {p q : Nat → Bool} (hpq : ∀ x, q x = true → p x = true) {i : Nat} (hi : i ∈ xs) (hp : p i = true) (hq : q i = false) : (xs.filter q).length < (xs.filter p).length := by
  induction xs with
  | nil => cases hi
  | cons x t ih =>
    have hle : (t.filter q).length ≤ (t.filter p).length := by
      clear ih hi
      induction t with
      | nil => simp
      | cons y t ih =>
        cases h1 : q y
        · cases h2 : p y <;> simp [h1, h2] <;> omega
        · simp [h1, hpq y h1]; exact ih
    rcases List.mem_cons.1 hi with rfl | hi
    · simp [hp, hq]; omega
    · have := ih hi
      cases h1 : q x
      · cases h2 : p x <;> simp [h1, h2] <;> omega
      · simp [h1, hpq x h1]; exact this
theorem getD_set_ne {l : Array Bool} {i j : Nat} (h : j ≠ i) : (l.setIfInBounds i true).getD j true = l.getD j true := by
  simp only [Array.getD_eq_getD_getElem?]
  rw [Array.getElem?_setIfInBounds_ne (Ne.symm h)]
theorem getD_set_eq {l : Array Bool} {i : Nat} : (l.setIfInBounds i true).getD i true = true := by
  simp only [Array.getD_eq_getD_getElem?, Array.getElem?_setIfInBounds]
  split
  · split <;> rfl
  · rename_i h; exact absurd trivial h

theorem wpAny_inv {P : Program} {md : Region.Mode} {ops : Array Oper} {Q : Exit → Act → World → Prop} {I : Array Bool → Act → World → Prop}
    (hfin : ∀ l a w, l.size = ops.size → I l a w → Region.ready md ops l = [] → Q .normal a w)
    (hstep : ∀ l a w i, I l a w → i ∈ Region.ready md ops l → wpOp P ops Q i (I (l.setIfInBounds i true)) a w) :
    ∀ (fuel : Nat) (l : Array Bool) (a : Act) (w : World), l.size = ops.size → ((List.range ops.size).filter fun i => !l.getD i true).length ≤ fuel → I l a w → wpAny P md ops Q fuel l a w := by
  intro fuel
  induction fuel with
  | zero =>
    intro l a w hz hn hI
    have h0 : Region.ready md ops l = [] := by
      cases hr : Region.ready md ops l with
      | nil => rfl
      | cons i t =>
        exfalso
        have hi : i ∈ Region.ready md ops l := by rw [hr]; simp
        obtain ⟨h1, h2⟩ := ready_new hi
        have : i ∈ (List.range ops.size).filter fun i => !l.getD i true := List.mem_filter.2 ⟨List.mem_range.2 h1, by rw [h2]; rfl⟩
        have := List.length_pos_of_mem this
        omega
    exact ⟨h0, hfin l a w hz hI h0⟩
  | succ n ih =>
    intro l a w hz hn hI
    refine ⟨fun h0 => hfin l a w hz hI h0, fun i hi => ?_⟩
    refine wpOp_mono (fun a' w' h' => ih _ a' w' (by simp [hz]) ?_ h') (hstep l a w i hI hi)
    obtain ⟨h1, h2⟩ := ready_new hi
    have := filter_lt (xs := List.range ops.size) (p := fun j => !l.getD j true) (q := fun j => !(l.setIfInBounds i true).getD j true) (i := i) (by
      intro x hx
      by_cases e : x = i
      · subst e; rw [h2]; rfl
      · rw [getD_set_ne e] at hx; exact hx) (List.mem_range.2 h1) (by rw [h2]; rfl) (by rw [getD_set_eq]; rfl)
    omega

/-- an operation waits for earlier ones alone -/
def lowB (md : Region.Mode) (ops : Array Oper) : Bool := (List.range ops.size).all fun i => ((ops[i]?).map fun o => o.after.all fun e => !Region.binds md e || decide (e.on < i)).getD true
theorem ready_none {md : Region.Mode} {ops : Array Oper} {l : Array Bool} (hz : l.size = ops.size) (hB : lowB md ops = true) (h0 : Region.ready md ops l = []) : ∀ i, i < ops.size → l.getD i true = true := by
  intro i
  induction i using Nat.strongRecOn with
  | ind i ih =>
    intro hi
    cases hl : l.getD i true
    · exfalso
      have hm : i ∈ Region.ready md ops l := by
        unfold Region.ready
        rw [List.mem_filter, Bool.and_eq_true]
        refine ⟨List.mem_range.2 hi, by rw [hl]; rfl, ?_⟩
        have hb := List.all_eq_true.1 hB i (List.mem_range.2 hi)
        rw [Array.getElem?_eq_getElem hi] at hb ⊢
        simp only [Option.map_some, Option.getD_some] at hb ⊢
        rw [Array.all_eq_true'] at hb ⊢
        intro e he
        have h1 := hb e he
        rw [Bool.or_eq_true] at h1 ⊢
        rcases h1 with h1 | h1
        · exact .inl h1
        · have h2 : e.on < i := by simpa using h1
          have h3 := ih e.on h2 (by omega)
          refine .inr ?_
          unfold Array.getD at h3 ⊢
          split
          · rename_i hk; simpa [hk] using h3
          · rename_i hk; omega
      rw [h0] at hm
      cases hm
    · rfl
theorem wp_region_inv {P : Program} {ops : Array Oper} {Q : Exit → Act → World → Prop} {id : Nat} {a : Act} {w : World} (I : Array Bool → Act → World → Prop) (hm : P.follows .mixedOrders = true) (hB : lowB .any ops = true)
    (hstart : I (Array.replicate ops.size false) a w.drew)
    (hfin : ∀ l a w, I l a w → (∀ i, i < ops.size → l.getD i true = true) → Q .normal a w)
    (hstep : ∀ l a w i, I l a w → i ∈ Region.ready .any ops l → wpOp P ops Q i (I (l.setIfInBounds i true)) a w) :
    (Code.region id ops true).wp P Q a w := by
  refine wp_region_any hm (wpAny_inv (I := I) (fun l a w hz h h0 => hfin l a w h (ready_none hz hB h0)) hstep _ _ _ _ (by simp) ?_ hstart)
  exact Nat.le_trans (List.length_filter_le _ _) (by simp)

/-- what holds once operation i has come up -/
def Once (l : Array Bool) (i : Nat) (p : Prop) : Prop := l.getD i true = true → p
theorem Once.past {l : Array Bool} {i j : Nat} {p q : Prop} (h : Once l j p) (hn : j ≠ i) (hp : p → q) : Once (l.setIfInBounds i true) j q := fun e => hp (h (by rwa [getD_set_ne hn] at e))
theorem Once.now {l : Array Bool} {i j : Nat} {p : Prop} (h : p) : Once (l.setIfInBounds i true) j p := fun _ => h
theorem once_start {n i : Nat} {p : Prop} (hi : i < n) : Once (Array.replicate n false) i p := by
  intro e
  simp [Array.getD_eq_getD_getElem?, hi] at e
end Go.Proofs.Ytloaedfoecjalaa

namespace Go.Proofs.Ytloaedfoecjalaa
open Go.RowKit
set_option linter.unusedVariables false

/-- the frame A is A0 but for these slots -/
structure FR (SL : List Nat) (A0 A : Act) : Prop where
  size : A.tmps.size = A0.tmps.size
  defers : A.defers = A0.defers
  out : ∀ k, k ∉ SL → A.tmps[k]? = A0.tmps[k]?
theorem FR.refl (SL : List Nat) (A : Act) : FR SL A A := ⟨rfl, rfl, fun _ _ => rfl⟩
theorem put_ne {A : Act} {j k : Nat} {v : Value} (h : k ≠ j) : (A.put (some j) v).tmps[k]? = A.tmps[k]? := by
  show (A.tmps.setIfInBounds j v)[k]? = _
  rw [Array.getElem?_setIfInBounds_ne (Ne.symm h)]
theorem put_eq {A : Act} {k : Nat} {v : Value} (h : k < A.tmps.size) : (A.put (some k) v).tmps[k]? = some v := by
  show (A.tmps.setIfInBounds k v)[k]? = _
  rw [Array.getElem?_setIfInBounds]
  simp [h]
theorem FR.put {SL : List Nat} {A0 A : Act} (h : FR SL A0 A) {k : Nat} (hk : k ∈ SL) (v : Value) : FR SL A0 (A.put (some k) v) := by
  refine ⟨?_, h.defers, fun j hj => ?_⟩
  · show (A.tmps.setIfInBounds k v).size = _
    rw [Array.size_setIfInBounds]; exact h.size
  · rw [put_ne (fun e => hj (by rw [e]; exact hk))]; exact h.out j hj
theorem act_ext {A B : Act} (hs : A.tmps.size = B.tmps.size) (hd : A.defers = B.defers) (h : ∀ k : Nat, A.tmps[k]? = B.tmps[k]?) : A = B := by
  cases A; cases B
  simp only at hs hd h
  subst hd
  congr 1
  exact Array.ext_getElem? h
theorem chain_of {A : Act} : ∀ (SL : List Nat) (B : Act), A.tmps.size = B.tmps.size → A.defers = B.defers → (∀ k, k ∉ SL → A.tmps[k]? = B.tmps[k]?) → A = SL.foldl (fun a k => a.put (some k) (A.tmps.getD k undef)) B
  | [], B, hs, hd, h => act_ext hs hd (fun k => h k (by simp))
  | k :: t, B, hs, hd, h => by
    refine chain_of t (B.put (some k) (A.tmps.getD k undef)) ?_ hd (fun j hj => ?_)
    · show _ = (B.tmps.setIfInBounds k _).size
      rw [Array.size_setIfInBounds]; exact hs
    · by_cases e : j = k
      · subst e
        by_cases hb : j < B.tmps.size
        · rw [put_eq hb]
          have : j < A.tmps.size := by omega
          rw [Array.getElem?_eq_getElem this]
          simp [Array.getD_eq_getD_getElem?, this]
        · show _ = (B.tmps.setIfInBounds j _)[j]?
          rw [Array.getElem?_eq_none (by omega), Array.getElem?_eq_none (by rw [Array.size_setIfInBounds]; omega)]
      · rw [put_ne e]
        exact h j (by simp [e, hj])
theorem FR.chain {SL : List Nat} {A0 A : Act} (h : FR SL A0 A) : A = SL.foldl (fun a k => a.put (some k) (A.tmps.getD k undef)) A0 := chain_of SL A0 h.size h.defers h.out
theorem getD_of {A : Act} {k : Nat} {v : Value} (h : A.tmps[k]? = some v) : A.tmps.getD k undef = v := by
  rw [Array.getD_eq_getD_getElem?, h]; rfl
theorem wp_region_inv2 {P : Program} {ops : Array Oper} {Q : Exit → Act → World → Prop} {id : Nat} {a : Act} {w : World} (I : Act → Array Bool → Act → World → Prop) (hm : P.follows .mixedOrders = true) (hB : lowB .any ops = true)
    (hstart : I a (Array.replicate ops.size false) a w.drew)
    (hfin : ∀ l A w, I a l A w → (∀ i, i < ops.size → l.getD i true = true) → Q .normal A w)
    (hstep : ∀ l A w i, I a l A w → i ∈ Region.ready .any ops l → wpOp P ops Q i (I a (l.setIfInBounds i true)) A w) :
    (Code.region id ops true).wp P Q a w := wp_region_inv (I a) hm hB hstart hfin hstep
theorem Once.q {l : Array Bool} {i j k d : Nat} {A : Act} {u : Value} {v : Option Value} (h : Once l j (A.tmps[k]? = v)) (h1 : j ≠ i := by decide) (h2 : k ≠ d := by decide) : Once (l.setIfInBounds i true) j ((A.put (some d) u).tmps[k]? = v) := h.past h1 (fun e => (put_ne h2).trans e)
end Go.Proofs.Ytloaedfoecjalaa

namespace Go.Proofs.Ytloaedfoecjalaa
open Go.RowKit
set_option linter.unusedVariables false
theorem wfB {v : Int} (h : (Lit.int .i64 v).wf = true) : -9223372036854775808 ≤ v ∧ v ≤ 9223372036854775807 := bounds_i64 h
theorem okv2 (v : Int) : Pl.okv 2 v = Pl.wordOk v := by
  unfold Pl.okv Pl.wordOk Pl.within Pl.top
  rw [Bool.eq_iff_iff]; simp; omega
theorem isWord (v : Int) (w : World) (lo : -9223372036854775808 ≤ v) (hi : v ≤ 9223372036854775807) :
    Calls Try.prog 74 #[iv v] w fun e w' => e = .returned (.bool (Pl.wordOk v)) ∧ w' = w := by
  go_enter Try.func74, Try.ntmps74
  go_wp2_with (go_at_call 85; refine (signedOf _ _ _ lo hi).mono ?_; rintro e w' ⟨rfl, hw⟩; have hw2 := hw.symm; clear hw; subst hw2; rw [okv2])
  go_ret
  exact ⟨rfl, rfl⟩
theorem isReg (k : Int) (w : World) : Calls Try.prog 73 #[iv k] w fun e w' => e = .returned (.bool (Pl.within k 0 3)) ∧ w' = w := by
  by_cases h0 : 0 ≤ k
  · by_cases h1 : k ≤ 3
    · go_enter Try.func73, Try.ntmps73
      go_wp2
      go_ret
      exact ⟨rB (by simp [Pl.within, h0, h1]), rfl⟩
    · go_enter Try.func73, Try.ntmps73
      go_wp2
      go_ret
      exact ⟨rB (by simp [Pl.within, h0]; omega), rfl⟩
  · go_enter Try.func73, Try.ntmps73
    go_wp2
    go_ret
    exact ⟨rB (by simp [Pl.within]; omega), rfl⟩
end Go.Proofs.Ytloaedfoecjalaa

namespace Go.Proofs.Ytloaedfoecjalaa
open Go.RowKit
set_option linter.unusedVariables false
theorem wayOf0 (k e : Int) (w : World) : Calls Try.prog 72 #[.agg #[iv 0, iv k, iv e]] w fun r w' => r = .returned (.iface 69 (.agg #[iv k])) ∧ Kept 0 0 w w' := by
  go_enter Try.func72, Try.ntmps72
  go_wp2
  go_ret
  exact ⟨rfl, kept_alloc w _⟩
theorem wayOf1 (k e : Int) (w : World) : Calls Try.prog 72 #[.agg #[iv 1, iv k, iv e]] w fun r w' => r = .returned (.iface 70 (.agg #[iv k])) ∧ Kept 0 0 w w' := by
  go_enter Try.func72, Try.ntmps72
  go_wp2
  go_ret
  exact ⟨rfl, kept_alloc w _⟩
theorem wayOf2 (k e : Int) (w : World) : Calls Try.prog 72 #[.agg #[iv 2, iv k, iv e]] w fun r w' => r = .returned (.iface 71 (.agg #[iv k])) ∧ Kept 0 0 w w' := by
  go_enter Try.func72, Try.ntmps72
  go_wp2
  go_ret
  exact ⟨rfl, kept_alloc w _⟩
theorem wayOf3 (k e : Int) (w : World) : Calls Try.prog 72 #[.agg #[iv 3, iv k, iv e]] w fun r w' => r = .returned (.iface 72 (.agg #[iv k])) ∧ Kept 0 0 w w' := by
  go_enter Try.func72, Try.ntmps72
  go_wp2
  go_ret
  exact ⟨rfl, kept_alloc w _⟩
theorem wayOf4 (k e : Int) (w : World) : Calls Try.prog 72 #[.agg #[iv 4, iv k, iv e]] w fun r w' => r = .returned (.iface 73 (.agg #[iv k])) ∧ Kept 0 0 w w' := by
  go_enter Try.func72, Try.ntmps72
  go_wp2
  go_ret
  exact ⟨rfl, kept_alloc w _⟩
theorem wayOf5 (k e : Int) (w : World) : Calls Try.prog 72 #[.agg #[iv 5, iv k, iv e]] w fun r w' => r = .returned (.iface 75 (.agg #[iv k, iv e])) ∧ Kept 0 0 w w' := by
  go_enter Try.func72, Try.ntmps72
  go_wp2
  go_ret
  exact ⟨rfl, kept_alloc w _⟩
theorem wayOf6 (k e : Int) (w : World) : Calls Try.prog 72 #[.agg #[iv 6, iv k, iv e]] w fun r w' => r = .returned (.iface 77 (.agg #[iv e])) ∧ Kept 0 0 w w' := by
  go_enter Try.func72, Try.ntmps72
  go_wp2
  go_ret
  exact ⟨rfl, kept_alloc w _⟩
theorem wayOf7 (k e : Int) (w : World) : Calls Try.prog 72 #[.agg #[iv 7, iv k, iv e]] w fun r w' => r = .returned (.iface 78 (.agg #[iv e])) ∧ Kept 0 0 w w' := by
  go_enter Try.func72, Try.ntmps72
  go_wp2
  go_ret
  exact ⟨rfl, kept_alloc w _⟩
theorem wayOfNo (m k e : Int) (w : World) (h : Pl.modeOk m = false) : Calls Try.prog 72 #[.agg #[iv m, iv k, iv e]] w fun r w' => r = .returned .nilIface ∧ Kept 0 0 w w' := by
  obtain ⟨n0, n1, n2, n3, n4, n5, n6, n7⟩ : ¬ m = 0 ∧ ¬ m = 1 ∧ ¬ m = 2 ∧ ¬ m = 3 ∧ ¬ m = 4 ∧ ¬ m = 5 ∧ ¬ m = 6 ∧ ¬ m = 7 := by
    simp [Pl.modeOk, Pl.within] at h
    omega
  go_enter Try.func72, Try.ntmps72
  go_wp2
  go_ret
  exact ⟨rfl, kept_alloc w _⟩
theorem operand0 (k e : Int) (w : World) : Calls Try.prog 106 #[.agg #[iv k]] w fun r w' => r = .returned (.agg #[iv 0, iv k, iv 0]) ∧ Kept 0 0 w w' := by
  go_enter Try.func106, Try.ntmps106
  go_wp2
  refine bodyPost_ret (v := .agg #[iv 0, iv k, iv 0]) ?_ rfl ⟨rfl, kept_new (kept_alloc w _) _⟩
  rw [results_one rfl]; go_simp
theorem operand1 (k e : Int) (w : World) : Calls Try.prog 107 #[.agg #[iv k]] w fun r w' => r = .returned (.agg #[iv 1, iv k, iv 0]) ∧ Kept 0 0 w w' := by
  go_enter Try.func107, Try.ntmps107
  go_wp2
  refine bodyPost_ret (v := .agg #[iv 1, iv k, iv 0]) ?_ rfl ⟨rfl, kept_new (kept_alloc w _) _⟩
  rw [results_one rfl]; go_simp
theorem operand2 (k e : Int) (w : World) : Calls Try.prog 108 #[.agg #[iv k]] w fun r w' => r = .returned (.agg #[iv 2, iv k, iv 0]) ∧ Kept 0 0 w w' := by
  go_enter Try.func108, Try.ntmps108
  go_wp2
  refine bodyPost_ret (v := .agg #[iv 2, iv k, iv 0]) ?_ rfl ⟨rfl, kept_new (kept_alloc w _) _⟩
  rw [results_one rfl]; go_simp
theorem operand3 (k e : Int) (w : World) : Calls Try.prog 109 #[.agg #[iv k]] w fun r w' => r = .returned (.agg #[iv 3, iv k, iv 0]) ∧ Kept 0 0 w w' := by
  go_enter Try.func109, Try.ntmps109
  go_wp2
  refine bodyPost_ret (v := .agg #[iv 3, iv k, iv 0]) ?_ rfl ⟨rfl, kept_new (kept_alloc w _) _⟩
  rw [results_one rfl]; go_simp
theorem operand4 (k e : Int) (w : World) : Calls Try.prog 110 #[.agg #[iv k]] w fun r w' => r = .returned (.agg #[iv 4, iv k, iv 0]) ∧ Kept 0 0 w w' := by
  go_enter Try.func110, Try.ntmps110
  go_wp2
  refine bodyPost_ret (v := .agg #[iv 4, iv k, iv 0]) ?_ rfl ⟨rfl, kept_new (kept_alloc w _) _⟩
  rw [results_one rfl]; go_simp
theorem operand5 (k e : Int) (w : World) : Calls Try.prog 111 #[.agg #[iv k, iv e]] w fun r w' => r = .returned (.agg #[iv 5, iv k, iv e]) ∧ Kept 0 0 w w' := by
  go_enter Try.func111, Try.ntmps111
  go_wp2
  refine bodyPost_ret (v := .agg #[iv 5, iv k, iv e]) ?_ rfl ⟨rfl, kept_new (kept_alloc w _) _⟩
  rw [results_one rfl]; go_simp
theorem operand6 (k e : Int) (w : World) : Calls Try.prog 112 #[.agg #[iv e]] w fun r w' => r = .returned (.agg #[iv 6, iv 0, iv e]) ∧ Kept 0 0 w w' := by
  go_enter Try.func112, Try.ntmps112
  go_wp2
  refine bodyPost_ret (v := .agg #[iv 6, iv 0, iv e]) ?_ rfl ⟨rfl, kept_new (kept_alloc w _) _⟩
  rw [results_one rfl]; go_simp
theorem operand7 (k e : Int) (w : World) : Calls Try.prog 113 #[.agg #[iv e]] w fun r w' => r = .returned (.agg #[iv 7, iv 0, iv e]) ∧ Kept 0 0 w w' := by
  go_enter Try.func113, Try.ntmps113
  go_wp2
  refine bodyPost_ret (v := .agg #[iv 7, iv 0, iv e]) ?_ rfl ⟨rfl, kept_new (kept_alloc w _) _⟩
  rw [results_one rfl]; go_simp
theorem fn0 (a : Array Value) (w : World) : (callFunc 106 a).run Try.prog w = .ok (.enter 106 a) w := by kernel_rfl
theorem meth0 (v : Value) (w : World) : (method 201 69 v "loop.example/g00389/impl.operand").run Try.prog w = .ok (106, v) w := by kernel_rfl
theorem fn1 (a : Array Value) (w : World) : (callFunc 107 a).run Try.prog w = .ok (.enter 107 a) w := by kernel_rfl
theorem meth1 (v : Value) (w : World) : (method 201 70 v "loop.example/g00389/impl.operand").run Try.prog w = .ok (107, v) w := by kernel_rfl
theorem fn2 (a : Array Value) (w : World) : (callFunc 108 a).run Try.prog w = .ok (.enter 108 a) w := by kernel_rfl
theorem meth2 (v : Value) (w : World) : (method 201 71 v "loop.example/g00389/impl.operand").run Try.prog w = .ok (108, v) w := by kernel_rfl
theorem fn3 (a : Array Value) (w : World) : (callFunc 109 a).run Try.prog w = .ok (.enter 109 a) w := by kernel_rfl
theorem meth3 (v : Value) (w : World) : (method 201 72 v "loop.example/g00389/impl.operand").run Try.prog w = .ok (109, v) w := by kernel_rfl
theorem fn4 (a : Array Value) (w : World) : (callFunc 110 a).run Try.prog w = .ok (.enter 110 a) w := by kernel_rfl
theorem meth4 (v : Value) (w : World) : (method 201 73 v "loop.example/g00389/impl.operand").run Try.prog w = .ok (110, v) w := by kernel_rfl
theorem fn5 (a : Array Value) (w : World) : (callFunc 111 a).run Try.prog w = .ok (.enter 111 a) w := by kernel_rfl
theorem meth5 (v : Value) (w : World) : (method 201 75 v "loop.example/g00389/impl.operand").run Try.prog w = .ok (111, v) w := by kernel_rfl
theorem fn6 (a : Array Value) (w : World) : (callFunc 112 a).run Try.prog w = .ok (.enter 112 a) w := by kernel_rfl
theorem meth6 (v : Value) (w : World) : (method 201 77 v "loop.example/g00389/impl.operand").run Try.prog w = .ok (112, v) w := by kernel_rfl
theorem fn7 (a : Array Value) (w : World) : (callFunc 113 a).run Try.prog w = .ok (.enter 113 a) w := by kernel_rfl
theorem meth7 (v : Value) (w : World) : (method 201 78 v "loop.example/g00389/impl.operand").run Try.prog w = .ok (113, v) w := by kernel_rfl
end Go.Proofs.Ytloaedfoecjalaa

namespace Go.Proofs.Ytloaedfoecjalaa
open Go.RowKit
set_option linter.unusedVariables false
theorem bfe (b : Bool) : b = false ∨ b = true := by cases b <;> simp
theorem wpOp_on {P : Program} {ops : Array Oper} {Q : Exit → Act → World → Prop} {i : Nat} {o : Oper} {K : Act → World → Prop} {a : Act} {w : World} (ho : ops[i]? = some o) {j s : Nat} {b : Bool} (hg : o.guard = some (j, b)) (hd : (ops[j]?).bind (·.dst) = some s) (hv : a.tmps[s]? = some (.bool b))
    (h : ∀ K' : Act → World → Prop, (∀ a w, K a w → K' a w) → Oper.wp P o a w K' Q) : wpOp P ops Q i K a w := by
  refine wpOp_step ho (fun K' hK => ?_)
  rw [if_pos]
  · exact h K' hK
  · unfold Region.wanted yielded
    rw [hg]
    simp only [hd, Option.bind_some, hv]
    simp
theorem wpOp_off {P : Program} {ops : Array Oper} {Q : Exit → Act → World → Prop} {i : Nat} {o : Oper} {K : Act → World → Prop} {a : Act} {w : World} (ho : ops[i]? = some o) {j s : Nat} {b c : Bool} (hg : o.guard = some (j, b)) (hd : (ops[j]?).bind (·.dst) = some s) (hv : a.tmps[s]? = some (.bool c)) (hn : c ≠ b)
    (h : K (a.put o.dst undef) w) : wpOp P ops Q i K a w := by
  refine wpOp_step ho (fun K' hK => ?_)
  rw [if_neg]
  · exact hK _ _ h
  · unfold Region.wanted yielded
    rw [hg]
    simp only [hd, Option.bind_some, hv]
    simpa using hn
set_option maxRecDepth 20000 in
set_option maxHeartbeats 16000000 in
theorem goodOp (m k e : Int) (w : World) (T N : Nat) (v : Value) (R : Array Value) (E : Bool) (lo : -9223372036854775808 ≤ e) (hi : e ≤ 9223372036854775807)
    (hw : ∀ w : World, Calls Try.prog 72 #[.agg #[iv m, iv k, iv e]] w fun r w' => r = .returned (.iface T v) ∧ Kept 0 0 w w')
    (hme : ∀ w : World, (method 201 T v "loop.example/g00389/impl.operand").run Try.prog w = .ok (N, v) w)
    (hc : ∀ w : World, Calls Try.prog N #[v] w fun r w' => r = .returned (.agg R) ∧ Kept 0 0 w w')
    (hfn : ∀ (a : Array Value) (w : World), (callFunc N a).run Try.prog w = .ok (.enter N a) w)
    (he : ∀ w : World, (binOp .eql 28 (.agg R) (.agg #[iv m, iv k, iv e])).run Try.prog w = .ok (.bool E) w) :
    Calls Try.prog 56 #[.agg #[iv m, iv k, iv e]] w fun r w' => r = .returned (.bool (E && (Pl.within k 0 3 && Pl.wordOk e))) ∧ Kept 0 0 w w' := by
  have B0 := hide (Blk.new w #[iv m, iv k, iv e] 28)
  have K0 := hide (kept_alloc w (.cells #[iv m, iv k, iv e] 28))
  obtain ⟨B, hBB⟩ : ∃ B, Pl.within k 0 3 = B := ⟨_, rfl⟩
  obtain ⟨C, hCC⟩ : ∃ C, Pl.wordOk e = C := ⟨_, rfl⟩
  go_enter Try.func56, Try.ntmps56
  go_wp2_with fail
  refine (hw _).mono ?_
  rintro r w1 ⟨rfl, k1⟩
  have B1 := hide (B0.out.kept0 k1)
  have K1 := hide (K0.out.trans k1)
  clear k1 hw
  go_wp2_with fail
  refine wp_region_inv2 (fun A0 l A W => FR [6, 7, 8, 9, 10, 11, 12, 13, 14, 15, 16, 17, 18, 19, 20, 21, 22, 23, 2] A0 A ∧ Once l 0 (A.tmps[6]? = some (.iface T v)) ∧ Once l 1 (A.tmps[7]? = some (.bool true)) ∧ Once l 2 (A.tmps[8]? = some (.bool true)) ∧ Once l 3 (A.tmps[9]? = some (.iface T v)) ∧ Once l 4 (A.tmps[10]? = some (.agg R)) ∧ Once l 5 (A.tmps[11]? = some (.agg #[iv m, iv k, iv e])) ∧ Once l 6 (A.tmps[12]? = some (.bool E)) ∧ Once l 7 (A.tmps[13]? = some (.bool E)) ∧ Once l 8 (A.tmps[14]? = some (.bool E)) ∧ Once l 9 (A.tmps[15]? = some (bif E then .pointer (some ⟨w.heap.size, 1, none⟩) else undef)) ∧ Once l 10 (A.tmps[16]? = some (bif E then iv k else undef)) ∧ Once l 11 (A.tmps[17]? = some (bif E then .bool B else undef)) ∧ Once l 12 (A.tmps[18]? = some (.bool (E && B))) ∧ Once l 13 (A.tmps[19]? = some (.bool (E && B))) ∧ Once l 14 (A.tmps[20]? = some (bif (E && B) then .pointer (some ⟨w.heap.size, 2, none⟩) else undef)) ∧ Once l 15 (A.tmps[21]? = some (bif (E && B) then iv e else undef)) ∧ Once l 16 (A.tmps[22]? = some (bif (E && B) then .bool C else undef)) ∧ Once l 17 (A.tmps[23]? = some (.bool ((E && B) && C))) ∧ Once l 18 (A.tmps[2]? = some (.bool ((E && B) && C))) ∧ Kept 0 0 w1 W) (by kernel_rfl) (by kernel_rfl) ?start ?fin ?step
  case start => exact ⟨FR.refl _ _, once_start (by decide), once_start (by decide), once_start (by decide), once_start (by decide), once_start (by decide), once_start (by decide), once_start (by decide), once_start (by decide), once_start (by decide), once_start (by decide), once_start (by decide), once_start (by decide), once_start (by decide), once_start (by decide), once_start (by decide), once_start (by decide), once_start (by decide), once_start (by decide), once_start (by decide), kept_drew (Kept.refl _ _ _)⟩
  case fin =>
    intro l A W h hl
    obtain ⟨hFR, o0, o1, o2, o3, o4, o5, o6, o7, o8, o9, o10, o11, o12, o13, o14, o15, o16, o17, o18, hK⟩ := h
    have g := o18 (hl 18 (by decide))
    have QQ := hide (K1.out.trans hK)
    have hc9 := hFR.chain
    simp only [List.foldl] at hc9
    rw [getD_of g] at hc9
    clear hl hK hFR g o0 o1 o2 o3 o4 o5 o6 o7 o8 o9 o10 o11 o12 o13 o14 o15 o16 o17 o18
    generalize A.tmps.getD 6 undef = s6 at hc9
    generalize A.tmps.getD 7 undef = s7 at hc9
    generalize A.tmps.getD 8 undef = s8 at hc9
    generalize A.tmps.getD 9 undef = s9 at hc9
    generalize A.tmps.getD 10 undef = s10 at hc9
    generalize A.tmps.getD 11 undef = s11 at hc9
    generalize A.tmps.getD 12 undef = s12 at hc9
    generalize A.tmps.getD 13 undef = s13 at hc9
    generalize A.tmps.getD 14 undef = s14 at hc9
    generalize A.tmps.getD 15 undef = s15 at hc9
    generalize A.tmps.getD 16 undef = s16 at hc9
    generalize A.tmps.getD 17 undef = s17 at hc9
    generalize A.tmps.getD 18 undef = s18 at hc9
    generalize A.tmps.getD 19 undef = s19 at hc9
    generalize A.tmps.getD 20 undef = s20 at hc9
    generalize A.tmps.getD 21 undef = s21 at hc9
    generalize A.tmps.getD 22 undef = s22 at hc9
    generalize A.tmps.getD 23 undef = s23 at hc9
    subst hc9
    go_simp
    go_wp2_with fail
    go_ret
    exact ⟨rB (by rw [← hBB, ← hCC, Bool.and_assoc]), QQ.out⟩
  case step =>
    intro l A W i hI hm
    obtain ⟨hFR, o0, o1, o2, o3, o4, o5, o6, o7, o8, o9, o10, o11, o12, o13, o14, o15, o16, o17, o18, hK⟩ := hI
    obtain ⟨hi1, hi2⟩ := ready_new hm
    have hsz : Hid (23 < A.tmps.size) := hide (by rw [hFR.size]; simp)
    have m1 : A.tmps[1]? = some (.pointer (some ⟨w.heap.size, 0, none⟩)) := (hFR.out 1 (by decide)).trans rfl
    have m3 : A.tmps[3]? = some (.iface T v) := (hFR.out 3 (by decide)).trans rfl
    rcases i with _ | _ | _ | _ | _ | _ | _ | _ | _ | _ | _ | _ | _ | _ | _ | _ | _ | _ | _ | i
    · refine wpOp_step rfl (fun KK hK2 => ?_)
      go_simp
      exact hK2 (A.put (some 6) (.iface T v)) _ ⟨hFR.put (by decide) _, .now (put_eq (by have hz := hsz.out; omega)), o1.q, o2.q, o3.q, o4.q, o5.q, o6.q, o7.q, o8.q, o9.q, o10.q, o11.q, o12.q, o13.q, o14.q, o15.q, o16.q, o17.q, o18.q, hK⟩
    · have e1 := o0 (ready_dep hm 0 (by kernel_rfl))
      refine wpOp_step rfl (fun KK hK2 => ?_)
      go_simp
      exact hK2 (A.put (some 7) (.bool true)) _ ⟨hFR.put (by decide) _, o0.q, .now (put_eq (by have hz := hsz.out; omega)), o2.q, o3.q, o4.q, o5.q, o6.q, o7.q, o8.q, o9.q, o10.q, o11.q, o12.q, o13.q, o14.q, o15.q, o16.q, o17.q, o18.q, hK⟩
    · have e1 := o1 (ready_dep hm 1 (by kernel_rfl))
      refine wpOp_step rfl (fun KK hK2 => ?_)
      go_simp
      exact hK2 (A.put (some 8) (.bool true)) _ ⟨hFR.put (by decide) _, o0.q, o1.q, .now (put_eq (by have hz := hsz.out; omega)), o3.q, o4.q, o5.q, o6.q, o7.q, o8.q, o9.q, o10.q, o11.q, o12.q, o13.q, o14.q, o15.q, o16.q, o17.q, o18.q, hK⟩
    · have g := o2 (ready_dep hm 2 (by kernel_rfl))
      refine wpOp_on (b := true) rfl rfl rfl g (fun KK hK2 => ?_)
      go_simp
      exact hK2 (A.put (some 9) (.iface T v)) _ ⟨hFR.put (by decide) _, o0.q, o1.q, o2.q, .now (put_eq (by have hz := hsz.out; omega)), o4.q, o5.q, o6.q, o7.q, o8.q, o9.q, o10.q, o11.q, o12.q, o13.q, o14.q, o15.q, o16.q, o17.q, o18.q, hK⟩
    · have g := o2 (ready_dep hm 2 (by kernel_rfl))
      have e1 := o3 (ready_dep hm 3 (by kernel_rfl))
      refine wpOp_on (b := true) rfl rfl rfl g (fun KK hK2 => ?_)
      go_simp
      refine (hc W).mono ?_
      rintro r y ⟨rfl, kd⟩
      go_simp
      exact hK2 (A.put (some 10) (.agg R)) _ ⟨hFR.put (by decide) _, o0.q, o1.q, o2.q, o3.q, .now (put_eq (by have hz := hsz.out; omega)), o5.q, o6.q, o7.q, o8.q, o9.q, o10.q, o11.q, o12.q, o13.q, o14.q, o15.q, o16.q, o17.q, o18.q, (hK.trans kd)⟩
    · have g := o2 (ready_dep hm 2 (by kernel_rfl))
      have BL := B1.out.kept0 hK
      have x0 := BL.all
      clear BL
      refine wpOp_on (b := true) rfl rfl rfl g (fun KK hK2 => ?_)
      go_simp
      exact hK2 (A.put (some 11) (.agg #[iv m, iv k, iv e])) _ ⟨hFR.put (by decide) _, o0.q, o1.q, o2.q, o3.q, o4.q, .now (put_eq (by have hz := hsz.out; omega)), o6.q, o7.q, o8.q, o9.q, o10.q, o11.q, o12.q, o13.q, o14.q, o15.q, o16.q, o17.q, o18.q, hK⟩
    · have g := o2 (ready_dep hm 2 (by kernel_rfl))
      have e1 := o4 (ready_dep hm 4 (by kernel_rfl))
      have e2 := o5 (ready_dep hm 5 (by kernel_rfl))
      refine wpOp_on (b := true) rfl rfl rfl g (fun KK hK2 => ?_)
      go_simp
      exact hK2 (A.put (some 12) (.bool E)) _ ⟨hFR.put (by decide) _, o0.q, o1.q, o2.q, o3.q, o4.q, o5.q, .now (put_eq (by have hz := hsz.out; omega)), o7.q, o8.q, o9.q, o10.q, o11.q, o12.q, o13.q, o14.q, o15.q, o16.q, o17.q, o18.q, hK⟩
    · have e1 := o2 (ready_dep hm 2 (by kernel_rfl))
      have e2 := o6 (ready_dep hm 6 (by kernel_rfl))
      refine wpOp_step rfl (fun KK hK2 => ?_)
      go_simp
      exact hK2 (A.put (some 13) (.bool E)) _ ⟨hFR.put (by decide) _, o0.q, o1.q, o2.q, o3.q, o4.q, o5.q, o6.q, .now (put_eq (by have hz := hsz.out; omega)), o8.q, o9.q, o10.q, o11.q, o12.q, o13.q, o14.q, o15.q, o16.q, o17.q, o18.q, hK⟩
    · have e1 := o7 (ready_dep hm 7 (by kernel_rfl))
      refine wpOp_step rfl (fun KK hK2 => ?_)
      go_simp
      exact hK2 (A.put (some 14) (.bool E)) _ ⟨hFR.put (by decide) _, o0.q, o1.q, o2.q, o3.q, o4.q, o5.q, o6.q, o7.q, .now (put_eq (by have hz := hsz.out; omega)), o9.q, o10.q, o11.q, o12.q, o13.q, o14.q, o15.q, o16.q, o17.q, o18.q, hK⟩
    · have g := o8 (ready_dep hm 8 (by kernel_rfl))
      rcases bfe E with hE | hE
      · rw [hE] at g
        refine wpOp_off (b := true) (c := false) rfl rfl rfl g (by decide) ?_
        exact ⟨hFR.put (by decide) _, o0.q, o1.q, o2.q, o3.q, o4.q, o5.q, o6.q, o7.q, o8.q, .now (by rw [hE]; exact put_eq (by have hz := hsz.out; omega)), o10.q, o11.q, o12.q, o13.q, o14.q, o15.q, o16.q, o17.q, o18.q, hK⟩
      · rw [hE] at g
        refine wpOp_on (b := true) rfl rfl rfl g (fun KK hK2 => ?_)
        go_simp
        exact hK2 (A.put (some 15) (.pointer (some ⟨w.heap.size, 1, none⟩))) _ ⟨hFR.put (by decide) _, o0.q, o1.q, o2.q, o3.q, o4.q, o5.q, o6.q, o7.q, o8.q, .now (by rw [hE]; exact put_eq (by have hz := hsz.out; omega)), o10.q, o11.q, o12.q, o13.q, o14.q, o15.q, o16.q, o17.q, o18.q, hK⟩
    · have g := o8 (ready_dep hm 8 (by kernel_rfl))
      have e1 := o9 (ready_dep hm 9 (by kernel_rfl))
      rcases bfe E with hE | hE
      · rw [hE] at g
        refine wpOp_off (b := true) (c := false) rfl rfl rfl g (by decide) ?_
        exact ⟨hFR.put (by decide) _, o0.q, o1.q, o2.q, o3.q, o4.q, o5.q, o6.q, o7.q, o8.q, o9.q, .now (by rw [hE]; exact put_eq (by have hz := hsz.out; omega)), o11.q, o12.q, o13.q, o14.q, o15.q, o16.q, o17.q, o18.q, hK⟩
      · rw [hE] at g e1
        simp only [cond_true] at e1
        have BL := B1.out.kept0 hK
        have x0 := BL.all
        clear BL
        refine wpOp_on (b := true) rfl rfl rfl g (fun KK hK2 => ?_)
        go_simp
        exact hK2 (A.put (some 16) (iv k)) _ ⟨hFR.put (by decide) _, o0.q, o1.q, o2.q, o3.q, o4.q, o5.q, o6.q, o7.q, o8.q, o9.q, .now (by rw [hE]; exact put_eq (by have hz := hsz.out; omega)), o11.q, o12.q, o13.q, o14.q, o15.q, o16.q, o17.q, o18.q, hK⟩
    · have g := o8 (ready_dep hm 8 (by kernel_rfl))
      have e1 := o10 (ready_dep hm 10 (by kernel_rfl))
      rcases bfe E with hE | hE
      · rw [hE] at g
        refine wpOp_off (b := true) (c := false) rfl rfl rfl g (by decide) ?_
        exact ⟨hFR.put (by decide) _, o0.q, o1.q, o2.q, o3.q, o4.q, o5.q, o6.q, o7.q, o8.q, o9.q, o10.q, .now (by rw [hE]; exact put_eq (by have hz := hsz.out; omega)), o12.q, o13.q, o14.q, o15.q, o16.q, o17.q, o18.q, hK⟩
      · rw [hE] at g e1
        simp only [cond_true] at e1
        refine wpOp_on (b := true) rfl rfl rfl g (fun KK hK2 => ?_)
        go_simp
        refine st (isReg k _) ?_
        rw [hBB]
        go_simp
        exact hK2 (A.put (some 17) (.bool B)) _ ⟨hFR.put (by decide) _, o0.q, o1.q, o2.q, o3.q, o4.q, o5.q, o6.q, o7.q, o8.q, o9.q, o10.q, .now (by rw [hE]; exact put_eq (by have hz := hsz.out; omega)), o12.q, o13.q, o14.q, o15.q, o16.q, o17.q, o18.q, hK⟩
    · have e1 := o8 (ready_dep hm 8 (by kernel_rfl))
      have e2 := o11 (ready_dep hm 11 (by kernel_rfl))
      rcases bfe E with hE | hE
      · rw [hE] at e1 e2
        simp only [cond_false] at e2
        refine wpOp_step rfl (fun KK hK2 => ?_)
        go_simp
        exact hK2 (A.put (some 18) (.bool false)) _ ⟨hFR.put (by decide) _, o0.q, o1.q, o2.q, o3.q, o4.q, o5.q, o6.q, o7.q, o8.q, o9.q, o10.q, o11.q, .now (by rw [hE]; exact put_eq (by have hz := hsz.out; omega)), o13.q, o14.q, o15.q, o16.q, o17.q, o18.q, hK⟩
      · rw [hE] at e1 e2
        simp only [cond_true] at e2
        refine wpOp_step rfl (fun KK hK2 => ?_)
        go_simp
        exact hK2 (A.put (some 18) (.bool B)) _ ⟨hFR.put (by decide) _, o0.q, o1.q, o2.q, o3.q, o4.q, o5.q, o6.q, o7.q, o8.q, o9.q, o10.q, o11.q, .now (by rw [hE]; exact put_eq (by have hz := hsz.out; omega)), o13.q, o14.q, o15.q, o16.q, o17.q, o18.q, hK⟩
    · have e1 := o12 (ready_dep hm 12 (by kernel_rfl))
      refine wpOp_step rfl (fun KK hK2 => ?_)
      go_simp
      exact hK2 (A.put (some 19) (.bool (E && B))) _ ⟨hFR.put (by decide) _, o0.q, o1.q, o2.q, o3.q, o4.q, o5.q, o6.q, o7.q, o8.q, o9.q, o10.q, o11.q, o12.q, .now (put_eq (by have hz := hsz.out; omega)), o14.q, o15.q, o16.q, o17.q, o18.q, hK⟩
    · have g := o13 (ready_dep hm 13 (by kernel_rfl))
      rcases bfe (E && B) with hE | hE
      · rw [hE] at g
        refine wpOp_off (b := true) (c := false) rfl rfl rfl g (by decide) ?_
        exact ⟨hFR.put (by decide) _, o0.q, o1.q, o2.q, o3.q, o4.q, o5.q, o6.q, o7.q, o8.q, o9.q, o10.q, o11.q, o12.q, o13.q, .now (by rw [hE]; exact put_eq (by have hz := hsz.out; omega)), o15.q, o16.q, o17.q, o18.q, hK⟩
      · rw [hE] at g
        refine wpOp_on (b := true) rfl rfl rfl g (fun KK hK2 => ?_)
        go_simp
        exact hK2 (A.put (some 20) (.pointer (some ⟨w.heap.size, 2, none⟩))) _ ⟨hFR.put (by decide) _, o0.q, o1.q, o2.q, o3.q, o4.q, o5.q, o6.q, o7.q, o8.q, o9.q, o10.q, o11.q, o12.q, o13.q, .now (by rw [hE]; exact put_eq (by have hz := hsz.out; omega)), o15.q, o16.q, o17.q, o18.q, hK⟩
    · have g := o13 (ready_dep hm 13 (by kernel_rfl))
      have e1 := o14 (ready_dep hm 14 (by kernel_rfl))
      rcases bfe (E && B) with hE | hE
      · rw [hE] at g
        refine wpOp_off (b := true) (c := false) rfl rfl rfl g (by decide) ?_
        exact ⟨hFR.put (by decide) _, o0.q, o1.q, o2.q, o3.q, o4.q, o5.q, o6.q, o7.q, o8.q, o9.q, o10.q, o11.q, o12.q, o13.q, o14.q, .now (by rw [hE]; exact put_eq (by have hz := hsz.out; omega)), o16.q, o17.q, o18.q, hK⟩
      · rw [hE] at g e1
        simp only [cond_true] at e1
        have BL := B1.out.kept0 hK
        have x0 := BL.all
        clear BL
        refine wpOp_on (b := true) rfl rfl rfl g (fun KK hK2 => ?_)
        go_simp
        exact hK2 (A.put (some 21) (iv e)) _ ⟨hFR.put (by decide) _, o0.q, o1.q, o2.q, o3.q, o4.q, o5.q, o6.q, o7.q, o8.q, o9.q, o10.q, o11.q, o12.q, o13.q, o14.q, .now (by rw [hE]; exact put_eq (by have hz := hsz.out; omega)), o16.q, o17.q, o18.q, hK⟩
    · have g := o13 (ready_dep hm 13 (by kernel_rfl))
      have e1 := o15 (ready_dep hm 15 (by kernel_rfl))
      rcases bfe (E && B) with hE | hE
      · rw [hE] at g
        refine wpOp_off (b := true) (c := false) rfl rfl rfl g (by decide) ?_
        exact ⟨hFR.put (by decide) _, o0.q, o1.q, o2.q, o3.q, o4.q, o5.q, o6.q, o7.q, o8.q, o9.q, o10.q, o11.q, o12.q, o13.q, o14.q, o15.q, .now (by rw [hE]; exact put_eq (by have hz := hsz.out; omega)), o17.q, o18.q, hK⟩
      · rw [hE] at g e1
        simp only [cond_true] at e1
        refine wpOp_on (b := true) rfl rfl rfl g (fun KK hK2 => ?_)
        go_simp
        refine st (isWord e _ lo hi) ?_
        rw [hCC]
        go_simp
        exact hK2 (A.put (some 22) (.bool C)) _ ⟨hFR.put (by decide) _, o0.q, o1.q, o2.q, o3.q, o4.q, o5.q, o6.q, o7.q, o8.q, o9.q, o10.q, o11.q, o12.q, o13.q, o14.q, o15.q, .now (by rw [hE]; exact put_eq (by have hz := hsz.out; omega)), o17.q, o18.q, hK⟩
    · have e1 := o13 (ready_dep hm 13 (by kernel_rfl))
      have e2 := o16 (ready_dep hm 16 (by kernel_rfl))
      rcases bfe (E && B) with hE | hE
      · rw [hE] at e1 e2
        simp only [cond_false] at e2
        refine wpOp_step rfl (fun KK hK2 => ?_)
        go_simp
        exact hK2 (A.put (some 23) (.bool false)) _ ⟨hFR.put (by decide) _, o0.q, o1.q, o2.q, o3.q, o4.q, o5.q, o6.q, o7.q, o8.q, o9.q, o10.q, o11.q, o12.q, o13.q, o14.q, o15.q, o16.q, .now (by rw [hE]; exact put_eq (by have hz := hsz.out; omega)), o18.q, hK⟩
      · rw [hE] at e1 e2
        simp only [cond_true] at e2
        refine wpOp_step rfl (fun KK hK2 => ?_)
        go_simp
        exact hK2 (A.put (some 23) (.bool C)) _ ⟨hFR.put (by decide) _, o0.q, o1.q, o2.q, o3.q, o4.q, o5.q, o6.q, o7.q, o8.q, o9.q, o10.q, o11.q, o12.q, o13.q, o14.q, o15.q, o16.q, .now (by rw [hE]; exact put_eq (by have hz := hsz.out; omega)), o18.q, hK⟩
    · have e1 := o17 (ready_dep hm 17 (by kernel_rfl))
      refine wpOp_step rfl (fun KK hK2 => ?_)
      go_simp
      exact hK2 (A.put (some 2) (.bool ((E && B) && C))) _ ⟨hFR.put (by decide) _, o0.q, o1.q, o2.q, o3.q, o4.q, o5.q, o6.q, o7.q, o8.q, o9.q, o10.q, o11.q, o12.q, o13.q, o14.q, o15.q, o16.q, o17.q, .now (put_eq (by have hz := hsz.out; omega)), hK⟩
    · simp at hi1
      omega
end Go.Proofs.Ytloaedfoecjalaa

namespace Go.Proofs.Ytloaedfoecjalaa
open Go.RowKit
set_option linter.unusedVariables false
set_option linter.unusedSimpArgs false
set_option maxHeartbeats 2000000
theorem specNeedI (k : Int) (w : World) (k0 : 0 ≤ k) (k1 : k ≤ 15) : Calls Try.prog 61 #[iv k] w fun e w' => e = .returned (iv (Pl.need k)) ∧ w' = w := by
  obtain ⟨j, hj, rfl⟩ := Pl.nat_of (n := 16) k0 (by omega)
  exact specNeed j hj w
theorem specReads (w : World) (op z r m k e s : Int) (D : Pl.InD ⟨op, z, r, m, k, e, s⟩) : Calls Try.prog 34 #[.agg (inA op z r m k e s)] w fun e' w' => e' = .returned (iv (Pl.reads ⟨op, z, r, m, k, e, s⟩)) ∧ Kept 0 0 w w' := by
  have K0 := hide (kept_alloc w (.cells (inA op z r m k e s) 30))
  have D0 := hide D
  obtain ⟨o0, o1, s0, s1, r0, r1, s6, s3, s2, r2⟩ := D
  simp only at o0 o1 s0 s1 r0 r1 s6 s3 s2 r2
  have ew1 : IntKind.i64.wrap (8 * r) = 8 * r := by rw [IntKind.wrap_i64]; omega
  have ew2 : IntKind.i64.wrap (s + 8 * r) = s + 8 * r := by rw [IntKind.wrap_i64]; omega
  by_cases hS : op = 12 ∨ op = 19
  · obtain rfl | rfl | rfl | rfl | rfl | rfl | rfl | rfl : s = 0 ∨ s = 1 ∨ s = 2 ∨ s = 3 ∨ s = 4 ∨ s = 5 ∨ s = 6 ∨ s = 7 := by omega
    all_goals
      rcases hS with rfl | rfl
    all_goals
      first
      | (exfalso; clear D0 K0; omega)
      | skip
    all_goals
      clear s0 s1 s6 s3 s2 o0 o1
      go_enter Try.func34, Try.ntmps34
      go_wp2_with (first | (go_at_call 54; refine st (l1Flag _ _ _) ?_) | (go_at_call 61; refine st (specNeedI (s + 8 * r) _ (by omega) (by have := r3.out (by trivial); omega)) ?_))
      go_ret
      exact ⟨rI (by rfl), by first | exact K2.out | exact K1.out | exact K0.out | exact kept_drew K0.out⟩
  · have hO : op = 1 ∨ op = 2 ∨ op = 3 ∨ op = 4 ∨ op = 5 ∨ op = 6 ∨ op = 7 ∨ op = 8 ∨ op = 9 ∨ op = 10 ∨ op = 11 ∨ op = 12 ∨ op = 13 ∨ op = 14 ∨ op = 15 ∨ op = 16 ∨ op = 17 ∨ op = 18 ∨ op = 19 := by omega
    clear o0 o1 s6 s3 s2
    rcases hO with rfl | rfl | rfl | rfl | rfl | rfl | rfl | rfl | rfl | rfl | rfl | rfl | rfl | rfl | rfl | rfl | rfl | rfl | rfl
    all_goals
      first
      | (exfalso; clear D0 K0; omega)
      | skip
    all_goals
      have r3 := hide r2
      clear hS r2
      go_enter Try.func34, Try.ntmps34
      go_wp2_with (first | (go_at_call 54; refine st (l1Flag _ _ _) ?_) | (go_at_call 61; refine st (specNeedI (s + 8 * r) _ (by omega) (by have := r3.out (by trivial); omega)) ?_))
      go_ret
      exact ⟨rI (by rfl), by first | exact K2.out | exact K1.out | exact K0.out | exact kept_drew K0.out⟩
end Go.Proofs.Ytloaedfoecjalaa

namespace Go.Proofs.Ytloaedfoecjalaa.Pl
set_option linter.unusedVariables false
def sameIn (a b : In) : Bool := (a.op == b.op) && ((a.z == b.z) && ((a.r == b.r) && ((a.m == b.m) && ((a.k == b.k) && ((a.e == b.e) && (a.s == b.s))))))
/-- it comes back from its words -/
def fits (x : In) : Bool := sameIn (decode (word1 x % 65536) x.e) x
def fitZ (x : In) : Bool := !(x.m == 7) || (!(x.z == 1) || within x.e 0 255)
theorem decode_e (w v : Int) : (decode w v).e = bif extM (w / 32 % 8) then v else 0 := by
  show (if longW w = 2 then v else 0) = _
  unfold longW
  cases extM (w / 32 % 8) <;> simp
theorem fits_iff (x : In) : fits x = true ↔ (0 ≤ x.op ∧ x.op ≤ 31) ∧ (1 ≤ x.z ∧ x.z ≤ 2) ∧ (0 ≤ x.r ∧ x.r ≤ 3) ∧ (0 ≤ x.m ∧ x.m ≤ 7) ∧ (0 ≤ x.k ∧ x.k ≤ 3) ∧ (0 ≤ x.s ∧ x.s ≤ 7) ∧ (extM x.m = false → x.e = 0) := by
  obtain ⟨op, z, r, m, k, e, s⟩ := x
  unfold fits
  have hW : word1 ⟨op, z, r, m, k, e, s⟩ % 65536 = (op * 2048 + (z - 1) * 1024 + r * 256 + m * 32 + k * 8 + s) % 65536 := rfl
  generalize word1 ⟨op, z, r, m, k, e, s⟩ % 65536 = W at hW
  unfold sameIn
  rw [decode_e]
  simp only [decode, Bool.and_eq_true, beq_iff_eq]
  constructor
  · rintro ⟨h1, h2, h3, h4, h5, h6, h7⟩
    refine ⟨⟨by omega, by omega⟩, ⟨by omega, by omega⟩, ⟨by omega, by omega⟩, ⟨by omega, by omega⟩, ⟨by omega, by omega⟩, ⟨by omega, by omega⟩, fun q => ?_⟩
    rw [h4, q] at h6
    simpa using h6.symm
  · rintro ⟨⟨a1, a2⟩, ⟨b1, b2⟩, ⟨c1, c2⟩, ⟨d1, d2⟩, ⟨e1, e2⟩, ⟨f1, f2⟩, g⟩
    have hm : W / 32 % 8 = m := by omega
    refine ⟨by omega, by omega, by omega, hm, by omega, ?_, by omega⟩
    rw [hm]
    cases q : extM m
    · rw [g q]; rfl
    · rfl
/-- what is asked one behind the other is what makes a good one -/
theorem ok_of_fits (x : In) : inOk x = (fits x && (opOk x.m x.k x.e && (fitZ x && inKind x))) := by
  cases hf : fits x
  · cases hq : inOk x
    · rfl
    · exfalso
      have h := modeR hq
      have : fits x = true := (fits_iff x).2 ⟨by omega, by omega, by omega, by omega, by omega, by omega, h.2.2.2.2.2.2.2.2.2.2.2.2.2⟩
      rw [hf] at this; cases this
  · obtain ⟨a, b, c, d, e, f, g⟩ := (fits_iff x).1 hf
    obtain ⟨op, z, r, m, k, e', s⟩ := x
    simp only at a b c d e f g
    unfold inOk inBase fitZ byteNow
    simp only
    have w1 : within r 0 3 = true := by simp [within]; omega
    have w2 : within s 0 7 = true := by simp [within]; omega
    have w3 : (decide (z = 1) || decide (z = 2)) = true := by simp; omega
    rw [w1, w2, w3]
    cases ho : opOk m k e'
    · simp
    · have : 0 ≤ e' := by simp [opOk, wordOk, within] at ho; omega
      have w4 : (!((m == 7) && (z == 1) && decide (255 < e'))) = (!(m == 7) || (!(z == 1) || within e' 0 255)) := by
        rw [Bool.eq_iff_iff]; simp [within]; omega
      rw [w4]
      simp
end Go.Proofs.Ytloaedfoecjalaa.Pl

namespace Go.Proofs.Ytloaedfoecjalaa
open Go.RowKit
set_option linter.unusedVariables false
theorem modes {m : Int} (h : Pl.modeOk m = true) : m = 0 ∨ m = 1 ∨ m = 2 ∨ m = 3 ∨ m = 4 ∨ m = 5 ∨ m = 6 ∨ m = 7 := by
  simp [Pl.modeOk, Pl.within] at h
  omega
theorem eqOp (m k e k' e' : Int) (w : World) : (binOp .eql 28 (.agg #[iv m, iv k', iv e']) (.agg #[iv m, iv k, iv e])).run Try.prog w = .ok (.bool ((k' == k) && (e' == e))) w := by
  go_simp
  by_cases h1 : k' = k <;> by_cases h2 : e' = e <;> simp [h1, h2]
theorem implGoodOperand (w : World) (m k e : Int) (wfm : (Lit.int .i64 m).wf = true) (wfk : (Lit.int .i64 k).wf = true) (wfe : (Lit.int .i64 e).wf = true) :
    Calls Try.prog 56 #[.agg #[iv m, iv k, iv e]] w fun r w' => r = .returned (.bool (Pl.opOk m k e)) ∧ Kept 0 0 w w' := by
  obtain ⟨lo, hi⟩ := wfB wfe
  cases h : Pl.modeOk m
  · have G : Hid (Pl.opOk m k e = false) := hide (by unfold Pl.opOk; rw [h]; rfl)
    have K0 := hide (kept_alloc w (.cells #[iv m, iv k, iv e] 28))
    go_enter Try.func56, Try.ntmps56
    go_wp2_with fail
    refine (wayOfNo m k e _ h).mono ?_
    rintro r w1 ⟨rfl, k1⟩
    have K1 := hide (K0.out.trans k1)
    clear k1
    go_wp2_with fail
    go_quiet (fail)
    go_wp2_with fail
    go_ret
    exact ⟨rB (by rw [G.out]), kept_drewN K1.out _⟩
  · rcases modes h with rfl | rfl | rfl | rfl | rfl | rfl | rfl | rfl
    · have q := goodOp 0 k e w 69 106 (.agg #[iv k]) _ _ lo hi (fun w => wayOf0 k e w) (fun w => meth0 _ w) (fun w => operand0 k e w) fn0 (fun w => eqOp 0 k e k 0 w)
      have G : (((k : Int) == k) && ((0 : Int) == e) && (Pl.within k 0 3 && Pl.wordOk e)) = Pl.opOk 0 k e := by
        unfold Pl.opOk
        rw [show Pl.modeOk 0 = true from by decide, show decide ((0 : Int) < 6) = true from by decide, show Pl.extM 0 = false from by decide, Bool.eq_iff_iff]
        simp
        grind
      rw [G] at q
      exact q
    · have q := goodOp 1 k e w 70 107 (.agg #[iv k]) _ _ lo hi (fun w => wayOf1 k e w) (fun w => meth1 _ w) (fun w => operand1 k e w) fn1 (fun w => eqOp 1 k e k 0 w)
      have G : (((k : Int) == k) && ((0 : Int) == e) && (Pl.within k 0 3 && Pl.wordOk e)) = Pl.opOk 1 k e := by
        unfold Pl.opOk
        rw [show Pl.modeOk 1 = true from by decide, show decide ((1 : Int) < 6) = true from by decide, show Pl.extM 1 = false from by decide, Bool.eq_iff_iff]
        simp
        grind
      rw [G] at q
      exact q
    · have q := goodOp 2 k e w 71 108 (.agg #[iv k]) _ _ lo hi (fun w => wayOf2 k e w) (fun w => meth2 _ w) (fun w => operand2 k e w) fn2 (fun w => eqOp 2 k e k 0 w)
      have G : (((k : Int) == k) && ((0 : Int) == e) && (Pl.within k 0 3 && Pl.wordOk e)) = Pl.opOk 2 k e := by
        unfold Pl.opOk
        rw [show Pl.modeOk 2 = true from by decide, show decide ((2 : Int) < 6) = true from by decide, show Pl.extM 2 = false from by decide, Bool.eq_iff_iff]
        simp
        grind
      rw [G] at q
      exact q
    · have q := goodOp 3 k e w 72 109 (.agg #[iv k]) _ _ lo hi (fun w => wayOf3 k e w) (fun w => meth3 _ w) (fun w => operand3 k e w) fn3 (fun w => eqOp 3 k e k 0 w)
      have G : (((k : Int) == k) && ((0 : Int) == e) && (Pl.within k 0 3 && Pl.wordOk e)) = Pl.opOk 3 k e := by
        unfold Pl.opOk
        rw [show Pl.modeOk 3 = true from by decide, show decide ((3 : Int) < 6) = true from by decide, show Pl.extM 3 = false from by decide, Bool.eq_iff_iff]
        simp
        grind
      rw [G] at q
      exact q
    · have q := goodOp 4 k e w 73 110 (.agg #[iv k]) _ _ lo hi (fun w => wayOf4 k e w) (fun w => meth4 _ w) (fun w => operand4 k e w) fn4 (fun w => eqOp 4 k e k 0 w)
      have G : (((k : Int) == k) && ((0 : Int) == e) && (Pl.within k 0 3 && Pl.wordOk e)) = Pl.opOk 4 k e := by
        unfold Pl.opOk
        rw [show Pl.modeOk 4 = true from by decide, show decide ((4 : Int) < 6) = true from by decide, show Pl.extM 4 = false from by decide, Bool.eq_iff_iff]
        simp
        grind
      rw [G] at q
      exact q
    · have q := goodOp 5 k e w 75 111 (.agg #[iv k, iv e]) _ _ lo hi (fun w => wayOf5 k e w) (fun w => meth5 _ w) (fun w => operand5 k e w) fn5 (fun w => eqOp 5 k e k e w)
      have G : (((k : Int) == k) && ((e : Int) == e) && (Pl.within k 0 3 && Pl.wordOk e)) = Pl.opOk 5 k e := by
        unfold Pl.opOk
        rw [show Pl.modeOk 5 = true from by decide, show decide ((5 : Int) < 6) = true from by decide, show Pl.extM 5 = true from by decide, Bool.eq_iff_iff]
        simp
        skip
      rw [G] at q
      exact q
    · have q := goodOp 6 k e w 77 112 (.agg #[iv e]) _ _ lo hi (fun w => wayOf6 k e w) (fun w => meth6 _ w) (fun w => operand6 k e w) fn6 (fun w => eqOp 6 k e 0 e w)
      have G : (((0 : Int) == k) && ((e : Int) == e) && (Pl.within k 0 3 && Pl.wordOk e)) = Pl.opOk 6 k e := by
        unfold Pl.opOk
        rw [show Pl.modeOk 6 = true from by decide, show decide ((6 : Int) < 6) = false from by decide, show Pl.extM 6 = true from by decide, Bool.eq_iff_iff]
        simp
        grind
      rw [G] at q
      exact q
    · have q := goodOp 7 k e w 78 113 (.agg #[iv e]) _ _ lo hi (fun w => wayOf7 k e w) (fun w => meth7 _ w) (fun w => operand7 k e w) fn7 (fun w => eqOp 7 k e 0 e w)
      have G : (((0 : Int) == k) && ((e : Int) == e) && (Pl.within k 0 3 && Pl.wordOk e)) = Pl.opOk 7 k e := by
        unfold Pl.opOk
        rw [show Pl.modeOk 7 = true from by decide, show decide ((7 : Int) < 6) = false from by decide, show Pl.extM 7 = true from by decide, Bool.eq_iff_iff]
        simp
        grind
      rw [G] at q
      exact q
end Go.Proofs.Ytloaedfoecjalaa

namespace Go.Proofs.Ytloaedfoecjalaa
open Go.RowKit
set_option linter.unusedVariables false
theorem ta05 (v : Value) (w : World) : (Instr.typeAssert (.iface 69 v) 65 75 true).run Try.prog w = .ok (.tuple #[.agg #[iv 0, iv 0], .bool false]) w := by kernel_rfl
theorem ta06 (v : Value) (w : World) : (Instr.typeAssert (.iface 69 v) 65 77 true).run Try.prog w = .ok (.tuple #[.agg #[iv 0], .bool false]) w := by kernel_rfl
theorem ta07 (v : Value) (w : World) : (Instr.typeAssert (.iface 69 v) 65 78 true).run Try.prog w = .ok (.tuple #[.agg #[iv 0], .bool false]) w := by kernel_rfl
theorem ta15 (v : Value) (w : World) : (Instr.typeAssert (.iface 70 v) 65 75 true).run Try.prog w = .ok (.tuple #[.agg #[iv 0, iv 0], .bool false]) w := by kernel_rfl
theorem ta16 (v : Value) (w : World) : (Instr.typeAssert (.iface 70 v) 65 77 true).run Try.prog w = .ok (.tuple #[.agg #[iv 0], .bool false]) w := by kernel_rfl
theorem ta17 (v : Value) (w : World) : (Instr.typeAssert (.iface 70 v) 65 78 true).run Try.prog w = .ok (.tuple #[.agg #[iv 0], .bool false]) w := by kernel_rfl
theorem ta25 (v : Value) (w : World) : (Instr.typeAssert (.iface 71 v) 65 75 true).run Try.prog w = .ok (.tuple #[.agg #[iv 0, iv 0], .bool false]) w := by kernel_rfl
theorem ta26 (v : Value) (w : World) : (Instr.typeAssert (.iface 71 v) 65 77 true).run Try.prog w = .ok (.tuple #[.agg #[iv 0], .bool false]) w := by kernel_rfl
theorem ta27 (v : Value) (w : World) : (Instr.typeAssert (.iface 71 v) 65 78 true).run Try.prog w = .ok (.tuple #[.agg #[iv 0], .bool false]) w := by kernel_rfl
theorem ta35 (v : Value) (w : World) : (Instr.typeAssert (.iface 72 v) 65 75 true).run Try.prog w = .ok (.tuple #[.agg #[iv 0, iv 0], .bool false]) w := by kernel_rfl
theorem ta36 (v : Value) (w : World) : (Instr.typeAssert (.iface 72 v) 65 77 true).run Try.prog w = .ok (.tuple #[.agg #[iv 0], .bool false]) w := by kernel_rfl
theorem ta37 (v : Value) (w : World) : (Instr.typeAssert (.iface 72 v) 65 78 true).run Try.prog w = .ok (.tuple #[.agg #[iv 0], .bool false]) w := by kernel_rfl
theorem ta45 (v : Value) (w : World) : (Instr.typeAssert (.iface 73 v) 65 75 true).run Try.prog w = .ok (.tuple #[.agg #[iv 0, iv 0], .bool false]) w := by kernel_rfl
theorem ta46 (v : Value) (w : World) : (Instr.typeAssert (.iface 73 v) 65 77 true).run Try.prog w = .ok (.tuple #[.agg #[iv 0], .bool false]) w := by kernel_rfl
theorem ta47 (v : Value) (w : World) : (Instr.typeAssert (.iface 73 v) 65 78 true).run Try.prog w = .ok (.tuple #[.agg #[iv 0], .bool false]) w := by kernel_rfl
theorem ta55 (v : Value) (w : World) : (Instr.typeAssert (.iface 75 v) 65 75 true).run Try.prog w = .ok (.tuple #[v, .bool true]) w := by kernel_rfl
theorem ta56 (v : Value) (w : World) : (Instr.typeAssert (.iface 75 v) 65 77 true).run Try.prog w = .ok (.tuple #[.agg #[iv 0], .bool false]) w := by kernel_rfl
theorem ta57 (v : Value) (w : World) : (Instr.typeAssert (.iface 75 v) 65 78 true).run Try.prog w = .ok (.tuple #[.agg #[iv 0], .bool false]) w := by kernel_rfl
theorem ta65 (v : Value) (w : World) : (Instr.typeAssert (.iface 77 v) 65 75 true).run Try.prog w = .ok (.tuple #[.agg #[iv 0, iv 0], .bool false]) w := by kernel_rfl
theorem ta66 (v : Value) (w : World) : (Instr.typeAssert (.iface 77 v) 65 77 true).run Try.prog w = .ok (.tuple #[v, .bool true]) w := by kernel_rfl
theorem ta67 (v : Value) (w : World) : (Instr.typeAssert (.iface 77 v) 65 78 true).run Try.prog w = .ok (.tuple #[.agg #[iv 0], .bool false]) w := by kernel_rfl
theorem ta75 (v : Value) (w : World) : (Instr.typeAssert (.iface 78 v) 65 75 true).run Try.prog w = .ok (.tuple #[.agg #[iv 0, iv 0], .bool false]) w := by kernel_rfl
theorem ta76 (v : Value) (w : World) : (Instr.typeAssert (.iface 78 v) 65 77 true).run Try.prog w = .ok (.tuple #[.agg #[iv 0], .bool false]) w := by kernel_rfl
theorem ta77 (v : Value) (w : World) : (Instr.typeAssert (.iface 78 v) 65 78 true).run Try.prog w = .ok (.tuple #[v, .bool true]) w := by kernel_rfl
theorem hasExt0 (v : Value) (w : World) : Calls Try.prog 90 #[.iface 69 v] w fun r w' => r = .returned (.bool false) ∧ w' = w := by
  have t5 := ta05
  have t6 := ta06
  have t7 := ta07
  go_enter Try.func90, Try.ntmps90
  go_wp2
  go_ret
  exact ⟨rfl, rfl⟩
theorem hasExt1 (v : Value) (w : World) : Calls Try.prog 90 #[.iface 70 v] w fun r w' => r = .returned (.bool false) ∧ w' = w := by
  have t5 := ta15
  have t6 := ta16
  have t7 := ta17
  go_enter Try.func90, Try.ntmps90
  go_wp2
  go_ret
  exact ⟨rfl, rfl⟩
theorem hasExt2 (v : Value) (w : World) : Calls Try.prog 90 #[.iface 71 v] w fun r w' => r = .returned (.bool false) ∧ w' = w := by
  have t5 := ta25
  have t6 := ta26
  have t7 := ta27
  go_enter Try.func90, Try.ntmps90
  go_wp2
  go_ret
  exact ⟨rfl, rfl⟩
theorem hasExt3 (v : Value) (w : World) : Calls Try.prog 90 #[.iface 72 v] w fun r w' => r = .returned (.bool false) ∧ w' = w := by
  have t5 := ta35
  have t6 := ta36
  have t7 := ta37
  go_enter Try.func90, Try.ntmps90
  go_wp2
  go_ret
  exact ⟨rfl, rfl⟩
theorem hasExt4 (v : Value) (w : World) : Calls Try.prog 90 #[.iface 73 v] w fun r w' => r = .returned (.bool false) ∧ w' = w := by
  have t5 := ta45
  have t6 := ta46
  have t7 := ta47
  go_enter Try.func90, Try.ntmps90
  go_wp2
  go_ret
  exact ⟨rfl, rfl⟩
theorem hasExt5 (v : Value) (w : World) : Calls Try.prog 90 #[.iface 75 v] w fun r w' => r = .returned (.bool true) ∧ w' = w := by
  have t5 := ta55
  have t6 := ta56
  have t7 := ta57
  go_enter Try.func90, Try.ntmps90
  go_wp2
  go_ret
  exact ⟨rfl, rfl⟩
theorem hasExt6 (v : Value) (w : World) : Calls Try.prog 90 #[.iface 77 v] w fun r w' => r = .returned (.bool true) ∧ w' = w := by
  have t5 := ta65
  have t6 := ta66
  have t7 := ta67
  go_enter Try.func90, Try.ntmps90
  go_wp2
  go_ret
  exact ⟨rfl, rfl⟩
theorem hasExt7 (v : Value) (w : World) : Calls Try.prog 90 #[.iface 78 v] w fun r w' => r = .returned (.bool true) ∧ w' = w := by
  have t5 := ta75
  have t6 := ta76
  have t7 := ta77
  go_enter Try.func90, Try.ntmps90
  go_wp2
  go_ret
  exact ⟨rfl, rfl⟩
end Go.Proofs.Ytloaedfoecjalaa

namespace Go.Proofs.Ytloaedfoecjalaa
open Go.RowKit
set_option linter.unusedVariables false
theorem implNeedsExt (w : World) (m : Int) (wfm : (Lit.int .i64 m).wf = true) :
    Calls Try.prog 87 #[iv m] w fun r w' => r = .returned (.tuple #[.bool (Pl.modeOk m && Pl.extM m), .bool (Pl.modeOk m)]) ∧ Kept 0 0 w w' := by
  cases h : Pl.modeOk m
  · go_enter Try.func87, Try.ntmps87
    go_wp2_with (first | (go_at_call 72; refine (wayOfNo m 0 0 _ h).mono ?_; rintro r w1 ⟨rfl, k1⟩))
    go_quiet (fail)
    go_wp2_with fail
    go_ret2
    exact ⟨by simp, kept_drewN k1 _⟩
  · rcases modes h with rfl | rfl | rfl | rfl | rfl | rfl | rfl | rfl
    · go_enter Try.func87, Try.ntmps87
      go_wp2_with (first | (go_at_call 72; refine (wayOf0 0 0 _).mono ?_; rintro r w1 ⟨rfl, k1⟩))
      go_quiet (first | (go_at_call 90; exact Calls.quiet_of_same (hasExt0 _ _)) | fail)
      go_wp2_with fail
      go_ret2
      exact ⟨rfl, kept_drewN k1 _⟩
    · go_enter Try.func87, Try.ntmps87
      go_wp2_with (first | (go_at_call 72; refine (wayOf1 0 0 _).mono ?_; rintro r w1 ⟨rfl, k1⟩))
      go_quiet (first | (go_at_call 90; exact Calls.quiet_of_same (hasExt1 _ _)) | fail)
      go_wp2_with fail
      go_ret2
      exact ⟨rfl, kept_drewN k1 _⟩
    · go_enter Try.func87, Try.ntmps87
      go_wp2_with (first | (go_at_call 72; refine (wayOf2 0 0 _).mono ?_; rintro r w1 ⟨rfl, k1⟩))
      go_quiet (first | (go_at_call 90; exact Calls.quiet_of_same (hasExt2 _ _)) | fail)
      go_wp2_with fail
      go_ret2
      exact ⟨rfl, kept_drewN k1 _⟩
    · go_enter Try.func87, Try.ntmps87
      go_wp2_with (first | (go_at_call 72; refine (wayOf3 0 0 _).mono ?_; rintro r w1 ⟨rfl, k1⟩))
      go_quiet (first | (go_at_call 90; exact Calls.quiet_of_same (hasExt3 _ _)) | fail)
      go_wp2_with fail
      go_ret2
      exact ⟨rfl, kept_drewN k1 _⟩
    · go_enter Try.func87, Try.ntmps87
      go_wp2_with (first | (go_at_call 72; refine (wayOf4 0 0 _).mono ?_; rintro r w1 ⟨rfl, k1⟩))
      go_quiet (first | (go_at_call 90; exact Calls.quiet_of_same (hasExt4 _ _)) | fail)
      go_wp2_with fail
      go_ret2
      exact ⟨rfl, kept_drewN k1 _⟩
    · go_enter Try.func87, Try.ntmps87
      go_wp2_with (first | (go_at_call 72; refine (wayOf5 0 0 _).mono ?_; rintro r w1 ⟨rfl, k1⟩))
      go_quiet (first | (go_at_call 90; exact Calls.quiet_of_same (hasExt5 _ _)) | fail)
      go_wp2_with fail
      go_ret2
      exact ⟨rfl, kept_drewN k1 _⟩
    · go_enter Try.func87, Try.ntmps87
      go_wp2_with (first | (go_at_call 72; refine (wayOf6 0 0 _).mono ?_; rintro r w1 ⟨rfl, k1⟩))
      go_quiet (first | (go_at_call 90; exact Calls.quiet_of_same (hasExt6 _ _)) | fail)
      go_wp2_with fail
      go_ret2
      exact ⟨rfl, kept_drewN k1 _⟩
    · go_enter Try.func87, Try.ntmps87
      go_wp2_with (first | (go_at_call 72; refine (wayOf7 0 0 _).mono ?_; rintro r w1 ⟨rfl, k1⟩))
      go_quiet (first | (go_at_call 90; exact Calls.quiet_of_same (hasExt7 _ _)) | fail)
      go_wp2_with fail
      go_ret2
      exact ⟨rfl, kept_drewN k1 _⟩
end Go.Proofs.Ytloaedfoecjalaa

namespace Go.Proofs.Ytloaedfoecjalaa
open Go.RowKit
set_option linter.unusedVariables false
theorem wrapWord (v : Int) (w : World) : Calls Try.prog 84 #[iv v] w fun e w' => e = .returned (iv (v % 65536)) ∧ w' = w := by
  have hW := IntKind.wrap_u16 v
  go_enter Try.func84, Try.ntmps84
  go_wp2
  go_ret
  exact ⟨rfl, rfl⟩
end Go.Proofs.Ytloaedfoecjalaa

namespace Go.Proofs.Ytloaedfoecjalaa
open Go.RowKit
set_option linter.unusedVariables false
theorem isMem (m : Int) (w : World) : Calls Try.prog 65 #[iv m] w fun e w' => e = .returned (.bool (Pl.memM m)) ∧ w' = w := by
  by_cases h0 : 2 ≤ m
  · by_cases h1 : m ≤ 6
    · go_enter Try.func65, Try.ntmps65
      go_wp2
      go_ret
      exact ⟨rB (by simp [Pl.memM, Pl.within, h0, h1]), rfl⟩
    · go_enter Try.func65, Try.ntmps65
      go_wp2
      go_ret
      exact ⟨rB (by simp [Pl.memM, Pl.within, h0]; omega), rfl⟩
  · go_enter Try.func65, Try.ntmps65
    go_wp2
    go_ret
    exact ⟨rB (by simp [Pl.memM, Pl.within]; omega), rfl⟩
theorem canTake (m : Int) (w : World) : Calls Try.prog 76 #[iv m] w fun e w' => e = .returned (.bool ((m == 0) || Pl.memM m)) ∧ w' = w := by
  cases h0 : (m == 0)
  · go_enter Try.func76, Try.ntmps76
    go_wp2_with (go_at_call 65; refine (isMem _ _).mono ?_; rintro e w' ⟨rfl, hw⟩; have hw2 := hw.symm; clear hw; subst hw2)
    go_ret
    exact ⟨rB (by simp), rfl⟩
  · go_enter Try.func76, Try.ntmps76
    go_wp2
    go_ret
    exact ⟨rB (by simp), rfl⟩
theorem isPlain (m : Int) (w : World) : Calls Try.prog 77 #[iv m] w fun e w' => e = .returned (.bool (Pl.plainM m)) ∧ w' = w := by
  unfold Pl.plainM
  cases h0 : (m == 2) <;> cases h1 : (m == 5) <;> cases h2 : (m == 6) <;> (
    go_enter Try.func77, Try.ntmps77
    go_wp2
    go_ret
    exact ⟨rB (by simp), rfl⟩)
theorem okv17 (v : Int) : Pl.okv 1 v = Pl.within v 0 255 := by
  unfold Pl.okv Pl.within Pl.top
  rw [Bool.eq_iff_iff]; simp; omega
theorem isByte7 (v : Int) (w : World) (lo : -9223372036854775808 ≤ v) (hi : v ≤ 9223372036854775807) :
    Calls Try.prog 75 #[iv v] w fun e w' => e = .returned (.bool (Pl.within v 0 255)) ∧ w' = w := by
  go_enter Try.func75, Try.ntmps75
  go_wp2_with (go_at_call 85; refine (signedOf _ _ _ lo hi).mono ?_; rintro e w' ⟨rfl, hw⟩; have hw2 := hw.symm; clear hw; subst hw2; rw [okv17])
  go_ret
  exact ⟨rfl, rfl⟩
/-- whether an instruction of this mode has two words -/
def Pl.lng (m : Int) : Bool := Pl.modeOk m && Pl.extM m
theorem isLong (w : World) (op z r m k e s : Int) (wfm : (Lit.int .i64 m).wf = true) : Calls Try.prog 83 #[.agg (inA op z r m k e s)] w fun r' w' => r' = .returned (.bool (Pl.lng m)) ∧ Kept 0 0 w w' := by
  have K0 := hide (kept_alloc w (.cells (inA op z r m k e s) 30))
  go_enter Try.func83, Try.ntmps83
  go_wp2_with (go_at_call 87; refine (implNeedsExt _ m wfm).mono ?_; rintro e' w2 ⟨rfl, k2⟩)
  go_ret
  exact ⟨rfl, K0.out.trans k2⟩
theorem namesStatus (w : World) (op z r m k e s : Int) : Calls Try.prog 86 #[.agg (inA op z r m k e s)] w fun r' w' => r' = .returned (.bool ((r == 0) && Pl.nowO m e)) ∧ Kept 0 0 w w' := by
  have K0 := hide (kept_alloc w (.cells (inA op z r m k e s) 30))
  unfold Pl.nowO
  cases h0 : (r == 0) <;> cases h1 : (m == 7) <;> cases h2 : decide (e ≤ 1023) <;> (
    go_enter Try.func86, Try.ntmps86
    go_wp2
    go_ret
    exact ⟨rB (by simp), K0.out⟩)
theorem fitsSize (w : World) (op z r m k e s : Int) (wfe : (Lit.int .i64 e).wf = true) : Calls Try.prog 57 #[.agg (inA op z r m k e s)] w fun r' w' => r' = .returned (.bool (Pl.fitZ ⟨op, z, r, m, k, e, s⟩)) ∧ Kept 0 0 w w' := by
  have K0 := hide (kept_alloc w (.cells (inA op z r m k e s) 30))
  obtain ⟨lo, hi⟩ := wfB wfe
  unfold Pl.fitZ
  simp only
  cases h0 : (m != 7) <;> cases h1 : (z != 1) <;> cases h2 : Pl.within e 0 255 <;> (
    go_enter Try.func57, Try.ntmps57
    go_wp2_with (go_at_call 75; refine (isByte7 _ _ lo hi).mono ?_; rintro e w' ⟨rfl, hw⟩; have hw2 := hw.symm; clear hw; subst hw2; rw [h2])
    go_ret
    exact ⟨rB (by simp at h0 h1; simp [h0, h1]), K0.out⟩)
end Go.Proofs.Ytloaedfoecjalaa

namespace Go.Proofs.Ytloaedfoecjalaa
open Go.RowKit
set_option linter.unusedVariables false
namespace Pl
/-- does its question ask for both or none? -/
def both (k : Int) : Bool := k - k % 2 == 12 || k - k % 2 == 14
theorem even_of : ∀ k : Nat, k < 16 → (bits .andNot .i64 (k : Int) 1 = 0 ∧ need k = 0 ∧ both k = false) ∨ (bits .andNot .i64 (k : Int) 1 = 2 ∧ need k = 5 ∧ both k = false) ∨ (bits .andNot .i64 (k : Int) 1 = 4 ∧ need k = 1 ∧ both k = false) ∨ (bits .andNot .i64 (k : Int) 1 = 6 ∧ need k = 4 ∧ both k = false) ∨ (bits .andNot .i64 (k : Int) 1 = 8 ∧ need k = 2 ∧ both k = false) ∨ (bits .andNot .i64 (k : Int) 1 = 10 ∧ need k = 8 ∧ both k = false) ∨ (bits .andNot .i64 (k : Int) 1 = 12 ∧ need k = 10 ∧ both k = true) ∨ (bits .andNot .i64 (k : Int) 1 = 14 ∧ need k = 14 ∧ both k = true) := by decide +kernel
end Pl
theorem store_fn (a : Addr) (fn : Fn) (m : Mode) (w : World) : (store a (.func fn #[] #[]) m).run Try.prog w = stored Try.prog w a (.func fn #[] #[]) m := run_store Try.prog w a _ m rfl
theorem evenOf (c : Int) (w : World) : Calls Try.prog 80 #[iv c] w fun e w' => e = .returned (iv (bits .andNot .i64 c 1)) ∧ w' = w := by
  go_enter Try.func80, Try.ntmps80
  go_wp2
  go_ret
  exact ⟨rfl, rfl⟩
def qV (k : Int) : Value := .agg #[iv (Pl.need k), .func (.func (bif Pl.both k then 82 else 81)) #[] #[]]
theorem questionOf (k : Nat) (hk : k < 16) (w : World) : Calls Try.prog 63 #[iv (k : Int)] w fun e w' => e = .returned (qV k) ∧ Kept 0 0 w w' := by
  have hst := store_fn
  rcases Pl.even_of k hk with ⟨hE, hn, hb⟩ | ⟨hE, hn, hb⟩ | ⟨hE, hn, hb⟩ | ⟨hE, hn, hb⟩ | ⟨hE, hn, hb⟩ | ⟨hE, hn, hb⟩ | ⟨hE, hn, hb⟩ | ⟨hE, hn, hb⟩
  all_goals
    unfold qV
    rw [hn, hb]
    clear hn hb
    simp only [cond_true, cond_false]
    go_enter Try.func63, Try.ntmps63
    go_wp2_with (go_at_call 80; refine st (evenOf _ _) ?_; rw [hE])
    refine bodyPost_ret (v := _) ?_ rfl ⟨rfl, ?_⟩
    · rw [results_one rfl]; go_simp
    · exact kept_alloc _ _
theorem looks_of (x : Int) (fn : Fn) (w : World) : (Instr.field 59 (.agg #[iv x, .func fn #[] #[]]) 0).run Try.prog w = .ok (iv x) w := by kernel_rfl
end Go.Proofs.Ytloaedfoecjalaa

