/- 'append([]int{}, xs...)': a list of numbers copied into a row of the call's own, whatever the list: nil, empty, cut or not. -/
import Derived.Test.YtikmelkobbbgnaaFrame
import Derived.Deep.AppendLies
namespace Go.Proofs.Ytikmelkobbbgnaa
open Go.RowKit
set_option linter.unusedVariables false

theorem own_empty1 {w : World} {g base size : Nat} {e : TypeId} (h : Blk w g #[] e) (hb : base ≤ g) : w.ownsRow base e size (.slice (some ⟨g, 0, none⟩) 0 0) 0 [] :=
  ⟨by simp, .inr ⟨g, 0, #[], rfl, hb, h, Nat.le_refl _, Nat.zero_le _, by simp, by simp⟩⟩
theorem copy_ints {ops : Array Oper} {rest : List Oper} {o : Oper} {a : Act} {w : World} {Q : Exit → Act → World → Prop} (hgd : o.guard = none) (s x : Operand)
    (ho : o.op = .call { callee := .builtin .append, args := #[s, x], argTypes := #[22, 22] }) (base g : Nat) (hs : a.eval s = .slice (some ⟨g, 0, none⟩) 0 0) (hg : Blk w g #[] 3) (hbg : base ≤ g)
    (sp : Option Addr) (n c : Nat) (xs : List Int) (hx : a.eval x = .slice sp n c) (hr : IRow w sp xs) (hn : xs.length = n) (bn : n ≤ 2000000) (H : Nat) (hH : w.heap.size = H)
    (h : ∀ (g' cap : Nat) (w' : World), w'.ownsRow base 3 1 (.slice (some ⟨g', 0, none⟩) n cap) n (xs.map (Value.int .i64)) → Kept g (g + 1) w w' → (g' = g ∨ g' = H) → g' < w'.heap.size → wpList Try.prog ops Q rest (a.put o.dst (.slice (some ⟨g', 0, none⟩) n cap)) w') :
    wpList Try.prog ops Q (o :: rest) a w := by
  obtain ⟨i, hi, hz0, hz1, hz2⟩ := info_parts Try.info3
  have hlt := hg.lt
  by_cases h0 : n = 0
  · subst h0
    obtain rfl : xs = [] := List.eq_nil_of_length_eq_zero hn
    have hl0 : ∀ (x : Addr), (loadCells x 0).run Try.prog w = .ok #[] w := fun x => by simpa using run_loadCells_list (P := Try.prog) w x [] (by simp)
    have hrun : (Builtin.append_ #[22, 22] o.type #[.slice (some ⟨g, 0, none⟩) 0 0, .slice sp 0 c]).run Try.prog w = .ok (.slice (some ⟨g, 0, none⟩) 0 0) w := by
      cases sp <;> simp [Builtin.append_, run_underlying Try.underlying22, Builtin.lenOf, Builtin.firstCells, sizeOf, typeInfo, hi, storeCells, hl0]
    refine wpList_plain hgd fun K hK => ?_
    unfold Oper.wp
    simp [execOp, ho, resolve, invoke, builtin, hs, hx, hrun, Result.andThen]
    exact hK _ _ (h g 0 w (own_empty1 hg hbg) (Kept.refl _ _ _) (.inl rfl) hlt)
  · obtain ⟨ga, oa, rfl, _⟩ := hr 0 (by omega)
    refine wpList_append_lies _ hgd s x 22 ho base 3 i (.int .i64 0) 1 8 Try.underlying22 hi hz0 hz1 hz2 rfl (by decide) (.slice (some ⟨g, 0, none⟩) 0 0) 0 [] hs (own_empty1 hg hbg) ⟨ga, oa, none⟩ n c (xs.map (Value.int .i64)) hx (by simp [hn]) (news_of hr) news_one (by omega) (by unfold maxLen; omega) (by omega) (by omega) H hH ?_
    intro g' cap w' h1 h2 h3 h4
    simp only [Nat.zero_add, List.nil_append] at h1 ⊢
    refine h g' cap w' h1 (kept_row h2 (by intro j hj; have h5 : g = j := Option.some.inj hj; omega)) ?_ h4
    rcases h3 with h3 | h3
    · exact .inl (Option.some.inj h3).symm
    · exact .inr h3
theorem slot_of_row {w : World} {base n : Nat} {g cap : Nat} {xs : List Int} (h : w.ownsRow base 3 1 (.slice (some ⟨g, 0, none⟩) n cap) n (xs.map (Value.int .i64))) : SlotIn w base w.heap.size (some ⟨g, 0, none⟩) xs :=
  .inr ⟨g, rfl, (h.lt g rfl).1, (h.lt g rfl).2, own_of_row h⟩
end Go.Proofs.Ytikmelkobbbgnaa
