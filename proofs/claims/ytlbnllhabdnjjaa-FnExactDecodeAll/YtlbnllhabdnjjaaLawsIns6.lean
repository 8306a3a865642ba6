/- The law on DecodeAll: of whatever list, its Go function returns true, and no block that was there has turned. -/
import Derived.Test.YtlbnllhabdnjjaaInsFns2
import Derived.Test.YtlbnllhabdnjjaaSpecIns6
import Derived.Test.YtlbnllhabdnjjaaImplInsI
namespace Go.Proofs.Ytlbnllhabdnjjaa
open Go.RowKit
set_option linter.unusedVariables false
theorem da_len : ∀ (l : List Int) (o : List Pl.In), Pl.da l = some o → o.length ≤ l.length
  | [], o, h => by simp [Pl.da] at h; subst h; simp
  | [w], o, h => by
    simp [Pl.da] at h
    rw [← h.2]; simp
  | w :: v :: t, o, h => by
    simp only [Pl.da] at h
    split at h
    · split at h
      · split at h
        · cases hd : Pl.da t with
          | none => rw [hd] at h; cases h
          | some q => rw [hd] at h; simp at h; subst h; have := da_len t q hd; simp; omega
        · cases h
      · split at h
        · cases hd : Pl.da (v :: t) with
          | none => rw [hd] at h; cases h
          | some q => rw [hd] at h; simp at h; subst h; have := da_len (v :: t) q hd; simp at this ⊢; omega
        · cases h
    · cases h
theorem daV_len (l : List Int) : (Pl.daV l).length ≤ 2000000 := by
  unfold Pl.daV
  split
  · rename_i h
    simp [Pl.daOk] at h
    obtain ⟨h1, h2⟩ := h
    cases hd : Pl.da l with
    | none => simp
    | some o => have := da_len l o hd; simp; omega
  · simp
set_option maxRecDepth 100000 in
set_option maxHeartbeats 8000000 in
theorem lawDecodeAll (a : Option Addr) (ca : Nat) (xs : List Int) (w : World) (hx : Came w a xs) (lm : xs.length ≤ 9223372036854775807) :
    Calls Try.prog 8 #[.slice a xs.length ca] w fun r' w' => r' = .returned (.bool true) ∧ Below w.heap.size w w' := by
  have HX := hide hx
  clear hx
  cases hb : decide ((1048576 : Int) < (xs.length : Int))
  · have bx : xs.length ≤ 2000000 := by simp at hb; omega
    have bl := daV_len xs
    have HN := hide (Pl.flat_len (Pl.daV xs))
    generalize hLl : Pl.flat (Pl.daV xs) = L at HN
    generalize hNn : (Pl.daV xs).length = N at bl HN
    generalize hKk : Pl.daOk xs = OK
    have HLL := hide hLl
    have HKK := hide hKk
    have HNN := hide hNn
    clear hLl hKk hNn
    have Bel := hide (Below.refl w.heap.size w)
    go_enter Try.func8, Try.ntmps8
    go_wp2_with fail
    refine (toIntS _ a ca xs (HX.out.below Bel.out).1 bx).mono ?_
    rintro r9 w1 ⟨rfl, o9, l9, gr⟩
    have k9 := kept_grown gr
    have Beln := hide (below_kept Bel.out k9 (by omega))
    clear Bel
    have Bel := Beln
    clear Beln
    have nw1 := k9.size
    have mw1 := l9
    have O1 := hide o9
    clear k9 gr o9 l9
    go_wp2_with fail
    refine (specDecodeAll _ _ _ xs O1.out.row bx).mono ?_
    rw [HNN.out, HLL.out, HKK.out]
    rintro r9 w2 ⟨d0, e0, rfl, s9, k9⟩
    clear O1
    have Beln := hide (below_kept Bel.out k9 (by omega))
    clear Bel
    have Bel := Beln
    clear Beln
    have nw2 := k9.size
    have S0 := hide s9
    clear k9 s9
    go_wp2_with fail
    refine (toIntS _ a ca xs (HX.out.below Bel.out).1 bx).mono ?_
    rintro r9 w3 ⟨rfl, o9, l9, gr⟩
    have k9 := kept_grown gr
    have Beln := hide (below_kept Bel.out k9 (by omega))
    have S0n := hide (S0.out.kept k9 (by omega))
    clear Bel S0
    have Bel := Beln
    have S0 := S0n
    clear Beln S0n
    have nw3 := k9.size
    have mw3 := l9
    have O2 := hide o9
    clear k9 gr o9 l9
    go_wp2_with fail
    refine (implDecodeAllC _ _ _ xs (O2.out.came HX.out.2) bx (Nat.le_refl _)).mono ?_
    rw [HNN.out, HLL.out, HKK.out]
    rintro r9 w4 ⟨d1, e1, rfl, s9, k9⟩
    have Beln := hide (below_kept Bel.out k9 (by omega))
    have S0n := hide (S0.out.kept k9 (by omega))
    have O2n := hide (O2.out.keptS k9 (by omega))
    clear Bel S0 O2
    have Bel := Beln
    have S0 := S0n
    have O2 := O2n
    clear Beln S0n O2n
    have nw4 := k9.size
    have S1 := hide s9
    clear k9 s9
    go_wp2_with fail
    refine (eqInsS _ d1 d0 _ _ N L S1.out.row S0.out.row HN.out bl).mono ?_
    rintro r9 w5 ⟨rfl, gr⟩
    have k9 := kept_grown gr
    have Beln := hide (below_kept Bel.out k9 (by omega))
    have S0n := hide (S0.out.kept k9 (by omega))
    have O2n := hide (O2.out.keptS k9 (by omega))
    have S1n := hide (S1.out.kept k9 (by omega))
    clear Bel S0 O2 S1
    have Bel := Beln
    have S0 := S0n
    have O2 := O2n
    have S1 := S1n
    clear Beln S0n O2n S1n
    have nw5 := k9.size
    clear k9 gr
    go_wp2_with fail
    refine (toIntS _ a ca xs (HX.out.below Bel.out).1 bx).mono ?_
    rintro r9 w6 ⟨rfl, o9, l9, gr⟩
    have k9 := kept_grown gr
    have Beln := hide (below_kept Bel.out k9 (by omega))
    have S0n := hide (S0.out.kept k9 (by omega))
    have O2n := hide (O2.out.keptS k9 (by omega))
    have S1n := hide (S1.out.kept k9 (by omega))
    clear Bel S0 O2 S1
    have Bel := Beln
    have S0 := S0n
    have O2 := O2n
    have S1 := S1n
    clear Beln S0n O2n S1n
    have nw6 := k9.size
    have mw6 := l9
    have O3 := hide o9
    clear k9 gr o9 l9
    go_wp2_with fail
    refine (eqIntS _ _ _ _ _ xs xs O2.out.row O3.out.row bx bx).mono ?_
    rintro r9 w7 ⟨rfl, gr⟩
    rw [decide_eq_true (rfl : xs = xs)]
    have k9 := kept_grown gr
    clear O3
    have Beln := hide (below_kept Bel.out k9 (by omega))
    have S0n := hide (S0.out.kept k9 (by omega))
    have O2n := hide (O2.out.keptS k9 (by omega))
    have S1n := hide (S1.out.kept k9 (by omega))
    clear Bel S0 O2 S1
    have Bel := Beln
    have S0 := S0n
    have O2 := O2n
    have S1 := S1n
    clear Beln S0n O2n S1n
    have nw7 := k9.size
    clear k9 gr
    go_wp2_with fail
    refine (markSlot _ w2.heap.size _ _ xs 1 (.inr ⟨_, rfl, Nat.le_refl _, by omega, O2.out⟩) bx (by decide) (by decide)).mono ?_
    rintro r9 w8 ⟨rfl, o9, gr⟩
    have k9 : Kept w2.heap.size w3.heap.size _ w8 := kept_row gr (fun g hg => by have q : w2.heap.size = g := Option.some.inj hg; omega)
    clear O2
    have Beln := hide (below_kept Bel.out k9 (by omega))
    have S0n := hide (S0.out.kept k9 (by omega))
    have S1n := hide (S1.out.kept k9 (by omega))
    clear Bel S0 S1
    have Bel := Beln
    have S0 := S0n
    have S1 := S1n
    clear Beln S0n S1n
    have nw8 := k9.size
    clear k9 gr o9
    go_wp2_with fail
    refine (eqInsS _ d1 d0 _ _ N L S1.out.row S0.out.row HN.out bl).mono ?_
    rintro r9 w9 ⟨rfl, gr⟩
    have k9 := kept_grown gr
    have Beln := hide (below_kept Bel.out k9 (by omega))
    have S0n := hide (S0.out.kept k9 (by omega))
    have S1n := hide (S1.out.kept k9 (by omega))
    clear Bel S0 S1
    have Bel := Beln
    have S0 := S0n
    have S1 := S1n
    clear Beln S0n S1n
    have nw9 := k9.size
    clear k9 gr
    go_wp2_with fail
    refine (markSlotI _ w3.heap.size _ N d1 L 1 (S1.out.slot (by omega)) HN.out bl (by decide) (by decide)).mono ?_
    rintro r9 w10 ⟨rfl, sl, gr⟩
    have k9 : Kept w3.heap.size w4.heap.size _ w10 := kept_row gr S1.out.blk_in
    have M := hide (S1.out.again sl)
    clear S1
    have Beln := hide (below_kept Bel.out k9 (by omega))
    have S0n := hide (S0.out.kept k9 (by omega))
    clear Bel S0
    have Bel := Beln
    have S0 := S0n
    clear Beln S0n
    have nw10 := k9.size
    clear k9 sl gr
    go_wp2_with fail
    refine (heldInsS _ d1 _ N 1 M.out.row bl (by decide) (by decide)).mono ?_
    rintro r9 w11 ⟨rfl, gr⟩
    have k9 := kept_grown gr
    have Beln := hide (below_kept Bel.out k9 (by omega))
    have S0n := hide (S0.out.kept k9 (by omega))
    have Mn := hide (M.out.kept k9 (by omega))
    clear Bel S0 M
    have Bel := Beln
    have S0 := S0n
    have M := Mn
    clear Beln S0n Mn
    have nw11 := k9.size
    clear k9 gr
    go_wp2_with fail
    refine (toIntS _ a ca xs (HX.out.below Bel.out).1 bx).mono ?_
    rintro r9 w12 ⟨rfl, o9, l9, gr⟩
    have k9 := kept_grown gr
    have Beln := hide (below_kept Bel.out k9 (by omega))
    have S0n := hide (S0.out.kept k9 (by omega))
    have Mn := hide (M.out.kept k9 (by omega))
    clear Bel S0 M
    have Bel := Beln
    have S0 := S0n
    have M := Mn
    clear Beln S0n Mn
    have nw12 := k9.size
    have mw12 := l9
    have O4 := hide o9
    clear k9 gr o9 l9
    go_wp2_with fail
    refine (implDecodeAllC _ _ _ xs (O4.out.came HX.out.2) bx (Nat.le_refl _)).mono ?_
    rw [HNN.out, HLL.out, HKK.out]
    rintro r9 w13 ⟨d2, e2, rfl, s9, k9⟩
    have Beln := hide (below_kept Bel.out k9 (by omega))
    have S0n := hide (S0.out.kept k9 (by omega))
    have Mn := hide (M.out.kept k9 (by omega))
    have O4n := hide (O4.out.keptS k9 (by omega))
    clear Bel S0 M O4
    have Bel := Beln
    have S0 := S0n
    have M := Mn
    have O4 := O4n
    clear Beln S0n Mn O4n
    have nw13 := k9.size
    have S2 := hide s9
    clear k9 s9
    go_wp2_with fail
    refine (eqInsS _ d2 d0 _ _ N L S2.out.row S0.out.row HN.out bl).mono ?_
    rintro r9 w14 ⟨rfl, gr⟩
    have k9 := kept_grown gr
    have Beln := hide (below_kept Bel.out k9 (by omega))
    have S0n := hide (S0.out.kept k9 (by omega))
    have Mn := hide (M.out.kept k9 (by omega))
    have O4n := hide (O4.out.keptS k9 (by omega))
    have S2n := hide (S2.out.kept k9 (by omega))
    clear Bel S0 M O4 S2
    have Bel := Beln
    have S0 := S0n
    have M := Mn
    have O4 := O4n
    have S2 := S2n
    clear Beln S0n Mn O4n S2n
    have nw14 := k9.size
    clear k9 gr
    go_wp2_with fail
    refine (heldInsS _ d1 _ N 1 M.out.row bl (by decide) (by decide)).mono ?_
    rintro r9 w15 ⟨rfl, gr⟩
    have k9 := kept_grown gr
    have Beln := hide (below_kept Bel.out k9 (by omega))
    have S0n := hide (S0.out.kept k9 (by omega))
    have Mn := hide (M.out.kept k9 (by omega))
    have O4n := hide (O4.out.keptS k9 (by omega))
    have S2n := hide (S2.out.kept k9 (by omega))
    clear Bel S0 M O4 S2
    have Bel := Beln
    have S0 := S0n
    have M := Mn
    have O4 := O4n
    have S2 := S2n
    clear Beln S0n Mn O4n S2n
    have nw15 := k9.size
    clear k9 gr
    go_wp2_with fail
    go_ret
    exact ⟨rfl, Bel.out⟩
  · go_enter Try.func8, Try.ntmps8
    go_wp2_with fail
    go_ret
    exact ⟨rfl, Below.refl _ _⟩
end Go.Proofs.Ytlbnllhabdnjjaa
