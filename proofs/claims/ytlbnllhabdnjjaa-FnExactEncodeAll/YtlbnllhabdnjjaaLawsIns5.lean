/- The law on EncodeAll: of whatever list, its Go function returns true, and no block that was there has turned. -/
import Derived.Test.YtlbnllhabdnjjaaInsFns2
import Derived.Test.YtlbnllhabdnjjaaSpecIns5
import Derived.Test.YtlbnllhabdnjjaaImplInsH
namespace Go.Proofs.Ytlbnllhabdnjjaa
open Go.RowKit
set_option linter.unusedVariables false
theorem ea_len (ys : List Int) (n : Nat) : (Pl.eaV ys n).length ≤ 2000000 := by
  unfold Pl.eaV
  split
  · rename_i h
    simp [Pl.eaOk] at h
    have := Pl.encTo_len ys n
    omega
  · simp
set_option maxRecDepth 100000 in
set_option maxHeartbeats 8000000 in
theorem lawEncodeAll (a : Option Addr) (n ca : Nat) (ys : List Int) (w : World) (hx : Came w a ys) (ly : ys.length = 7 * n) (lm : n ≤ 9223372036854775807) :
    Calls Try.prog 7 #[.slice a n ca] w fun r' w' => r' = .returned (.bool true) ∧ Below w.heap.size w w' := by
  have HX := hide hx
  have HL := hide ly
  clear hx ly
  by_cases hb : (1048576 : Int) - (n : Int) < 0
  · have hsz : (if (1048576 : Int) - (n : Int) < 0 then (-1 : Int) else 1048576 - (n : Int)) = -1 := if_pos hb
    go_enter Try.func7, Try.ntmps7
    go_wp2_with fail
    refine (szInsS _ a ca n 1048576 lm (by decide) (by decide)).mono ?_
    rintro r9 w' ⟨rfl, hw⟩
    have hw2 := hw.symm
    clear hw
    subst hw2
    rw [hsz]
    go_wp2_with fail
    go_ret
    exact ⟨rfl, Below.refl _ _⟩
  · obtain ⟨LF, hLF⟩ : ∃ LF : Int, LF = 1048576 - (n : Int) := ⟨_, rfl⟩
    have hsz : (if (1048576 : Int) - (n : Int) < 0 then (-1 : Int) else 1048576 - (n : Int)) = LF := (if_neg hb).trans hLF.symm
    have bx : n ≤ 2000000 := by omega
    have q9 : 0 ≤ LF := by omega
    have q8 : LF ≤ 2000000 := by omega
    clear hb hLF
    have bl := ea_len ys n
    generalize hLl : Pl.eaV ys n = L at bl
    generalize hKk : Pl.eaOk ys n = OK
    have HLL := hide hLl
    have HKK := hide hKk
    clear hLl hKk
    have Bel := hide (Below.refl w.heap.size w)
    go_enter Try.func7, Try.ntmps7
    go_wp2_with fail
    refine (szInsS _ a ca n 1048576 lm (by decide) (by decide)).mono ?_
    rintro r9 w' ⟨rfl, hw⟩
    have hw2 := hw.symm
    clear hw
    subst hw2
    rw [hsz]
    go_wp2_with fail
    refine (toInsS _ a ca n ys (HX.out.below Bel.out).1 HL.out bx).mono ?_
    rintro r9 w1 ⟨rfl, o9, l9, gr⟩
    have k9 := kept_grown gr
    have Beln := hide (below_kept Bel.out k9 (by omega))
    clear Bel
    have Bel := Beln
    clear Beln
    have nw1 := k9.size
    have mw1 := l9
    have O1 := hide o9
    clear k9 gr o9 l9
    go_wp2_with fail
    refine (specEncodeAll _ _ n n ys O1.out.row HL.out bx).mono ?_
    rw [HLL.out, HKK.out]
    rintro r9 w2 ⟨d0, e0, rfl, s9, k9⟩
    clear O1
    have Beln := hide (below_kept Bel.out k9 (by omega))
    clear Bel
    have Bel := Beln
    clear Beln
    have nw2 := k9.size
    have S0 := hide s9
    clear k9 s9
    go_wp2_with fail
    refine (toInsS _ a ca n ys (HX.out.below Bel.out).1 HL.out bx).mono ?_
    rintro r9 w3 ⟨rfl, o9, l9, gr⟩
    have k9 := kept_grown gr
    have Beln := hide (below_kept Bel.out k9 (by omega))
    have S0n := hide (S0.out.kept k9 (by omega))
    clear Bel S0
    have Bel := Beln
    have S0 := S0n
    clear Beln S0n
    have nw3 := k9.size
    have mw3 := l9
    have O2 := hide o9
    clear k9 gr o9 l9
    go_wp2_with fail
    refine (implEncodeAll _ _ n n ys (O2.out.came HX.out.2) HL.out bx).mono ?_
    rw [HLL.out, HKK.out]
    rintro r9 w4 ⟨d1, e1, rfl, s9, k9⟩
    have Beln := hide (below_kept Bel.out k9 (by omega))
    have S0n := hide (S0.out.kept k9 (by omega))
    have O2n := hide (O2.out.keptS k9 (by omega))
    clear Bel S0 O2
    have Bel := Beln
    have S0 := S0n
    have O2 := O2n
    clear Beln S0n O2n
    have nw4 := k9.size
    have S1 := hide s9
    clear k9 s9
    go_wp2_with fail
    refine (eqIntS _ d1 d0 _ _ L L S1.out.row S0.out.row bl bl).mono ?_
    rintro r9 w5 ⟨rfl, gr⟩
    rw [decide_eq_true (rfl : L = L)]
    have k9 := kept_grown gr
    have Beln := hide (below_kept Bel.out k9 (by omega))
    have S0n := hide (S0.out.kept k9 (by omega))
    have O2n := hide (O2.out.keptS k9 (by omega))
    have S1n := hide (S1.out.kept k9 (by omega))
    clear Bel S0 O2 S1
    have Bel := Beln
    have S0 := S0n
    have O2 := O2n
    have S1 := S1n
    clear Beln S0n O2n S1n
    have nw5 := k9.size
    clear k9 gr
    go_wp2_with fail
    refine (toInsS _ a ca n ys (HX.out.below Bel.out).1 HL.out bx).mono ?_
    rintro r9 w6 ⟨rfl, o9, l9, gr⟩
    have k9 := kept_grown gr
    have Beln := hide (below_kept Bel.out k9 (by omega))
    have S0n := hide (S0.out.kept k9 (by omega))
    have O2n := hide (O2.out.keptS k9 (by omega))
    have S1n := hide (S1.out.kept k9 (by omega))
    clear Bel S0 O2 S1
    have Bel := Beln
    have S0 := S0n
    have O2 := O2n
    have S1 := S1n
    clear Beln S0n O2n S1n
    have nw6 := k9.size
    have mw6 := l9
    have O3 := hide o9
    clear k9 gr o9 l9
    go_wp2_with fail
    refine (eqInsS _ _ _ _ _ n ys O2.out.row O3.out.row HL.out bx).mono ?_
    rintro r9 w7 ⟨rfl, gr⟩
    have k9 := kept_grown gr
    clear O3
    have Beln := hide (below_kept Bel.out k9 (by omega))
    have S0n := hide (S0.out.kept k9 (by omega))
    have O2n := hide (O2.out.keptS k9 (by omega))
    have S1n := hide (S1.out.kept k9 (by omega))
    clear Bel S0 O2 S1
    have Bel := Beln
    have S0 := S0n
    have O2 := O2n
    have S1 := S1n
    clear Beln S0n O2n S1n
    have nw7 := k9.size
    clear k9 gr
    go_wp2_with fail
    refine (markInsS _ _ _ n ys 1 O2.out HL.out bx (by decide) (by decide)).mono ?_
    rintro r9 w8 ⟨rfl, o9, gr⟩
    have k9 : Kept w2.heap.size w3.heap.size _ w8 := kept_row gr (fun g hg => by have q : w2.heap.size = g := Option.some.inj hg; omega)
    clear O2
    have Beln := hide (below_kept Bel.out k9 (by omega))
    have S0n := hide (S0.out.kept k9 (by omega))
    have S1n := hide (S1.out.kept k9 (by omega))
    clear Bel S0 S1
    have Bel := Beln
    have S0 := S0n
    have S1 := S1n
    clear Beln S0n S1n
    have nw8 := k9.size
    clear k9 gr o9
    go_wp2_with fail
    refine (eqIntS _ d1 d0 _ _ L L S1.out.row S0.out.row bl bl).mono ?_
    rintro r9 w9 ⟨rfl, gr⟩
    rw [decide_eq_true (rfl : L = L)]
    have k9 := kept_grown gr
    have Beln := hide (below_kept Bel.out k9 (by omega))
    have S0n := hide (S0.out.kept k9 (by omega))
    have S1n := hide (S1.out.kept k9 (by omega))
    clear Bel S0 S1
    have Bel := Beln
    have S0 := S0n
    have S1 := S1n
    clear Beln S0n S1n
    have nw9 := k9.size
    clear k9 gr
    go_wp2_with fail
    refine (markSlot _ w3.heap.size _ d1 L 1 (S1.out.slot (by omega)) bl (by decide) (by decide)).mono ?_
    rintro r9 w10 ⟨rfl, sl, gr⟩
    have k9 : Kept w3.heap.size w4.heap.size _ w10 := kept_row gr S1.out.blk_in
    have M := hide (S1.out.again sl)
    clear S1
    have Beln := hide (below_kept Bel.out k9 (by omega))
    have S0n := hide (S0.out.kept k9 (by omega))
    clear Bel S0
    have Bel := Beln
    have S0 := S0n
    clear Beln S0n
    have nw10 := k9.size
    clear k9 sl gr
    go_wp2_with fail
    refine (heldIntS _ d1 _ L.length 1 M.out.row bl (by decide) (by decide)).mono ?_
    rintro r9 w11 ⟨rfl, gr⟩
    have k9 := kept_grown gr
    have Beln := hide (below_kept Bel.out k9 (by omega))
    have S0n := hide (S0.out.kept k9 (by omega))
    have Mn := hide (M.out.kept k9 (by omega))
    clear Bel S0 M
    have Bel := Beln
    have S0 := S0n
    have M := Mn
    clear Beln S0n Mn
    have nw11 := k9.size
    clear k9 gr
    go_wp2_with fail
    refine (toInsS _ a ca n ys (HX.out.below Bel.out).1 HL.out bx).mono ?_
    rintro r9 w12 ⟨rfl, o9, l9, gr⟩
    have k9 := kept_grown gr
    have Beln := hide (below_kept Bel.out k9 (by omega))
    have S0n := hide (S0.out.kept k9 (by omega))
    have Mn := hide (M.out.kept k9 (by omega))
    clear Bel S0 M
    have Bel := Beln
    have S0 := S0n
    have M := Mn
    clear Beln S0n Mn
    have nw12 := k9.size
    have mw12 := l9
    have O4 := hide o9
    clear k9 gr o9 l9
    go_wp2_with fail
    refine (implEncodeAll _ _ n n ys (O4.out.came HX.out.2) HL.out bx).mono ?_
    rw [HLL.out, HKK.out]
    rintro r9 w13 ⟨d2, e2, rfl, s9, k9⟩
    have Beln := hide (below_kept Bel.out k9 (by omega))
    have S0n := hide (S0.out.kept k9 (by omega))
    have Mn := hide (M.out.kept k9 (by omega))
    have O4n := hide (O4.out.keptS k9 (by omega))
    clear Bel S0 M O4
    have Bel := Beln
    have S0 := S0n
    have M := Mn
    have O4 := O4n
    clear Beln S0n Mn O4n
    have nw13 := k9.size
    have S2 := hide s9
    clear k9 s9
    go_wp2_with fail
    refine (eqIntS _ d2 d0 _ _ L L S2.out.row S0.out.row bl bl).mono ?_
    rintro r9 w14 ⟨rfl, gr⟩
    rw [decide_eq_true (rfl : L = L)]
    have k9 := kept_grown gr
    have Beln := hide (below_kept Bel.out k9 (by omega))
    have S0n := hide (S0.out.kept k9 (by omega))
    have Mn := hide (M.out.kept k9 (by omega))
    have O4n := hide (O4.out.keptS k9 (by omega))
    have S2n := hide (S2.out.kept k9 (by omega))
    clear Bel S0 M O4 S2
    have Bel := Beln
    have S0 := S0n
    have M := Mn
    have O4 := O4n
    have S2 := S2n
    clear Beln S0n Mn O4n S2n
    have nw14 := k9.size
    clear k9 gr
    go_wp2_with fail
    refine (heldIntS _ d1 _ L.length 1 M.out.row bl (by decide) (by decide)).mono ?_
    rintro r9 w15 ⟨rfl, gr⟩
    have k9 := kept_grown gr
    have Beln := hide (below_kept Bel.out k9 (by omega))
    have S0n := hide (S0.out.kept k9 (by omega))
    have Mn := hide (M.out.kept k9 (by omega))
    have O4n := hide (O4.out.keptS k9 (by omega))
    have S2n := hide (S2.out.kept k9 (by omega))
    clear Bel S0 M O4 S2
    have Bel := Beln
    have S0 := S0n
    have M := Mn
    have O4 := O4n
    have S2 := S2n
    clear Beln S0n Mn O4n S2n
    have nw15 := k9.size
    clear k9 gr
    go_wp2_with fail
    go_ret
    exact ⟨rfl, Bel.out⟩
end Go.Proofs.Ytlbnllhabdnjjaa
