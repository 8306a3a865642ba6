/- What the model makes of a note: the flags that are meant; FlagsOf, CondOf, CarryOf, NoteFlagOp. What the program's small functions on operations answer, whether a note is good, a note with an operation more. A call that only draws from the tape: what it leaves, in the two forms that a law's frame asks for. A row of bits (the program's struct of five fields), laid in a block of its own: what it holds, and what later worlds leave of it. What the program's moves by one place answer, for each kind and size: one contract a method; each makes new blocks and changes none that was there. What the program's moves of each kind answer at size 1: each makes new blocks and changes none that was there. -/
import Derived.Test.YtnmddmmmgdfknaaEE1
import Derived.Below
import Derived.Laws.Rows
import Derived.Laws.ResultCell
import Derived.RegionTactic
import Derived.ChangeAlike
import Derived.BigRegion
import Derived.Deep.RegionWith
namespace Go.Proofs.Ytnmddmmmgdfknaa
open Go.RowKit
set_option linter.unusedVariables false
set_option maxRecDepth 100000 in
set_option maxHeartbeats 4000000 in
theorem specFlags (w : World) (z : Pl.Lz) (h : Pl.lzOk z = true) : Calls Try.prog 91 #[.agg (lzA z)] w fun e w' => e = .returned (iv (Pl.lzF z)) ∧ Kept 0 0 w w' := by
  have K0 := hide (kept_alloc w (.cells (lzA z) 49))
  have B0 := hide (Blk.new w (lzA z) 49)
  have q := B0.out.all
  obtain ⟨hb, hl0, hr0⟩ := Pl.lz_parts h
  have hg0 := Pl.flags_mk0 hr0 hb
  cases NR : Pl.foNone z.r
  · cases NL : Pl.foNone z.l
    · cases SL : Pl.sumK z.l.k
      · have hr : Pl.foOk z.r = true := by rcases hr0 with q | q; rw [NR] at q; cases q; exact q
        have hl : Pl.foOk z.l = true := by rcases hl0 with q | q; rw [NL] at q; cases q; exact q
        have hg := hg0
        have E : Hid (Pl.lzF z = Pl.mk (Pl.mk z.b z.r) z.l) := hide (by rfl)
        go_enter Try.func91, Try.ntmps91
        go_wp2_with (first | (go_at_call 132; (first | (with_reducible refine (specNone _ z.l).mono ?_; rw [NL]) | (with_reducible refine (specNone _ z.r).mono ?_; rw [NR])); rintro e9 w9 ⟨rfl, k9⟩; replace K0 := hide (K0.out.trans k9); replace B0 := hide (B0.out.kept0 k9); clear q; have q := B0.out.all; clear k9) | (go_at_call 113; with_reducible refine (specSum _ z.l).mono ?_; rw [SL]; rintro e9 w9 ⟨rfl, k9⟩; replace K0 := hide (K0.out.trans k9); replace B0 := hide (B0.out.kept0 k9); clear q; have q := B0.out.all; clear k9) | (go_at_call 79; (first | (with_reducible refine (specMake _ _ z.r hr hb).mono ?_) | (with_reducible refine (specMake _ _ z.l hl hg).mono ?_)); rintro e9 w9 ⟨rfl, k9⟩; replace K0 := hide (K0.out.trans k9); replace B0 := hide (B0.out.kept0 k9); clear q; have q := B0.out.all; clear k9))
        go_ret
        exact ⟨rI E.out.symm, K0.out⟩
      · have hr : Pl.foOk z.r = true := by rcases hr0 with q | q; rw [NR] at q; cases q; exact q
        have hs : z.r = z.l := by simp only [Pl.lzOk, Bool.and_eq_true] at h; have h2 := h.2; rw [NL, SL] at h2; simp only [cond_false, cond_true, Bool.and_eq_true] at h2; exact Pl.foSame_ok h2.2
        have E : Hid (Pl.lzF z = Pl.mk z.b z.r) := hide (by unfold Pl.lzF; rw [hs]; exact Pl.mk_sum SL _ _)
        clear hs
        go_enter Try.func91, Try.ntmps91
        go_wp2_with (first | (go_at_call 132; (first | (with_reducible refine (specNone _ z.l).mono ?_; rw [NL]) | (with_reducible refine (specNone _ z.r).mono ?_; rw [NR])); rintro e9 w9 ⟨rfl, k9⟩; replace K0 := hide (K0.out.trans k9); replace B0 := hide (B0.out.kept0 k9); clear q; have q := B0.out.all; clear k9) | (go_at_call 113; with_reducible refine (specSum _ z.l).mono ?_; rw [SL]; rintro e9 w9 ⟨rfl, k9⟩; replace K0 := hide (K0.out.trans k9); replace B0 := hide (B0.out.kept0 k9); clear q; have q := B0.out.all; clear k9) | (go_at_call 79; (first | (with_reducible refine (specMake _ _ z.r hr hb).mono ?_) | (with_reducible refine (specMake _ _ z.l hl hg).mono ?_)); rintro e9 w9 ⟨rfl, k9⟩; replace K0 := hide (K0.out.trans k9); replace B0 := hide (B0.out.kept0 k9); clear q; have q := B0.out.all; clear k9))
        go_ret
        exact ⟨rI E.out.symm, K0.out⟩
    · have hr : Pl.foOk z.r = true := by rcases hr0 with q | q; rw [NR] at q; cases q; exact q
      have E : Hid (Pl.lzF z = Pl.mk z.b z.r) := hide (by unfold Pl.lzF; exact Pl.mk_none NL _)
      go_enter Try.func91, Try.ntmps91
      go_wp2_with (first | (go_at_call 132; (first | (with_reducible refine (specNone _ z.l).mono ?_; rw [NL]) | (with_reducible refine (specNone _ z.r).mono ?_; rw [NR])); rintro e9 w9 ⟨rfl, k9⟩; replace K0 := hide (K0.out.trans k9); replace B0 := hide (B0.out.kept0 k9); clear q; have q := B0.out.all; clear k9) | (go_at_call 113; with_reducible refine (specSum _ z.l).mono ?_; rw [SL]; rintro e9 w9 ⟨rfl, k9⟩; replace K0 := hide (K0.out.trans k9); replace B0 := hide (B0.out.kept0 k9); clear q; have q := B0.out.all; clear k9) | (go_at_call 79; (first | (with_reducible refine (specMake _ _ z.r hr hb).mono ?_) | (with_reducible refine (specMake _ _ z.l hl hg).mono ?_)); rintro e9 w9 ⟨rfl, k9⟩; replace K0 := hide (K0.out.trans k9); replace B0 := hide (B0.out.kept0 k9); clear q; have q := B0.out.all; clear k9))
      go_ret
      exact ⟨rI E.out.symm, K0.out⟩
  · cases NL : Pl.foNone z.l
    · cases SL : Pl.sumK z.l.k
      · have hl : Pl.foOk z.l = true := by rcases hl0 with q | q; rw [NL] at q; cases q; exact q
        have hg := hb
        have E : Hid (Pl.lzF z = Pl.mk z.b z.l) := hide (by unfold Pl.lzF; rw [Pl.mk_none NR])
        go_enter Try.func91, Try.ntmps91
        go_wp2_with (first | (go_at_call 132; (first | (with_reducible refine (specNone _ z.l).mono ?_; rw [NL]) | (with_reducible refine (specNone _ z.r).mono ?_; rw [NR])); rintro e9 w9 ⟨rfl, k9⟩; replace K0 := hide (K0.out.trans k9); replace B0 := hide (B0.out.kept0 k9); clear q; have q := B0.out.all; clear k9) | (go_at_call 113; with_reducible refine (specSum _ z.l).mono ?_; rw [SL]; rintro e9 w9 ⟨rfl, k9⟩; replace K0 := hide (K0.out.trans k9); replace B0 := hide (B0.out.kept0 k9); clear q; have q := B0.out.all; clear k9) | (go_at_call 79; (first | (with_reducible refine (specMake _ _ z.r hr hb).mono ?_) | (with_reducible refine (specMake _ _ z.l hl hg).mono ?_)); rintro e9 w9 ⟨rfl, k9⟩; replace K0 := hide (K0.out.trans k9); replace B0 := hide (B0.out.kept0 k9); clear q; have q := B0.out.all; clear k9))
        go_ret
        exact ⟨rI E.out.symm, K0.out⟩
      · exfalso
        have hs : z.r = z.l := by simp only [Pl.lzOk, Bool.and_eq_true] at h; have h2 := h.2; rw [NL, SL] at h2; simp only [cond_false, cond_true, Bool.and_eq_true] at h2; exact Pl.foSame_ok h2.2
        have hl : Pl.foOk z.l = true := by rcases hl0 with q | q; rw [NL] at q; cases q; exact q
        rw [hs, Pl.foNone_no hl] at NR
        cases NR
    · have E : Hid (Pl.lzF z = z.b) := hide (by unfold Pl.lzF; rw [Pl.mk_none NR, Pl.mk_none NL])
      go_enter Try.func91, Try.ntmps91
      go_wp2_with (first | (go_at_call 132; (first | (with_reducible refine (specNone _ z.l).mono ?_; rw [NL]) | (with_reducible refine (specNone _ z.r).mono ?_; rw [NR])); rintro e9 w9 ⟨rfl, k9⟩; replace K0 := hide (K0.out.trans k9); replace B0 := hide (B0.out.kept0 k9); clear q; have q := B0.out.all; clear k9) | (go_at_call 113; with_reducible refine (specSum _ z.l).mono ?_; rw [SL]; rintro e9 w9 ⟨rfl, k9⟩; replace K0 := hide (K0.out.trans k9); replace B0 := hide (B0.out.kept0 k9); clear q; have q := B0.out.all; clear k9) | (go_at_call 79; (first | (with_reducible refine (specMake _ _ z.r hr hb).mono ?_) | (with_reducible refine (specMake _ _ z.l hl hg).mono ?_)); rintro e9 w9 ⟨rfl, k9⟩; replace K0 := hide (K0.out.trans k9); replace B0 := hide (B0.out.kept0 k9); clear q; have q := B0.out.all; clear k9))
      go_ret
      exact ⟨rI E.out.symm, K0.out⟩
set_option maxRecDepth 100000 in
theorem specFlagsOf (w : World) (z : Pl.Lz) : Calls Try.prog 45 #[.agg (lzA z)] w fun e w' => e = .returned (.tuple #[iv (Pl.lzV z), .bool (Pl.lzOk z)]) ∧ Kept 0 0 w w' := by
  have K0 := hide (kept_alloc w (.cells (lzA z) 49))
  have B0 := hide (Blk.new w (lzA z) 49)
  have q := B0.out.all
  cases G : Pl.lzOk z
  · have E : Hid (Pl.lzV z = 0) := hide (by simp [Pl.lzV, G])
    go_enter Try.func45, Try.ntmps45
    go_wp2_with (first | (go_at_call 90; with_reducible refine (specGoodLazy _ z).mono ?_; rw [G]; rintro e9 w9 ⟨rfl, k9⟩; replace K0 := hide (K0.out.trans k9); replace B0 := hide (B0.out.kept0 k9); clear q; have q := B0.out.all; clear k9) | (go_at_call 91; with_reducible refine (specFlags _ z G).mono ?_; rintro e9 w9 ⟨rfl, k9⟩; replace K0 := hide (K0.out.trans k9); replace B0 := hide (B0.out.kept0 k9); clear q; have q := B0.out.all; clear k9))
    go_ret2
    exact ⟨rIB E.out.symm rfl, K0.out⟩
  · have E : Hid (Pl.lzV z = Pl.lzF z) := hide (by simp [Pl.lzV, G])
    go_enter Try.func45, Try.ntmps45
    go_wp2_with (first | (go_at_call 90; with_reducible refine (specGoodLazy _ z).mono ?_; rw [G]; rintro e9 w9 ⟨rfl, k9⟩; replace K0 := hide (K0.out.trans k9); replace B0 := hide (B0.out.kept0 k9); clear q; have q := B0.out.all; clear k9) | (go_at_call 91; with_reducible refine (specFlags _ z G).mono ?_; rintro e9 w9 ⟨rfl, k9⟩; replace K0 := hide (K0.out.trans k9); replace B0 := hide (B0.out.kept0 k9); clear q; have q := B0.out.all; clear k9))
    go_ret2
    exact ⟨rIB E.out.symm rfl, K0.out⟩
end Go.Proofs.Ytnmddmmmgdfknaa

namespace Go.Proofs.Ytnmddmmmgdfknaa
open Go.RowKit
set_option linter.unusedVariables false
theorem implNone (w : World) (x : Pl.Fo) : Calls Try.prog 83 #[.agg (foA x)] w fun e w' => e = .returned (.bool (Pl.foNone x)) ∧ Kept 0 0 w w' := by
  have he := eqFo0 x
  go_enter Try.func83, Try.ntmps83
  go_wp2_with fail
  go_ret
  exact ⟨rfl, kept_alloc _ _⟩
theorem implSum (k : Int) (w : World) : Calls Try.prog 85 #[iv k] w fun e w' => e = .returned (.bool (Pl.sumK k)) ∧ w' = w := by
  by_cases h1 : k = 1
  · subst h1
    go_enter Try.func85, Try.ntmps85
    go_wp2_with fail
    go_ret
    exact ⟨rfl, rfl⟩
  · have k1 : (k == 1) = false := by simpa using h1
    go_enter Try.func85, Try.ntmps85
    go_wp2_with fail
    go_ret
    exact ⟨rB (by simp [Pl.sumK, h1]), rfl⟩
theorem implTakesB (k : Int) (w : World) : Calls Try.prog 129 #[iv k] w fun e w' => e = .returned (.bool (Pl.sumK k || (k == 3))) ∧ w' = w := by
  cases S : Pl.sumK k
  all_goals
    go_enter Try.func129, Try.ntmps129
    go_wp2_with (go_at_call 85; refine st (implSum k _) ?_; rw [S])
    go_ret
    exact ⟨rB (by simp), rfl⟩
theorem implFo (w : World) (x : Pl.Fo) (wf : FoW x) : Calls Try.prog 84 #[.agg (foA x)] w fun e w' => e = .returned (.bool (Pl.foOk x)) ∧ Kept 0 0 w w' := by
  obtain ⟨la, ha⟩ := bounds_i64 wf.a
  obtain ⟨lb, hb⟩ := bounds_i64 wf.b
  obtain ⟨k, z, a, b⟩ := x
  simp only at la ha lb hb
  clear wf
  cases P : (Pl.okv z a && Pl.okv z b)
  · go_enter Try.func84, Try.ntmps84
    go_wp2_with (go_at_call 128; refine st (signedPair z a b _ la ha lb hb) ?_; rw [P])
    go_ret
    exact ⟨rB (by simp only [Pl.foOk]; rw [P]; rfl), kept_alloc _ _⟩
  · by_cases h1 : 1 ≤ k
    · by_cases h5 : k ≤ 5
      · cases T : (Pl.sumK k || (k == 3))
        · have h3 : ¬ k ≤ 3 := by simp [Pl.sumK] at T; omega
          have E : Hid (Pl.foOk ⟨k, z, a, b⟩ = (b == 0)) := hide (by simp only [Pl.foOk]; rw [P, decide_eq_true h1, decide_eq_true h5, decide_eq_false h3]; simp)
          go_enter Try.func84, Try.ntmps84
          go_wp2_with (first | (go_at_call 128; refine st (signedPair z a b _ la ha lb hb) ?_; rw [P]) | (go_at_call 129; refine st (implTakesB k _) ?_; rw [T]))
          go_ret
          exact ⟨rB E.out.symm, kept_alloc _ _⟩
        · have h3 : k ≤ 3 := by simp [Pl.sumK] at T; omega
          have E : Hid (Pl.foOk ⟨k, z, a, b⟩ = true) := hide (by simp only [Pl.foOk]; rw [P, decide_eq_true h1, decide_eq_true h5, decide_eq_true h3]; simp)
          go_enter Try.func84, Try.ntmps84
          go_wp2_with (first | (go_at_call 128; refine st (signedPair z a b _ la ha lb hb) ?_; rw [P]) | (go_at_call 129; refine st (implTakesB k _) ?_; rw [T]))
          go_ret
          exact ⟨rB E.out.symm, kept_alloc _ _⟩
      · have E : Hid (Pl.foOk ⟨k, z, a, b⟩ = false) := hide (by simp only [Pl.foOk]; rw [decide_eq_false h5]; simp)
        go_enter Try.func84, Try.ntmps84
        go_wp2_with (go_at_call 128; refine st (signedPair z a b _ la ha lb hb) ?_; rw [P])
        go_ret
        exact ⟨rB E.out.symm, kept_alloc _ _⟩
    · have E : Hid (Pl.foOk ⟨k, z, a, b⟩ = false) := hide (by simp only [Pl.foOk]; rw [decide_eq_false h1]; simp)
      go_enter Try.func84, Try.ntmps84
      go_wp2_with (go_at_call 128; refine st (signedPair z a b _ la ha lb hb) ?_; rw [P])
      go_ret
      exact ⟨rB E.out.symm, kept_alloc _ _⟩
set_option maxRecDepth 100000 in
set_option maxHeartbeats 4000000 in
theorem implGoodLazy (w : World) (z : Pl.Lz) (wf : LzW z) : Calls Try.prog 39 #[.agg (lzA z)] w fun e w' => e = .returned (.bool (Pl.lzOk z)) ∧ Kept 0 0 w w' := by
  have he := eqFo z.r z.l
  have K0 := hide (kept_alloc w (.cells (lzA z) 49))
  have B0 := hide (Blk.new w (lzA z) 49)
  have q := B0.out.all
  cases F : Pl.flags z.b
  · go_enter Try.func39, Try.ntmps39
    go_wp2_with (first | (go_at_call 82; refine st (isFlags _ _) ?_; rw [F]) | (go_at_call 83; (first | (with_reducible refine (implNone _ z.l).mono ?_; rw [NL]) | (with_reducible refine (implNone _ z.r).mono ?_; rw [NR])); rintro e9 w9 ⟨rfl, k9⟩; replace K0 := hide (K0.out.trans k9); replace B0 := hide (B0.out.kept0 k9); clear q; have q := B0.out.all; clear k9) | (go_at_call 84; (first | (with_reducible refine (implFo _ z.l wf.l).mono ?_; rw [OL]) | (with_reducible refine (implFo _ z.r wf.r).mono ?_; rw [OR])); rintro e9 w9 ⟨rfl, k9⟩; replace K0 := hide (K0.out.trans k9); replace B0 := hide (B0.out.kept0 k9); clear q; have q := B0.out.all; clear k9) | (go_at_call 85; (first | (with_reducible refine st (implSum z.l.k _) ?_; rw [SL]) | (with_reducible refine st (implSum z.r.k _) ?_; rw [SR]))))
    go_ret
    exact ⟨rB (by simp [Pl.lzOk, F]), K0.out⟩
  · cases NL : Pl.foNone z.l
    · cases OL : Pl.foOk z.l
      · go_enter Try.func39, Try.ntmps39
        go_wp2_with (first | (go_at_call 82; refine st (isFlags _ _) ?_; rw [F]) | (go_at_call 83; (first | (with_reducible refine (implNone _ z.l).mono ?_; rw [NL]) | (with_reducible refine (implNone _ z.r).mono ?_; rw [NR])); rintro e9 w9 ⟨rfl, k9⟩; replace K0 := hide (K0.out.trans k9); replace B0 := hide (B0.out.kept0 k9); clear q; have q := B0.out.all; clear k9) | (go_at_call 84; (first | (with_reducible refine (implFo _ z.l wf.l).mono ?_; rw [OL]) | (with_reducible refine (implFo _ z.r wf.r).mono ?_; rw [OR])); rintro e9 w9 ⟨rfl, k9⟩; replace K0 := hide (K0.out.trans k9); replace B0 := hide (B0.out.kept0 k9); clear q; have q := B0.out.all; clear k9) | (go_at_call 85; (first | (with_reducible refine st (implSum z.l.k _) ?_; rw [SL]) | (with_reducible refine st (implSum z.r.k _) ?_; rw [SR]))))
        go_ret
        exact ⟨rB (by simp [Pl.lzOk, F, NL, OL]), K0.out⟩
      · cases SL : Pl.sumK z.l.k
        · cases NR : Pl.foNone z.r
          · cases SR : Pl.sumK z.r.k
            · go_enter Try.func39, Try.ntmps39
              go_wp2_with (first | (go_at_call 82; refine st (isFlags _ _) ?_; rw [F]) | (go_at_call 83; (first | (with_reducible refine (implNone _ z.l).mono ?_; rw [NL]) | (with_reducible refine (implNone _ z.r).mono ?_; rw [NR])); rintro e9 w9 ⟨rfl, k9⟩; replace K0 := hide (K0.out.trans k9); replace B0 := hide (B0.out.kept0 k9); clear q; have q := B0.out.all; clear k9) | (go_at_call 84; (first | (with_reducible refine (implFo _ z.l wf.l).mono ?_; rw [OL]) | (with_reducible refine (implFo _ z.r wf.r).mono ?_; rw [OR])); rintro e9 w9 ⟨rfl, k9⟩; replace K0 := hide (K0.out.trans k9); replace B0 := hide (B0.out.kept0 k9); clear q; have q := B0.out.all; clear k9) | (go_at_call 85; (first | (with_reducible refine st (implSum z.l.k _) ?_; rw [SL]) | (with_reducible refine st (implSum z.r.k _) ?_; rw [SR]))))
              go_ret
              exact ⟨rB (by simp [Pl.lzOk, F, NL, OL, SL, NR, SR]), K0.out⟩
            · cases OR : Pl.foOk z.r
              · go_enter Try.func39, Try.ntmps39
                go_wp2_with (first | (go_at_call 82; refine st (isFlags _ _) ?_; rw [F]) | (go_at_call 83; (first | (with_reducible refine (implNone _ z.l).mono ?_; rw [NL]) | (with_reducible refine (implNone _ z.r).mono ?_; rw [NR])); rintro e9 w9 ⟨rfl, k9⟩; replace K0 := hide (K0.out.trans k9); replace B0 := hide (B0.out.kept0 k9); clear q; have q := B0.out.all; clear k9) | (go_at_call 84; (first | (with_reducible refine (implFo _ z.l wf.l).mono ?_; rw [OL]) | (with_reducible refine (implFo _ z.r wf.r).mono ?_; rw [OR])); rintro e9 w9 ⟨rfl, k9⟩; replace K0 := hide (K0.out.trans k9); replace B0 := hide (B0.out.kept0 k9); clear q; have q := B0.out.all; clear k9) | (go_at_call 85; (first | (with_reducible refine st (implSum z.l.k _) ?_; rw [SL]) | (with_reducible refine st (implSum z.r.k _) ?_; rw [SR]))))
                go_ret
                exact ⟨rB (by simp [Pl.lzOk, F, NL, OL, SL, NR, SR, OR]), K0.out⟩
              · go_enter Try.func39, Try.ntmps39
                go_wp2_with (first | (go_at_call 82; refine st (isFlags _ _) ?_; rw [F]) | (go_at_call 83; (first | (with_reducible refine (implNone _ z.l).mono ?_; rw [NL]) | (with_reducible refine (implNone _ z.r).mono ?_; rw [NR])); rintro e9 w9 ⟨rfl, k9⟩; replace K0 := hide (K0.out.trans k9); replace B0 := hide (B0.out.kept0 k9); clear q; have q := B0.out.all; clear k9) | (go_at_call 84; (first | (with_reducible refine (implFo _ z.l wf.l).mono ?_; rw [OL]) | (with_reducible refine (implFo _ z.r wf.r).mono ?_; rw [OR])); rintro e9 w9 ⟨rfl, k9⟩; replace K0 := hide (K0.out.trans k9); replace B0 := hide (B0.out.kept0 k9); clear q; have q := B0.out.all; clear k9) | (go_at_call 85; (first | (with_reducible refine st (implSum z.l.k _) ?_; rw [SL]) | (with_reducible refine st (implSum z.r.k _) ?_; rw [SR]))))
                go_ret
                exact ⟨rB (by simp [Pl.lzOk, F, NL, OL, SL, NR, SR, OR]), K0.out⟩
          · go_enter Try.func39, Try.ntmps39
            go_wp2_with (first | (go_at_call 82; refine st (isFlags _ _) ?_; rw [F]) | (go_at_call 83; (first | (with_reducible refine (implNone _ z.l).mono ?_; rw [NL]) | (with_reducible refine (implNone _ z.r).mono ?_; rw [NR])); rintro e9 w9 ⟨rfl, k9⟩; replace K0 := hide (K0.out.trans k9); replace B0 := hide (B0.out.kept0 k9); clear q; have q := B0.out.all; clear k9) | (go_at_call 84; (first | (with_reducible refine (implFo _ z.l wf.l).mono ?_; rw [OL]) | (with_reducible refine (implFo _ z.r wf.r).mono ?_; rw [OR])); rintro e9 w9 ⟨rfl, k9⟩; replace K0 := hide (K0.out.trans k9); replace B0 := hide (B0.out.kept0 k9); clear q; have q := B0.out.all; clear k9) | (go_at_call 85; (first | (with_reducible refine st (implSum z.l.k _) ?_; rw [SL]) | (with_reducible refine st (implSum z.r.k _) ?_; rw [SR]))))
            go_ret
            exact ⟨rB (by simp [Pl.lzOk, F, NL, OL, SL, NR]), K0.out⟩
        · go_enter Try.func39, Try.ntmps39
          go_wp2_with (first | (go_at_call 82; refine st (isFlags _ _) ?_; rw [F]) | (go_at_call 83; (first | (with_reducible refine (implNone _ z.l).mono ?_; rw [NL]) | (with_reducible refine (implNone _ z.r).mono ?_; rw [NR])); rintro e9 w9 ⟨rfl, k9⟩; replace K0 := hide (K0.out.trans k9); replace B0 := hide (B0.out.kept0 k9); clear q; have q := B0.out.all; clear k9) | (go_at_call 84; (first | (with_reducible refine (implFo _ z.l wf.l).mono ?_; rw [OL]) | (with_reducible refine (implFo _ z.r wf.r).mono ?_; rw [OR])); rintro e9 w9 ⟨rfl, k9⟩; replace K0 := hide (K0.out.trans k9); replace B0 := hide (B0.out.kept0 k9); clear q; have q := B0.out.all; clear k9) | (go_at_call 85; (first | (with_reducible refine st (implSum z.l.k _) ?_; rw [SL]) | (with_reducible refine st (implSum z.r.k _) ?_; rw [SR]))))
          go_ret
          exact ⟨rB (by simp [Pl.lzOk, F, NL, OL, SL]), K0.out⟩
    · cases NR : Pl.foNone z.r
      · go_enter Try.func39, Try.ntmps39
        go_wp2_with (first | (go_at_call 82; refine st (isFlags _ _) ?_; rw [F]) | (go_at_call 83; (first | (with_reducible refine (implNone _ z.l).mono ?_; rw [NL]) | (with_reducible refine (implNone _ z.r).mono ?_; rw [NR])); rintro e9 w9 ⟨rfl, k9⟩; replace K0 := hide (K0.out.trans k9); replace B0 := hide (B0.out.kept0 k9); clear q; have q := B0.out.all; clear k9) | (go_at_call 84; (first | (with_reducible refine (implFo _ z.l wf.l).mono ?_; rw [OL]) | (with_reducible refine (implFo _ z.r wf.r).mono ?_; rw [OR])); rintro e9 w9 ⟨rfl, k9⟩; replace K0 := hide (K0.out.trans k9); replace B0 := hide (B0.out.kept0 k9); clear q; have q := B0.out.all; clear k9) | (go_at_call 85; (first | (with_reducible refine st (implSum z.l.k _) ?_; rw [SL]) | (with_reducible refine st (implSum z.r.k _) ?_; rw [SR]))))
        go_ret
        exact ⟨rB (by simp [Pl.lzOk, F, NL, NR]), K0.out⟩
      · go_enter Try.func39, Try.ntmps39
        go_wp2_with (first | (go_at_call 82; refine st (isFlags _ _) ?_; rw [F]) | (go_at_call 83; (first | (with_reducible refine (implNone _ z.l).mono ?_; rw [NL]) | (with_reducible refine (implNone _ z.r).mono ?_; rw [NR])); rintro e9 w9 ⟨rfl, k9⟩; replace K0 := hide (K0.out.trans k9); replace B0 := hide (B0.out.kept0 k9); clear q; have q := B0.out.all; clear k9) | (go_at_call 84; (first | (with_reducible refine (implFo _ z.l wf.l).mono ?_; rw [OL]) | (with_reducible refine (implFo _ z.r wf.r).mono ?_; rw [OR])); rintro e9 w9 ⟨rfl, k9⟩; replace K0 := hide (K0.out.trans k9); replace B0 := hide (B0.out.kept0 k9); clear q; have q := B0.out.all; clear k9) | (go_at_call 85; (first | (with_reducible refine st (implSum z.l.k _) ?_; rw [SL]) | (with_reducible refine st (implSum z.r.k _) ?_; rw [SR]))))
        go_ret
        exact ⟨rB (by simp [Pl.lzOk, F, NL, NR]), K0.out⟩
end Go.Proofs.Ytnmddmmmgdfknaa

namespace Go.Proofs.Ytnmddmmmgdfknaa
open Go.RowKit
set_option linter.unusedVariables false

/-- a number that an int holds -/
def W64 (n : Int) : Prop := -9223372036854775808 ≤ n ∧ n ≤ 9223372036854775807
end Go.Proofs.Ytnmddmmmgdfknaa

namespace Go.Proofs.Ytnmddmmmgdfknaa
open Go.RowKit
set_option linter.unusedVariables false
set_option linter.unusedSimpArgs false
theorem store_func (a : Addr) (fn : Fn) (m : Mode) (w : World) : (store a (.func fn #[] #[]) m).run Try.prog w = stored Try.prog w a (.func fn #[] #[]) m := run_store Try.prog w a _ m rfl
theorem undrew {B : Nat} {w wt : World} (h : Below B w.drew wt) : Below B w wt := ⟨h.os, h.tape, h.output, h.size, h.block⟩
/-- a row of bits, laid in block b -/
def Box (w : World) (b : Nat) (v s x f : Int) (t : Bool) : Prop := w.heap[b]? = some (.cells #[iv v, iv s, iv x, iv f, .bool t] 78)
theorem Box.later {w wt : World} {b : Nat} {v s x f : Int} {t : Bool} (h : Box w b v s x f t) (hb : Below w.heap.size w wt) : Box wt b v s x f t := by
  have lt : b < w.heap.size := by
    unfold Box at h
    rcases Nat.lt_or_ge b w.heap.size with h' | h'
    · exact h'
    · rw [Array.getElem?_eq_none h'] at h; cases h
  exact (hb.block b lt).trans h
theorem Box.cells {w : World} {b : Nat} {v s x f : Int} {t : Bool} (h : Box w b v s x f t) :
    w.cell? ⟨b, 0, none⟩ = some (iv v) ∧ w.cell? ⟨b, 1, none⟩ = some (iv s) ∧ w.cell? ⟨b, 2, none⟩ = some (iv x) ∧ w.cell? ⟨b, 3, none⟩ = some (iv f) ∧ w.cell? ⟨b, 4, none⟩ = some (.bool t) ∧
    w.frozen? ⟨b, 0, none⟩ = false ∧ w.frozen? ⟨b, 1, none⟩ = false ∧ w.frozen? ⟨b, 2, none⟩ = false ∧ w.frozen? ⟨b, 3, none⟩ = false ∧ w.frozen? ⟨b, 4, none⟩ = false := by
  unfold Box at h
  refine ⟨?_, ?_, ?_, ?_, ?_, ?_, ?_, ?_, ?_, ?_⟩ <;> simp [World.cell?, World.frozen?, h]
theorem results_box {fn : Func} {p : Tmp} (h : fn.results = #[.cell p 78]) (tmps : Array Value) {w : World} {b : Nat} {v s x f : Int} {t : Bool} (hp : tmps.getD p undef = .pointer (some ⟨b, 0, none⟩)) (hB : Box w b v s x f t) :
    (results fn tmps).run Try.prog w = .ok (.agg #[iv v, iv s, iv x, iv f, .bool t]) w :=
  results_cell_row h tmps w b _ _ _ _ hp hB (Try.underlying78) rfl (by kernel_rfl)
theorem Box.set {w : World} {b : Nat} {v s x f v' s' x' f' : Int} {t t' : Bool} (h : Box w b v s x f t) :
    Box (((((w.setCell ⟨b, 0, none⟩ (iv v')).setCell ⟨b, 1, none⟩ (iv s')).setCell ⟨b, 2, none⟩ (iv x')).setCell ⟨b, 3, none⟩ (iv f')).setCell ⟨b, 4, none⟩ (.bool t')) b v' s' x' f' t' := by
  unfold Box at h ⊢
  simp [World.setCell, Array.getElem?_modify, h]
theorem Box.new0 (w : World) (v s x f : Int) (t : Bool) : Box (w.alloc (.cells #[iv v, iv s, iv x, iv f, .bool t] 78)) w.heap.size v s x f t := heap_alloc_new w _
theorem Box.two {w : World} {b : Nat} {v s x f : Int} {t : Bool} (h : Box w b v s x f t) (o1 o2 : Obj) : Box ((w.alloc o1).alloc o2) b v s x f t :=
  h.later (((Below.refl _ w).alloc (Nat.le_refl _) o1).alloc (by simp) o2)
theorem Below.set5 {B : Nat} {a w : World} (h : Below B a w) {b : Nat} (hb : B ≤ b) (v0 v1 v2 v3 v4 : Value) :
    Below B a (((((w.setCell ⟨b, 0, none⟩ v0).setCell ⟨b, 1, none⟩ v1).setCell ⟨b, 2, none⟩ v2).setCell ⟨b, 3, none⟩ v3).setCell ⟨b, 4, none⟩ v4) :=
  ((((h.setCell hb _).setCell hb _).setCell hb _).setCell hb _).setCell hb _
theorem Box.new1 (w : World) (v s x f : Int) (t : Bool) (o1 : Obj) (o2 : Obj) : Box (((w.alloc (.cells #[iv v, iv s, iv x, iv f, .bool t] 78)).alloc o1).alloc o2) w.heap.size v s x f t := by
  unfold Box
  rw [Below.heap_alloc _ _ _ (by simp <;> omega), Below.heap_alloc _ _ _ (by simp)]
  exact heap_alloc_new w _
theorem Box.new2 (w : World) (v s x f : Int) (t : Bool) (o1 : Obj) (o2 : Obj) : Box (((w.alloc o1).alloc (.cells #[iv v, iv s, iv x, iv f, .bool t] 78)).alloc o2) (w.heap.size + 1) v s x f t := by
  unfold Box
  rw [Below.heap_alloc _ _ _ (by simp)]
  exact heap_alloc2_new w _ _

end Go.Proofs.Ytnmddmmmgdfknaa

namespace Go.Proofs.Ytnmddmmmgdfknaa
open Go.RowKit
set_option linter.unusedVariables false

theorem rA {a b c d a' b' c' d' : Int} {t t' : Bool} (ha : a = a') (hb : b = b') (hc : c = c') (hd : d = d') (ht : t = t') : Ending.returned (.agg #[iv a, iv b, iv c, iv d, .bool t]) = .returned (.agg #[iv a', iv b', iv c', iv d', .bool t']) := by rw [ha, hb, hc, hd, ht]
theorem results_cell1 {fn : Func} {p : Tmp} {ty : TypeId} (h : fn.results = #[.cell p ty]) (tmps : Array Value) (P : Program) (w : World) :
    (results fn tmps).run P w = ((asAddr (tmps.getD p undef)).run P w).andThen fun a w₁ => (loadVar ty a).run P w₁ := by
  simp only [results, h]
  simp [Sem.run_bind, Result.andThen]
theorem Pl.or_low' {a q : Int} (h0 : 0 ≤ a) (h1 : a < 131072) (h2 : a % 2 = 0) (q0 : 0 ≤ q) (q1 : q ≤ 1) : bits .or .i64 a q = a + q :=
  bits_join .i64 62 (by decide) wraps_i64 1 a q (by omega) (by omega) (by omega) (by omega) (by omega) (by omega)
theorem lowest (v s x f : Int) (t : Bool) (w : World) :
    Calls Try.prog 137 #[.agg #[iv v, iv s, iv x, iv f, .bool t]] w fun e w' => e = .returned (iv (v % 2)) ∧ ∃ o, w' = w.alloc o := by
  have hA := Pl.and1 v
  go_enter Try.func137, Try.ntmps137
  go_wp2
  go_ret
  exact ⟨rfl, _, rfl⟩
theorem keepFallen (v s x f : Int) (t : Bool) (w : World) :
    Calls Try.prog 135 #[.agg #[iv v, iv s, iv x, iv f, .bool t]] w fun e w' => e = .returned (.agg #[iv v, iv s, iv f, iv f, .bool t]) ∧ ∃ o1 o2, w' = (w.alloc o1).alloc o2 := by
  go_enter Try.func135, Try.ntmps135
  go_wp2
  refine bodyPost_ret (v := .agg #[iv v, iv s, iv f, iv f, .bool t]) ?_ rfl ⟨rfl, _, _, rfl⟩
  rw [results_cell1 rfl]; go_simp
theorem highest1 (v x f : Int) (t : Bool) (w : World) (h0 : 0 ≤ v) (h1 : v < 256) :
    Calls Try.prog 106 #[.agg #[iv v, iv 8, iv x, iv f, .bool t]] w fun e w' => e = .returned (iv (Pl.hi 1 v)) ∧ ∃ o, w' = w.alloc o := by
  have E : Hid (v / 128 = Pl.hi 1 v) := hide (by simp [Pl.hi, Pl.top]; omega)
  go_enter Try.func106, Try.ntmps106
  go_wp2
  go_ret
  exact ⟨rI E.out, _, rfl⟩
theorem moveUp1 (v x f i : Int) (t : Bool) (w : World) (h0 : 0 ≤ v) (h1 : v < 256) (i0 : 0 ≤ i) (i1 : i ≤ 1) :
    Calls Try.prog 134 #[.agg #[iv v, iv 8, iv x, iv f, .bool t], iv i] w fun e w' => e = .returned (.agg #[iv (v * 2 % 256 + i), iv 8, iv x, iv (Pl.hi 1 v), .bool t]) ∧ ∃ o1 o2 o3, w' = (((w.alloc o1).alloc o2).alloc o3).drew := by
  have hO := Pl.or_low' (a := v * 2) (q := i) (by omega) (by omega) (by omega) i0 i1
  have hA := Pl.and255 (v * 2 + i)
  have hE : (v * 2 + i) % 256 = v * 2 % 256 + i := by omega
  go_enter Try.func134, Try.ntmps134
  go_wp2_with fail
  refine (highest1 v x f t _ h0 h1).mono ?_
  rintro e w' ⟨rfl, o, rfl⟩
  go_wp2_with fail
  go_region
  go_wp2_with fail
  refine bodyPost_ret (v := .agg #[iv (v * 2 % 256 + i), iv 8, iv x, iv (Pl.hi 1 v), .bool t]) ?_ rfl ⟨rfl, _, _, _, rfl⟩
  rw [results_cell1 rfl]; go_simp
theorem moveDown1 (v x f i : Int) (t : Bool) (w : World) (h0 : 0 ≤ v) (h1 : v < 256) (i0 : 0 ≤ i) (i1 : i ≤ 1) :
    Calls Try.prog 136 #[.agg #[iv v, iv 8, iv x, iv f, .bool t], iv i] w fun e w' => e = .returned (.agg #[iv (v / 2 + i * 128), iv 8, iv x, iv (v % 2), .bool t]) ∧ ∃ o1 o2 o3, w' = (((w.alloc o1).alloc o2).alloc o3).drew := by
  have hO := Pl.or_high1 (a := v / 2) (q := i) (by omega) (by omega) i0 i1
  go_enter Try.func136, Try.ntmps136
  go_wp2_with fail
  refine (lowest v 8 x f t _).mono ?_
  rintro e w' ⟨rfl, o, rfl⟩
  go_wp2_with fail
  go_region
  go_wp2_with fail
  refine bodyPost_ret (v := .agg #[iv (v / 2 + i * 128), iv 8, iv x, iv (v % 2), .bool t]) ?_ rfl ⟨rfl, _, _, _, rfl⟩
  rw [results_cell1 rfl]; go_simp
theorem highest2 (v x f : Int) (t : Bool) (w : World) (h0 : 0 ≤ v) (h1 : v < 65536) :
    Calls Try.prog 106 #[.agg #[iv v, iv 16, iv x, iv f, .bool t]] w fun e w' => e = .returned (iv (Pl.hi 2 v)) ∧ ∃ o, w' = w.alloc o := by
  have E : Hid (v / 32768 = Pl.hi 2 v) := hide (by simp [Pl.hi, Pl.top]; omega)
  go_enter Try.func106, Try.ntmps106
  go_wp2
  go_ret
  exact ⟨rI E.out, _, rfl⟩
theorem moveUp2 (v x f i : Int) (t : Bool) (w : World) (h0 : 0 ≤ v) (h1 : v < 65536) (i0 : 0 ≤ i) (i1 : i ≤ 1) :
    Calls Try.prog 134 #[.agg #[iv v, iv 16, iv x, iv f, .bool t], iv i] w fun e w' => e = .returned (.agg #[iv (v * 2 % 65536 + i), iv 16, iv x, iv (Pl.hi 2 v), .bool t]) ∧ ∃ o1 o2 o3, w' = (((w.alloc o1).alloc o2).alloc o3).drew := by
  have hO := Pl.or_low' (a := v * 2) (q := i) (by omega) (by omega) (by omega) i0 i1
  have hA := Pl.and65535 (v * 2 + i)
  have hE : (v * 2 + i) % 65536 = v * 2 % 65536 + i := by omega
  go_enter Try.func134, Try.ntmps134
  go_wp2_with fail
  refine (highest2 v x f t _ h0 h1).mono ?_
  rintro e w' ⟨rfl, o, rfl⟩
  go_wp2_with fail
  go_region
  go_wp2_with fail
  refine bodyPost_ret (v := .agg #[iv (v * 2 % 65536 + i), iv 16, iv x, iv (Pl.hi 2 v), .bool t]) ?_ rfl ⟨rfl, _, _, _, rfl⟩
  rw [results_cell1 rfl]; go_simp
theorem moveDown2 (v x f i : Int) (t : Bool) (w : World) (h0 : 0 ≤ v) (h1 : v < 65536) (i0 : 0 ≤ i) (i1 : i ≤ 1) :
    Calls Try.prog 136 #[.agg #[iv v, iv 16, iv x, iv f, .bool t], iv i] w fun e w' => e = .returned (.agg #[iv (v / 2 + i * 32768), iv 16, iv x, iv (v % 2), .bool t]) ∧ ∃ o1 o2 o3, w' = (((w.alloc o1).alloc o2).alloc o3).drew := by
  have hO := Pl.or_high2 (a := v / 2) (q := i) (by omega) (by omega) i0 i1
  go_enter Try.func136, Try.ntmps136
  go_wp2_with fail
  refine (lowest v 16 x f t _).mono ?_
  rintro e w' ⟨rfl, o, rfl⟩
  go_wp2_with fail
  go_region
  go_wp2_with fail
  refine bodyPost_ret (v := .agg #[iv (v / 2 + i * 32768), iv 16, iv x, iv (v % 2), .bool t]) ?_ rfl ⟨rfl, _, _, _, rfl⟩
  rw [results_cell1 rfl]; go_simp
end Go.Proofs.Ytnmddmmmgdfknaa

namespace Go.Proofs.Ytnmddmmmgdfknaa
open Go.RowKit
set_option linter.unusedVariables false
set_option linter.unusedSimpArgs false

set_option maxHeartbeats 8000000 in
theorem arithmeticUp1 (v x f : Int) (t : Bool) (w : World) (h0 : 0 ≤ v) (h1 : v < 256) (x0 : 0 ≤ x) (x1 : x ≤ 1) :
    Calls Try.prog 98 #[.agg #[iv v, iv 8, iv x, iv f, .bool t]] w fun e w' => e = .returned (.agg #[iv (Pl.nv 0 1 x v), iv 8, iv (Pl.nx 0 1 x v), iv (Pl.fell 0 1 v), .bool (Pl.vfl 0 1 x v)]) ∧ Below w.heap.size w w' := by
  obtain ⟨b0, b1⟩ := Pl.hi_bd 1 v
  have E1 : Hid ((v * 2 % 256) = Pl.nv 0 1 x v) := hide (by simp only [Pl.nv, Pl.inn, Pl.fell, Pl.top, Int.reduceMod, Int.reduceEq, Int.reduceLE, Int.reduceDiv, if_true, if_false, or_self, or_true, true_or, or_false, false_or] <;> omega)
  have E2 : Hid ((Pl.hi 1 v) = Pl.nx 0 1 x v) := hide (by simp only [Pl.nx, Pl.fell, Int.reduceMod, Int.reduceEq, if_true, if_false, or_self, or_true, true_or, or_false, false_or])
  have E3 : Hid ((Pl.hi 1 v) = Pl.fell 0 1 v) := hide (by simp only [Pl.fell, Int.reduceMod, Int.reduceEq, if_true, if_false])
  have E4 : Hid ((Pl.hi 1 (v * 2 % 256) != Pl.hi 1 v) = Pl.vfl 0 1 x v) := hide (by rw [Pl.vfl, ← E1.out, Pl.bne_symm]; rfl)
  go_enter Try.func98, Try.ntmps98
  go_wp2_with (first | (go_at_call 106; refine (highest1 _ _ _ _ _ ?h0 ?h1).mono ?_; (case h0 => omega); (case h1 => omega); rintro e w' ⟨rfl, o6, rfl⟩) | (go_at_call 137; refine (lowest _ _ _ _ _ _).mono ?_; rintro e w' ⟨rfl, o6, rfl⟩) | (go_at_call 134; refine (moveUp1 _ _ _ _ _ _ ?h0 ?h1 ?h2 ?h3).mono ?_; (case h0 => omega); (case h1 => omega); (case h2 => omega); (case h3 => omega); rintro e w' ⟨rfl, o1, o2, o3, rfl⟩) | (go_at_call 135; refine (keepFallen _ _ _ _ _ _).mono ?_; rintro e w' ⟨rfl, o4, o5, rfl⟩))
  go_region_with (first | (go_at_call 106; refine (highest1 _ _ _ _ _ ?h0 ?h1).mono ?_; (case h0 => omega); (case h1 => omega); rintro e w' ⟨rfl, o6, rfl⟩) | (go_at_call 137; refine (lowest _ _ _ _ _ _).mono ?_; rintro e w' ⟨rfl, o6, rfl⟩) | (go_at_call 134; refine (moveUp1 _ _ _ _ _ _ ?h0 ?h1 ?h2 ?h3).mono ?_; (case h0 => omega); (case h1 => omega); (case h2 => omega); (case h3 => omega); rintro e w' ⟨rfl, o1, o2, o3, rfl⟩) | (go_at_call 135; refine (keepFallen _ _ _ _ _ _).mono ?_; rintro e w' ⟨rfl, o4, o5, rfl⟩))
  all_goals go_wp2_with fail
  all_goals
    refine bodyPost_ret (v := .agg #[iv (v * 2 % 256), iv 8, iv (Pl.hi 1 v), iv (Pl.hi 1 v), .bool (Pl.hi 1 (v * 2 % 256) != Pl.hi 1 v)]) ?_ rfl ⟨?_, ?_⟩
    · rw [results_cell1 rfl]; go_simp
    · exact rA E1.out rfl E2.out E3.out E4.out
    · (repeat' (first | with_reducible exact Below.refl _ _ | with_reducible refine Below.drew ?_ | with_reducible refine Below.alloc ?_ ?_ _ | (simp; done) | (simp; omega)))
set_option maxHeartbeats 8000000 in
theorem arithmeticDown1 (v x f : Int) (t : Bool) (w : World) (h0 : 0 ≤ v) (h1 : v < 256) (x0 : 0 ≤ x) (x1 : x ≤ 1) :
    Calls Try.prog 99 #[.agg #[iv v, iv 8, iv x, iv f, .bool t]] w fun e w' => e = .returned (.agg #[iv (Pl.nv 1 1 x v), iv 8, iv (Pl.nx 1 1 x v), iv (Pl.fell 1 1 v), .bool t]) ∧ Below w.heap.size w w' := by
  obtain ⟨b0, b1⟩ := Pl.hi_bd 1 v
  have E1 : Hid ((v / 2 + Pl.hi 1 v * 128) = Pl.nv 1 1 x v) := hide (by simp only [Pl.nv, Pl.inn, Pl.fell, Pl.top, Int.reduceMod, Int.reduceEq, Int.reduceLE, Int.reduceDiv, if_true, if_false, or_self, or_true, true_or, or_false, false_or] <;> omega)
  have E2 : Hid ((v % 2) = Pl.nx 1 1 x v) := hide (by simp only [Pl.nx, Pl.fell, Int.reduceMod, Int.reduceEq, if_true, if_false, or_self, or_true, true_or, or_false, false_or])
  have E3 : Hid ((v % 2) = Pl.fell 1 1 v) := hide (by simp only [Pl.fell, Int.reduceMod, Int.reduceEq, if_true, if_false])
  go_enter Try.func99, Try.ntmps99
  go_wp2_with (first | (go_at_call 106; refine (highest1 _ _ _ _ _ ?h0 ?h1).mono ?_; (case h0 => omega); (case h1 => omega); rintro e w' ⟨rfl, o6, rfl⟩) | (go_at_call 137; refine (lowest _ _ _ _ _ _).mono ?_; rintro e w' ⟨rfl, o6, rfl⟩) | (go_at_call 136; refine (moveDown1 _ _ _ _ _ _ ?h0 ?h1 ?h2 ?h3).mono ?_; (case h0 => omega); (case h1 => omega); (case h2 => omega); (case h3 => omega); rintro e w' ⟨rfl, o1, o2, o3, rfl⟩) | (go_at_call 135; refine (keepFallen _ _ _ _ _ _).mono ?_; rintro e w' ⟨rfl, o4, o5, rfl⟩))
  go_region_with (first | (go_at_call 106; refine (highest1 _ _ _ _ _ ?h0 ?h1).mono ?_; (case h0 => omega); (case h1 => omega); rintro e w' ⟨rfl, o6, rfl⟩) | (go_at_call 137; refine (lowest _ _ _ _ _ _).mono ?_; rintro e w' ⟨rfl, o6, rfl⟩) | (go_at_call 136; refine (moveDown1 _ _ _ _ _ _ ?h0 ?h1 ?h2 ?h3).mono ?_; (case h0 => omega); (case h1 => omega); (case h2 => omega); (case h3 => omega); rintro e w' ⟨rfl, o1, o2, o3, rfl⟩) | (go_at_call 135; refine (keepFallen _ _ _ _ _ _).mono ?_; rintro e w' ⟨rfl, o4, o5, rfl⟩))
  all_goals go_wp2_with fail
  all_goals
    refine bodyPost_ret (v := .agg #[iv (v / 2 + Pl.hi 1 v * 128), iv 8, iv (v % 2), iv (v % 2), .bool t]) ?_ rfl ⟨?_, ?_⟩
    · rw [results_cell1 rfl]; go_simp
    · exact rA E1.out rfl E2.out E3.out rfl
    · (repeat' (first | with_reducible exact Below.refl _ _ | with_reducible refine Below.drew ?_ | with_reducible refine Below.alloc ?_ ?_ _ | (simp; done) | (simp; omega)))
set_option maxHeartbeats 8000000 in
theorem plainUp1 (v x f : Int) (t : Bool) (w : World) (h0 : 0 ≤ v) (h1 : v < 256) (x0 : 0 ≤ x) (x1 : x ≤ 1) :
    Calls Try.prog 100 #[.agg #[iv v, iv 8, iv x, iv f, .bool t]] w fun e w' => e = .returned (.agg #[iv (Pl.nv 2 1 x v), iv 8, iv (Pl.nx 2 1 x v), iv (Pl.fell 2 1 v), .bool t]) ∧ Below w.heap.size w w' := by
  obtain ⟨b0, b1⟩ := Pl.hi_bd 1 v
  have E1 : Hid ((v * 2 % 256) = Pl.nv 2 1 x v) := hide (by simp only [Pl.nv, Pl.inn, Pl.fell, Pl.top, Int.reduceMod, Int.reduceEq, Int.reduceLE, Int.reduceDiv, if_true, if_false, or_self, or_true, true_or, or_false, false_or] <;> omega)
  have E2 : Hid ((Pl.hi 1 v) = Pl.nx 2 1 x v) := hide (by simp only [Pl.nx, Pl.fell, Int.reduceMod, Int.reduceEq, if_true, if_false, or_self, or_true, true_or, or_false, false_or])
  have E3 : Hid ((Pl.hi 1 v) = Pl.fell 2 1 v) := hide (by simp only [Pl.fell, Int.reduceMod, Int.reduceEq, if_true, if_false])
  go_enter Try.func100, Try.ntmps100
  go_wp2_with (first | (go_at_call 106; refine (highest1 _ _ _ _ _ ?h0 ?h1).mono ?_; (case h0 => omega); (case h1 => omega); rintro e w' ⟨rfl, o6, rfl⟩) | (go_at_call 137; refine (lowest _ _ _ _ _ _).mono ?_; rintro e w' ⟨rfl, o6, rfl⟩) | (go_at_call 134; refine (moveUp1 _ _ _ _ _ _ ?h0 ?h1 ?h2 ?h3).mono ?_; (case h0 => omega); (case h1 => omega); (case h2 => omega); (case h3 => omega); rintro e w' ⟨rfl, o1, o2, o3, rfl⟩) | (go_at_call 135; refine (keepFallen _ _ _ _ _ _).mono ?_; rintro e w' ⟨rfl, o4, o5, rfl⟩))
  all_goals
    refine bodyPost_ret (v := .agg #[iv (v * 2 % 256), iv 8, iv (Pl.hi 1 v), iv (Pl.hi 1 v), .bool t]) ?_ rfl ⟨?_, ?_⟩
    · rw [results_cell1 rfl]; go_simp
    · exact rA E1.out rfl E2.out E3.out rfl
    · (repeat' (first | with_reducible exact Below.refl _ _ | with_reducible refine Below.drew ?_ | with_reducible refine Below.alloc ?_ ?_ _ | (simp; done) | (simp; omega)))
set_option maxHeartbeats 8000000 in
theorem plainDown1 (v x f : Int) (t : Bool) (w : World) (h0 : 0 ≤ v) (h1 : v < 256) (x0 : 0 ≤ x) (x1 : x ≤ 1) :
    Calls Try.prog 101 #[.agg #[iv v, iv 8, iv x, iv f, .bool t]] w fun e w' => e = .returned (.agg #[iv (Pl.nv 3 1 x v), iv 8, iv (Pl.nx 3 1 x v), iv (Pl.fell 3 1 v), .bool t]) ∧ Below w.heap.size w w' := by
  obtain ⟨b0, b1⟩ := Pl.hi_bd 1 v
  have E1 : Hid ((v / 2) = Pl.nv 3 1 x v) := hide (by simp only [Pl.nv, Pl.inn, Pl.fell, Pl.top, Int.reduceMod, Int.reduceEq, Int.reduceLE, Int.reduceDiv, if_true, if_false, or_self, or_true, true_or, or_false, false_or] <;> omega)
  have E2 : Hid ((v % 2) = Pl.nx 3 1 x v) := hide (by simp only [Pl.nx, Pl.fell, Int.reduceMod, Int.reduceEq, if_true, if_false, or_self, or_true, true_or, or_false, false_or])
  have E3 : Hid ((v % 2) = Pl.fell 3 1 v) := hide (by simp only [Pl.fell, Int.reduceMod, Int.reduceEq, if_true, if_false])
  go_enter Try.func101, Try.ntmps101
  go_wp2_with (first | (go_at_call 106; refine (highest1 _ _ _ _ _ ?h0 ?h1).mono ?_; (case h0 => omega); (case h1 => omega); rintro e w' ⟨rfl, o6, rfl⟩) | (go_at_call 137; refine (lowest _ _ _ _ _ _).mono ?_; rintro e w' ⟨rfl, o6, rfl⟩) | (go_at_call 136; refine (moveDown1 _ _ _ _ _ _ ?h0 ?h1 ?h2 ?h3).mono ?_; (case h0 => omega); (case h1 => omega); (case h2 => omega); (case h3 => omega); rintro e w' ⟨rfl, o1, o2, o3, rfl⟩) | (go_at_call 135; refine (keepFallen _ _ _ _ _ _).mono ?_; rintro e w' ⟨rfl, o4, o5, rfl⟩))
  all_goals
    refine bodyPost_ret (v := .agg #[iv (v / 2), iv 8, iv (v % 2), iv (v % 2), .bool t]) ?_ rfl ⟨?_, ?_⟩
    · rw [results_cell1 rfl]; go_simp
    · exact rA E1.out rfl E2.out E3.out rfl
    · (repeat' (first | with_reducible exact Below.refl _ _ | with_reducible refine Below.drew ?_ | with_reducible refine Below.alloc ?_ ?_ _ | (simp; done) | (simp; omega)))
set_option maxHeartbeats 8000000 in
theorem turnUp1 (v x f : Int) (t : Bool) (w : World) (h0 : 0 ≤ v) (h1 : v < 256) (x0 : 0 ≤ x) (x1 : x ≤ 1) :
    Calls Try.prog 102 #[.agg #[iv v, iv 8, iv x, iv f, .bool t]] w fun e w' => e = .returned (.agg #[iv (Pl.nv 4 1 x v), iv 8, iv (Pl.nx 4 1 x v), iv (Pl.fell 4 1 v), .bool t]) ∧ Below w.heap.size w w' := by
  obtain ⟨b0, b1⟩ := Pl.hi_bd 1 v
  have E1 : Hid ((v * 2 % 256 + Pl.hi 1 v) = Pl.nv 4 1 x v) := hide (by simp only [Pl.nv, Pl.inn, Pl.fell, Pl.top, Int.reduceMod, Int.reduceEq, Int.reduceLE, Int.reduceDiv, if_true, if_false, or_self, or_true, true_or, or_false, false_or] <;> omega)
  have E2 : Hid (x = Pl.nx 4 1 x v) := hide (by simp only [Pl.nx, Pl.fell, Int.reduceMod, Int.reduceEq, if_true, if_false, or_self, or_true, true_or, or_false, false_or])
  have E3 : Hid ((Pl.hi 1 v) = Pl.fell 4 1 v) := hide (by simp only [Pl.fell, Int.reduceMod, Int.reduceEq, if_true, if_false])
  go_enter Try.func102, Try.ntmps102
  go_wp2_with (first | (go_at_call 106; refine (highest1 _ _ _ _ _ ?h0 ?h1).mono ?_; (case h0 => omega); (case h1 => omega); rintro e w' ⟨rfl, o6, rfl⟩) | (go_at_call 137; refine (lowest _ _ _ _ _ _).mono ?_; rintro e w' ⟨rfl, o6, rfl⟩) | (go_at_call 134; refine (moveUp1 _ _ _ _ _ _ ?h0 ?h1 ?h2 ?h3).mono ?_; (case h0 => omega); (case h1 => omega); (case h2 => omega); (case h3 => omega); rintro e w' ⟨rfl, o1, o2, o3, rfl⟩) | (go_at_call 135; refine (keepFallen _ _ _ _ _ _).mono ?_; rintro e w' ⟨rfl, o4, o5, rfl⟩))
  go_region_with (first | (go_at_call 106; refine (highest1 _ _ _ _ _ ?h0 ?h1).mono ?_; (case h0 => omega); (case h1 => omega); rintro e w' ⟨rfl, o6, rfl⟩) | (go_at_call 137; refine (lowest _ _ _ _ _ _).mono ?_; rintro e w' ⟨rfl, o6, rfl⟩) | (go_at_call 134; refine (moveUp1 _ _ _ _ _ _ ?h0 ?h1 ?h2 ?h3).mono ?_; (case h0 => omega); (case h1 => omega); (case h2 => omega); (case h3 => omega); rintro e w' ⟨rfl, o1, o2, o3, rfl⟩) | (go_at_call 135; refine (keepFallen _ _ _ _ _ _).mono ?_; rintro e w' ⟨rfl, o4, o5, rfl⟩))
  all_goals go_wp2_with fail
  all_goals
    refine bodyPost_ret (v := .agg #[iv (v * 2 % 256 + Pl.hi 1 v), iv 8, iv x, iv (Pl.hi 1 v), .bool t]) ?_ rfl ⟨?_, ?_⟩
    · rw [results_cell1 rfl]; go_simp
    · exact rA E1.out rfl E2.out E3.out rfl
    · (repeat' (first | with_reducible exact Below.refl _ _ | with_reducible refine Below.drew ?_ | with_reducible refine Below.alloc ?_ ?_ _ | (simp; done) | (simp; omega)))
set_option maxHeartbeats 8000000 in
theorem turnDown1 (v x f : Int) (t : Bool) (w : World) (h0 : 0 ≤ v) (h1 : v < 256) (x0 : 0 ≤ x) (x1 : x ≤ 1) :
    Calls Try.prog 103 #[.agg #[iv v, iv 8, iv x, iv f, .bool t]] w fun e w' => e = .returned (.agg #[iv (Pl.nv 5 1 x v), iv 8, iv (Pl.nx 5 1 x v), iv (Pl.fell 5 1 v), .bool t]) ∧ Below w.heap.size w w' := by
  obtain ⟨b0, b1⟩ := Pl.hi_bd 1 v
  have E1 : Hid ((v / 2 + v % 2 * 128) = Pl.nv 5 1 x v) := hide (by simp only [Pl.nv, Pl.inn, Pl.fell, Pl.top, Int.reduceMod, Int.reduceEq, Int.reduceLE, Int.reduceDiv, if_true, if_false, or_self, or_true, true_or, or_false, false_or] <;> omega)
  have E2 : Hid (x = Pl.nx 5 1 x v) := hide (by simp only [Pl.nx, Pl.fell, Int.reduceMod, Int.reduceEq, if_true, if_false, or_self, or_true, true_or, or_false, false_or])
  have E3 : Hid ((v % 2) = Pl.fell 5 1 v) := hide (by simp only [Pl.fell, Int.reduceMod, Int.reduceEq, if_true, if_false])
  go_enter Try.func103, Try.ntmps103
  go_wp2_with (first | (go_at_call 106; refine (highest1 _ _ _ _ _ ?h0 ?h1).mono ?_; (case h0 => omega); (case h1 => omega); rintro e w' ⟨rfl, o6, rfl⟩) | (go_at_call 137; refine (lowest _ _ _ _ _ _).mono ?_; rintro e w' ⟨rfl, o6, rfl⟩) | (go_at_call 136; refine (moveDown1 _ _ _ _ _ _ ?h0 ?h1 ?h2 ?h3).mono ?_; (case h0 => omega); (case h1 => omega); (case h2 => omega); (case h3 => omega); rintro e w' ⟨rfl, o1, o2, o3, rfl⟩) | (go_at_call 135; refine (keepFallen _ _ _ _ _ _).mono ?_; rintro e w' ⟨rfl, o4, o5, rfl⟩))
  go_region_with (first | (go_at_call 106; refine (highest1 _ _ _ _ _ ?h0 ?h1).mono ?_; (case h0 => omega); (case h1 => omega); rintro e w' ⟨rfl, o6, rfl⟩) | (go_at_call 137; refine (lowest _ _ _ _ _ _).mono ?_; rintro e w' ⟨rfl, o6, rfl⟩) | (go_at_call 136; refine (moveDown1 _ _ _ _ _ _ ?h0 ?h1 ?h2 ?h3).mono ?_; (case h0 => omega); (case h1 => omega); (case h2 => omega); (case h3 => omega); rintro e w' ⟨rfl, o1, o2, o3, rfl⟩) | (go_at_call 135; refine (keepFallen _ _ _ _ _ _).mono ?_; rintro e w' ⟨rfl, o4, o5, rfl⟩))
  all_goals go_wp2_with fail
  all_goals
    refine bodyPost_ret (v := .agg #[iv (v / 2 + v % 2 * 128), iv 8, iv x, iv (v % 2), .bool t]) ?_ rfl ⟨?_, ?_⟩
    · rw [results_cell1 rfl]; go_simp
    · exact rA E1.out rfl E2.out E3.out rfl
    · (repeat' (first | with_reducible exact Below.refl _ _ | with_reducible refine Below.drew ?_ | with_reducible refine Below.alloc ?_ ?_ _ | (simp; done) | (simp; omega)))
set_option maxHeartbeats 8000000 in
theorem turnUpThroughExtend1 (v x f : Int) (t : Bool) (w : World) (h0 : 0 ≤ v) (h1 : v < 256) (x0 : 0 ≤ x) (x1 : x ≤ 1) :
    Calls Try.prog 104 #[.agg #[iv v, iv 8, iv x, iv f, .bool t]] w fun e w' => e = .returned (.agg #[iv (Pl.nv 6 1 x v), iv 8, iv (Pl.nx 6 1 x v), iv (Pl.fell 6 1 v), .bool t]) ∧ Below w.heap.size w w' := by
  obtain ⟨b0, b1⟩ := Pl.hi_bd 1 v
  have E1 : Hid ((v * 2 % 256 + x) = Pl.nv 6 1 x v) := hide (by simp only [Pl.nv, Pl.inn, Pl.fell, Pl.top, Int.reduceMod, Int.reduceEq, Int.reduceLE, Int.reduceDiv, if_true, if_false, or_self, or_true, true_or, or_false, false_or] <;> omega)
  have E2 : Hid ((Pl.hi 1 v) = Pl.nx 6 1 x v) := hide (by simp only [Pl.nx, Pl.fell, Int.reduceMod, Int.reduceEq, if_true, if_false, or_self, or_true, true_or, or_false, false_or])
  have E3 : Hid ((Pl.hi 1 v) = Pl.fell 6 1 v) := hide (by simp only [Pl.fell, Int.reduceMod, Int.reduceEq, if_true, if_false])
  go_enter Try.func104, Try.ntmps104
  go_wp2_with (first | (go_at_call 106; refine (highest1 _ _ _ _ _ ?h0 ?h1).mono ?_; (case h0 => omega); (case h1 => omega); rintro e w' ⟨rfl, o6, rfl⟩) | (go_at_call 137; refine (lowest _ _ _ _ _ _).mono ?_; rintro e w' ⟨rfl, o6, rfl⟩) | (go_at_call 134; refine (moveUp1 _ _ _ _ _ _ ?h0 ?h1 ?h2 ?h3).mono ?_; (case h0 => omega); (case h1 => omega); (case h2 => omega); (case h3 => omega); rintro e w' ⟨rfl, o1, o2, o3, rfl⟩) | (go_at_call 135; refine (keepFallen _ _ _ _ _ _).mono ?_; rintro e w' ⟨rfl, o4, o5, rfl⟩))
  all_goals
    refine bodyPost_ret (v := .agg #[iv (v * 2 % 256 + x), iv 8, iv (Pl.hi 1 v), iv (Pl.hi 1 v), .bool t]) ?_ rfl ⟨?_, ?_⟩
    · rw [results_cell1 rfl]; go_simp
    · exact rA E1.out rfl E2.out E3.out rfl
    · (repeat' (first | with_reducible exact Below.refl _ _ | with_reducible refine Below.drew ?_ | with_reducible refine Below.alloc ?_ ?_ _ | (simp; done) | (simp; omega)))
set_option maxHeartbeats 8000000 in
theorem turnDownThroughExtend1 (v x f : Int) (t : Bool) (w : World) (h0 : 0 ≤ v) (h1 : v < 256) (x0 : 0 ≤ x) (x1 : x ≤ 1) :
    Calls Try.prog 105 #[.agg #[iv v, iv 8, iv x, iv f, .bool t]] w fun e w' => e = .returned (.agg #[iv (Pl.nv 7 1 x v), iv 8, iv (Pl.nx 7 1 x v), iv (Pl.fell 7 1 v), .bool t]) ∧ Below w.heap.size w w' := by
  obtain ⟨b0, b1⟩ := Pl.hi_bd 1 v
  have E1 : Hid ((v / 2 + x * 128) = Pl.nv 7 1 x v) := hide (by simp only [Pl.nv, Pl.inn, Pl.fell, Pl.top, Int.reduceMod, Int.reduceEq, Int.reduceLE, Int.reduceDiv, if_true, if_false, or_self, or_true, true_or, or_false, false_or] <;> omega)
  have E2 : Hid ((v % 2) = Pl.nx 7 1 x v) := hide (by simp only [Pl.nx, Pl.fell, Int.reduceMod, Int.reduceEq, if_true, if_false, or_self, or_true, true_or, or_false, false_or])
  have E3 : Hid ((v % 2) = Pl.fell 7 1 v) := hide (by simp only [Pl.fell, Int.reduceMod, Int.reduceEq, if_true, if_false])
  go_enter Try.func105, Try.ntmps105
  go_wp2_with (first | (go_at_call 106; refine (highest1 _ _ _ _ _ ?h0 ?h1).mono ?_; (case h0 => omega); (case h1 => omega); rintro e w' ⟨rfl, o6, rfl⟩) | (go_at_call 137; refine (lowest _ _ _ _ _ _).mono ?_; rintro e w' ⟨rfl, o6, rfl⟩) | (go_at_call 136; refine (moveDown1 _ _ _ _ _ _ ?h0 ?h1 ?h2 ?h3).mono ?_; (case h0 => omega); (case h1 => omega); (case h2 => omega); (case h3 => omega); rintro e w' ⟨rfl, o1, o2, o3, rfl⟩) | (go_at_call 135; refine (keepFallen _ _ _ _ _ _).mono ?_; rintro e w' ⟨rfl, o4, o5, rfl⟩))
  all_goals
    refine bodyPost_ret (v := .agg #[iv (v / 2 + x * 128), iv 8, iv (v % 2), iv (v % 2), .bool t]) ?_ rfl ⟨?_, ?_⟩
    · rw [results_cell1 rfl]; go_simp
    · exact rA E1.out rfl E2.out E3.out rfl
    · (repeat' (first | with_reducible exact Below.refl _ _ | with_reducible refine Below.drew ?_ | with_reducible refine Below.alloc ?_ ?_ _ | (simp; done) | (simp; omega)))
end Go.Proofs.Ytnmddmmmgdfknaa

