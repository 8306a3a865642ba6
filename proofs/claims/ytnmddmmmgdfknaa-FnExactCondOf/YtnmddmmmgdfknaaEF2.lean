/- What the model's functions on notes answer. What the model makes of a note: the flags that are meant; FlagsOf, CondOf, CarryOf, NoteFlagOp. What the program's small functions on operations answer, whether a note is good, a note with an operation more. A call that only draws from the tape: what it leaves, in the two forms that a law's frame asks for. A row of bits (the program's struct of five fields), laid in a block of its own: what it holds, and what later worlds leave of it. What the program's moves by one place answer, for each kind and size: one contract a method; each makes new blocks and changes none that was there. -/
import Derived.Test.YtnmddmmmgdfknaaEF1
import Derived.Below
import Derived.Laws.Rows
import Derived.Laws.ResultCell
import Derived.RegionTactic
import Derived.ChangeAlike
import Derived.BigRegion
import Derived.Deep.RegionWith
namespace Go.Proofs.Ytnmddmmmgdfknaa
open Go.RowKit
set_option linter.unusedVariables false
/-- whether a note is good, as the model asks it -/
def Pl.lzM (z : Pl.Lz) : Bool := bif !Pl.flags z.b || (!Pl.foNone z.l && !Pl.foOk z.l) then false else bif Pl.foNone z.r then !Pl.sumK z.l.k else bif !Pl.sumK z.r.k || (!Pl.foOk z.r || Pl.foNone z.l) then false else !Pl.sumK z.l.k || Pl.foSame z.l z.r
theorem Pl.lzM_eq (z : Pl.Lz) : Pl.lzM z = Pl.lzOk z := by
  unfold Pl.lzM Pl.lzOk
  cases hF : Pl.flags z.b
  · rfl
  · cases hl : Pl.foNone z.l
    · cases ho : Pl.foOk z.l
      · rfl
      · cases hr : Pl.foNone z.r
        · cases hs : Pl.sumK z.l.k
          · cases h1 : Pl.sumK z.r.k <;> cases h2 : Pl.foOk z.r <;> rfl
          · cases h1 : Pl.sumK z.r.k
            · cases h3 : Pl.foSame z.r z.l
              · rfl
              · rw [Pl.foSame_ok h3, hs] at h1; cases h1
            · cases h2 : Pl.foOk z.r
              · cases h3 : Pl.foSame z.r z.l
                · rfl
                · rw [Pl.foSame_ok h3, ho] at h2; cases h2
              · show Pl.foSame z.l z.r = Pl.foSame z.r z.l
                exact Pl.foSame_comm _ _
        · cases hs : Pl.sumK z.l.k
          · rfl
          · cases h3 : Pl.foSame z.r z.l
            · rfl
            · rw [Pl.foSame_ok h3, hl] at hr; cases hr
    · have hs : Pl.sumK z.l.k = false := by rw [Pl.foNone_ok hl]; rfl
      rw [hs]
      cases hr : Pl.foNone z.r
      · cases h1 : Pl.sumK z.r.k <;> cases h2 : Pl.foOk z.r <;> rfl
      · rfl
set_option maxRecDepth 100000 in
set_option maxHeartbeats 4000000 in
theorem specGoodLazy (w : World) (z : Pl.Lz) : Calls Try.prog 90 #[.agg (lzA z)] w fun e w' => e = .returned (.bool (Pl.lzOk z)) ∧ Kept 0 0 w w' := by
  have he := eqFo z.l z.r
  have K0 := hide (kept_alloc w (.cells (lzA z) 49))
  have B0 := hide (Blk.new w (lzA z) 49)
  have q := B0.out.all
  rw [← Pl.lzM_eq]
  cases F : Pl.flags z.b
  · go_enter Try.func90, Try.ntmps90
    go_wp2_with (first | (go_at_call 74; refine st (l1Flags _ _) ?_; rw [F]) | (go_at_call 132; (first | (with_reducible refine (specNone _ z.l).mono ?_; rw [NL]) | (with_reducible refine (specNone _ z.r).mono ?_; rw [NR])); rintro e9 w9 ⟨rfl, k9⟩; replace K0 := hide (K0.out.trans k9); replace B0 := hide (B0.out.kept0 k9); clear q; have q := B0.out.all; clear k9) | (go_at_call 112; (first | (with_reducible refine (specFo _ z.l).mono ?_; rw [OL]) | (with_reducible refine (specFo _ z.r).mono ?_; rw [OR])); rintro e9 w9 ⟨rfl, k9⟩; replace K0 := hide (K0.out.trans k9); replace B0 := hide (B0.out.kept0 k9); clear q; have q := B0.out.all; clear k9) | (go_at_call 113; (first | (with_reducible refine (specSum _ z.l).mono ?_; rw [SL]) | (with_reducible refine (specSum _ z.r).mono ?_; rw [SR])); rintro e9 w9 ⟨rfl, k9⟩; replace K0 := hide (K0.out.trans k9); replace B0 := hide (B0.out.kept0 k9); clear q; have q := B0.out.all; clear k9))
    go_ret
    exact ⟨rB (by simp [Pl.lzM, F]), K0.out⟩
  · cases NL : Pl.foNone z.l
    · cases OL : Pl.foOk z.l
      · go_enter Try.func90, Try.ntmps90
        go_wp2_with (first | (go_at_call 74; refine st (l1Flags _ _) ?_; rw [F]) | (go_at_call 132; (first | (with_reducible refine (specNone _ z.l).mono ?_; rw [NL]) | (with_reducible refine (specNone _ z.r).mono ?_; rw [NR])); rintro e9 w9 ⟨rfl, k9⟩; replace K0 := hide (K0.out.trans k9); replace B0 := hide (B0.out.kept0 k9); clear q; have q := B0.out.all; clear k9) | (go_at_call 112; (first | (with_reducible refine (specFo _ z.l).mono ?_; rw [OL]) | (with_reducible refine (specFo _ z.r).mono ?_; rw [OR])); rintro e9 w9 ⟨rfl, k9⟩; replace K0 := hide (K0.out.trans k9); replace B0 := hide (B0.out.kept0 k9); clear q; have q := B0.out.all; clear k9) | (go_at_call 113; (first | (with_reducible refine (specSum _ z.l).mono ?_; rw [SL]) | (with_reducible refine (specSum _ z.r).mono ?_; rw [SR])); rintro e9 w9 ⟨rfl, k9⟩; replace K0 := hide (K0.out.trans k9); replace B0 := hide (B0.out.kept0 k9); clear q; have q := B0.out.all; clear k9))
        go_ret
        exact ⟨rB (by simp [Pl.lzM, F, NL, OL]), K0.out⟩
      · cases NR : Pl.foNone z.r
        · cases SR : Pl.sumK z.r.k
          · go_enter Try.func90, Try.ntmps90
            go_wp2_with (first | (go_at_call 74; refine st (l1Flags _ _) ?_; rw [F]) | (go_at_call 132; (first | (with_reducible refine (specNone _ z.l).mono ?_; rw [NL]) | (with_reducible refine (specNone _ z.r).mono ?_; rw [NR])); rintro e9 w9 ⟨rfl, k9⟩; replace K0 := hide (K0.out.trans k9); replace B0 := hide (B0.out.kept0 k9); clear q; have q := B0.out.all; clear k9) | (go_at_call 112; (first | (with_reducible refine (specFo _ z.l).mono ?_; rw [OL]) | (with_reducible refine (specFo _ z.r).mono ?_; rw [OR])); rintro e9 w9 ⟨rfl, k9⟩; replace K0 := hide (K0.out.trans k9); replace B0 := hide (B0.out.kept0 k9); clear q; have q := B0.out.all; clear k9) | (go_at_call 113; (first | (with_reducible refine (specSum _ z.l).mono ?_; rw [SL]) | (with_reducible refine (specSum _ z.r).mono ?_; rw [SR])); rintro e9 w9 ⟨rfl, k9⟩; replace K0 := hide (K0.out.trans k9); replace B0 := hide (B0.out.kept0 k9); clear q; have q := B0.out.all; clear k9))
            go_ret
            exact ⟨rB (by simp [Pl.lzM, F, NL, OL, NR, SR]), K0.out⟩
          · cases OR : Pl.foOk z.r
            · go_enter Try.func90, Try.ntmps90
              go_wp2_with (first | (go_at_call 74; refine st (l1Flags _ _) ?_; rw [F]) | (go_at_call 132; (first | (with_reducible refine (specNone _ z.l).mono ?_; rw [NL]) | (with_reducible refine (specNone _ z.r).mono ?_; rw [NR])); rintro e9 w9 ⟨rfl, k9⟩; replace K0 := hide (K0.out.trans k9); replace B0 := hide (B0.out.kept0 k9); clear q; have q := B0.out.all; clear k9) | (go_at_call 112; (first | (with_reducible refine (specFo _ z.l).mono ?_; rw [OL]) | (with_reducible refine (specFo _ z.r).mono ?_; rw [OR])); rintro e9 w9 ⟨rfl, k9⟩; replace K0 := hide (K0.out.trans k9); replace B0 := hide (B0.out.kept0 k9); clear q; have q := B0.out.all; clear k9) | (go_at_call 113; (first | (with_reducible refine (specSum _ z.l).mono ?_; rw [SL]) | (with_reducible refine (specSum _ z.r).mono ?_; rw [SR])); rintro e9 w9 ⟨rfl, k9⟩; replace K0 := hide (K0.out.trans k9); replace B0 := hide (B0.out.kept0 k9); clear q; have q := B0.out.all; clear k9))
              go_ret
              exact ⟨rB (by simp [Pl.lzM, F, NL, OL, NR, SR, OR]), K0.out⟩
            · cases SL : Pl.sumK z.l.k
              · go_enter Try.func90, Try.ntmps90
                go_wp2_with (first | (go_at_call 74; refine st (l1Flags _ _) ?_; rw [F]) | (go_at_call 132; (first | (with_reducible refine (specNone _ z.l).mono ?_; rw [NL]) | (with_reducible refine (specNone _ z.r).mono ?_; rw [NR])); rintro e9 w9 ⟨rfl, k9⟩; replace K0 := hide (K0.out.trans k9); replace B0 := hide (B0.out.kept0 k9); clear q; have q := B0.out.all; clear k9) | (go_at_call 112; (first | (with_reducible refine (specFo _ z.l).mono ?_; rw [OL]) | (with_reducible refine (specFo _ z.r).mono ?_; rw [OR])); rintro e9 w9 ⟨rfl, k9⟩; replace K0 := hide (K0.out.trans k9); replace B0 := hide (B0.out.kept0 k9); clear q; have q := B0.out.all; clear k9) | (go_at_call 113; (first | (with_reducible refine (specSum _ z.l).mono ?_; rw [SL]) | (with_reducible refine (specSum _ z.r).mono ?_; rw [SR])); rintro e9 w9 ⟨rfl, k9⟩; replace K0 := hide (K0.out.trans k9); replace B0 := hide (B0.out.kept0 k9); clear q; have q := B0.out.all; clear k9))
                go_ret
                exact ⟨rB (by simp [Pl.lzM, F, NL, OL, NR, SR, OR, SL]), K0.out⟩
              · go_enter Try.func90, Try.ntmps90
                go_wp2_with (first | (go_at_call 74; refine st (l1Flags _ _) ?_; rw [F]) | (go_at_call 132; (first | (with_reducible refine (specNone _ z.l).mono ?_; rw [NL]) | (with_reducible refine (specNone _ z.r).mono ?_; rw [NR])); rintro e9 w9 ⟨rfl, k9⟩; replace K0 := hide (K0.out.trans k9); replace B0 := hide (B0.out.kept0 k9); clear q; have q := B0.out.all; clear k9) | (go_at_call 112; (first | (with_reducible refine (specFo _ z.l).mono ?_; rw [OL]) | (with_reducible refine (specFo _ z.r).mono ?_; rw [OR])); rintro e9 w9 ⟨rfl, k9⟩; replace K0 := hide (K0.out.trans k9); replace B0 := hide (B0.out.kept0 k9); clear q; have q := B0.out.all; clear k9) | (go_at_call 113; (first | (with_reducible refine (specSum _ z.l).mono ?_; rw [SL]) | (with_reducible refine (specSum _ z.r).mono ?_; rw [SR])); rintro e9 w9 ⟨rfl, k9⟩; replace K0 := hide (K0.out.trans k9); replace B0 := hide (B0.out.kept0 k9); clear q; have q := B0.out.all; clear k9))
                go_ret
                exact ⟨rB (by simp [Pl.lzM, F, NL, OL, NR, SR, OR, SL]), K0.out⟩
        · cases SL : Pl.sumK z.l.k
          · go_enter Try.func90, Try.ntmps90
            go_wp2_with (first | (go_at_call 74; refine st (l1Flags _ _) ?_; rw [F]) | (go_at_call 132; (first | (with_reducible refine (specNone _ z.l).mono ?_; rw [NL]) | (with_reducible refine (specNone _ z.r).mono ?_; rw [NR])); rintro e9 w9 ⟨rfl, k9⟩; replace K0 := hide (K0.out.trans k9); replace B0 := hide (B0.out.kept0 k9); clear q; have q := B0.out.all; clear k9) | (go_at_call 112; (first | (with_reducible refine (specFo _ z.l).mono ?_; rw [OL]) | (with_reducible refine (specFo _ z.r).mono ?_; rw [OR])); rintro e9 w9 ⟨rfl, k9⟩; replace K0 := hide (K0.out.trans k9); replace B0 := hide (B0.out.kept0 k9); clear q; have q := B0.out.all; clear k9) | (go_at_call 113; (first | (with_reducible refine (specSum _ z.l).mono ?_; rw [SL]) | (with_reducible refine (specSum _ z.r).mono ?_; rw [SR])); rintro e9 w9 ⟨rfl, k9⟩; replace K0 := hide (K0.out.trans k9); replace B0 := hide (B0.out.kept0 k9); clear q; have q := B0.out.all; clear k9))
            go_ret
            exact ⟨rB (by simp [Pl.lzM, F, NL, OL, NR, SL]), K0.out⟩
          · go_enter Try.func90, Try.ntmps90
            go_wp2_with (first | (go_at_call 74; refine st (l1Flags _ _) ?_; rw [F]) | (go_at_call 132; (first | (with_reducible refine (specNone _ z.l).mono ?_; rw [NL]) | (with_reducible refine (specNone _ z.r).mono ?_; rw [NR])); rintro e9 w9 ⟨rfl, k9⟩; replace K0 := hide (K0.out.trans k9); replace B0 := hide (B0.out.kept0 k9); clear q; have q := B0.out.all; clear k9) | (go_at_call 112; (first | (with_reducible refine (specFo _ z.l).mono ?_; rw [OL]) | (with_reducible refine (specFo _ z.r).mono ?_; rw [OR])); rintro e9 w9 ⟨rfl, k9⟩; replace K0 := hide (K0.out.trans k9); replace B0 := hide (B0.out.kept0 k9); clear q; have q := B0.out.all; clear k9) | (go_at_call 113; (first | (with_reducible refine (specSum _ z.l).mono ?_; rw [SL]) | (with_reducible refine (specSum _ z.r).mono ?_; rw [SR])); rintro e9 w9 ⟨rfl, k9⟩; replace K0 := hide (K0.out.trans k9); replace B0 := hide (B0.out.kept0 k9); clear q; have q := B0.out.all; clear k9))
            go_ret
            exact ⟨rB (by simp [Pl.lzM, F, NL, OL, NR, SL]), K0.out⟩
    · cases NR : Pl.foNone z.r
      · cases SR : Pl.sumK z.r.k
        · go_enter Try.func90, Try.ntmps90
          go_wp2_with (first | (go_at_call 74; refine st (l1Flags _ _) ?_; rw [F]) | (go_at_call 132; (first | (with_reducible refine (specNone _ z.l).mono ?_; rw [NL]) | (with_reducible refine (specNone _ z.r).mono ?_; rw [NR])); rintro e9 w9 ⟨rfl, k9⟩; replace K0 := hide (K0.out.trans k9); replace B0 := hide (B0.out.kept0 k9); clear q; have q := B0.out.all; clear k9) | (go_at_call 112; (first | (with_reducible refine (specFo _ z.l).mono ?_; rw [OL]) | (with_reducible refine (specFo _ z.r).mono ?_; rw [OR])); rintro e9 w9 ⟨rfl, k9⟩; replace K0 := hide (K0.out.trans k9); replace B0 := hide (B0.out.kept0 k9); clear q; have q := B0.out.all; clear k9) | (go_at_call 113; (first | (with_reducible refine (specSum _ z.l).mono ?_; rw [SL]) | (with_reducible refine (specSum _ z.r).mono ?_; rw [SR])); rintro e9 w9 ⟨rfl, k9⟩; replace K0 := hide (K0.out.trans k9); replace B0 := hide (B0.out.kept0 k9); clear q; have q := B0.out.all; clear k9))
          go_ret
          exact ⟨rB (by simp [Pl.lzM, F, NL, NR, SR]), K0.out⟩
        · cases OR : Pl.foOk z.r
          · go_enter Try.func90, Try.ntmps90
            go_wp2_with (first | (go_at_call 74; refine st (l1Flags _ _) ?_; rw [F]) | (go_at_call 132; (first | (with_reducible refine (specNone _ z.l).mono ?_; rw [NL]) | (with_reducible refine (specNone _ z.r).mono ?_; rw [NR])); rintro e9 w9 ⟨rfl, k9⟩; replace K0 := hide (K0.out.trans k9); replace B0 := hide (B0.out.kept0 k9); clear q; have q := B0.out.all; clear k9) | (go_at_call 112; (first | (with_reducible refine (specFo _ z.l).mono ?_; rw [OL]) | (with_reducible refine (specFo _ z.r).mono ?_; rw [OR])); rintro e9 w9 ⟨rfl, k9⟩; replace K0 := hide (K0.out.trans k9); replace B0 := hide (B0.out.kept0 k9); clear q; have q := B0.out.all; clear k9) | (go_at_call 113; (first | (with_reducible refine (specSum _ z.l).mono ?_; rw [SL]) | (with_reducible refine (specSum _ z.r).mono ?_; rw [SR])); rintro e9 w9 ⟨rfl, k9⟩; replace K0 := hide (K0.out.trans k9); replace B0 := hide (B0.out.kept0 k9); clear q; have q := B0.out.all; clear k9))
            go_ret
            exact ⟨rB (by simp [Pl.lzM, F, NL, NR, SR, OR]), K0.out⟩
          · go_enter Try.func90, Try.ntmps90
            go_wp2_with (first | (go_at_call 74; refine st (l1Flags _ _) ?_; rw [F]) | (go_at_call 132; (first | (with_reducible refine (specNone _ z.l).mono ?_; rw [NL]) | (with_reducible refine (specNone _ z.r).mono ?_; rw [NR])); rintro e9 w9 ⟨rfl, k9⟩; replace K0 := hide (K0.out.trans k9); replace B0 := hide (B0.out.kept0 k9); clear q; have q := B0.out.all; clear k9) | (go_at_call 112; (first | (with_reducible refine (specFo _ z.l).mono ?_; rw [OL]) | (with_reducible refine (specFo _ z.r).mono ?_; rw [OR])); rintro e9 w9 ⟨rfl, k9⟩; replace K0 := hide (K0.out.trans k9); replace B0 := hide (B0.out.kept0 k9); clear q; have q := B0.out.all; clear k9) | (go_at_call 113; (first | (with_reducible refine (specSum _ z.l).mono ?_; rw [SL]) | (with_reducible refine (specSum _ z.r).mono ?_; rw [SR])); rintro e9 w9 ⟨rfl, k9⟩; replace K0 := hide (K0.out.trans k9); replace B0 := hide (B0.out.kept0 k9); clear q; have q := B0.out.all; clear k9))
            go_ret
            exact ⟨rB (by simp [Pl.lzM, F, NL, NR, SR, OR]), K0.out⟩
      · cases SL : Pl.sumK z.l.k
        · go_enter Try.func90, Try.ntmps90
          go_wp2_with (first | (go_at_call 74; refine st (l1Flags _ _) ?_; rw [F]) | (go_at_call 132; (first | (with_reducible refine (specNone _ z.l).mono ?_; rw [NL]) | (with_reducible refine (specNone _ z.r).mono ?_; rw [NR])); rintro e9 w9 ⟨rfl, k9⟩; replace K0 := hide (K0.out.trans k9); replace B0 := hide (B0.out.kept0 k9); clear q; have q := B0.out.all; clear k9) | (go_at_call 112; (first | (with_reducible refine (specFo _ z.l).mono ?_; rw [OL]) | (with_reducible refine (specFo _ z.r).mono ?_; rw [OR])); rintro e9 w9 ⟨rfl, k9⟩; replace K0 := hide (K0.out.trans k9); replace B0 := hide (B0.out.kept0 k9); clear q; have q := B0.out.all; clear k9) | (go_at_call 113; (first | (with_reducible refine (specSum _ z.l).mono ?_; rw [SL]) | (with_reducible refine (specSum _ z.r).mono ?_; rw [SR])); rintro e9 w9 ⟨rfl, k9⟩; replace K0 := hide (K0.out.trans k9); replace B0 := hide (B0.out.kept0 k9); clear q; have q := B0.out.all; clear k9))
          go_ret
          exact ⟨rB (by simp [Pl.lzM, F, NL, NR, SL]), K0.out⟩
        · go_enter Try.func90, Try.ntmps90
          go_wp2_with (first | (go_at_call 74; refine st (l1Flags _ _) ?_; rw [F]) | (go_at_call 132; (first | (with_reducible refine (specNone _ z.l).mono ?_; rw [NL]) | (with_reducible refine (specNone _ z.r).mono ?_; rw [NR])); rintro e9 w9 ⟨rfl, k9⟩; replace K0 := hide (K0.out.trans k9); replace B0 := hide (B0.out.kept0 k9); clear q; have q := B0.out.all; clear k9) | (go_at_call 112; (first | (with_reducible refine (specFo _ z.l).mono ?_; rw [OL]) | (with_reducible refine (specFo _ z.r).mono ?_; rw [OR])); rintro e9 w9 ⟨rfl, k9⟩; replace K0 := hide (K0.out.trans k9); replace B0 := hide (B0.out.kept0 k9); clear q; have q := B0.out.all; clear k9) | (go_at_call 113; (first | (with_reducible refine (specSum _ z.l).mono ?_; rw [SL]) | (with_reducible refine (specSum _ z.r).mono ?_; rw [SR])); rintro e9 w9 ⟨rfl, k9⟩; replace K0 := hide (K0.out.trans k9); replace B0 := hide (B0.out.kept0 k9); clear q; have q := B0.out.all; clear k9))
          go_ret
          exact ⟨rB (by simp [Pl.lzM, F, NL, NR, SL]), K0.out⟩
end Go.Proofs.Ytnmddmmmgdfknaa

namespace Go.Proofs.Ytnmddmmmgdfknaa
open Go.RowKit
set_option linter.unusedVariables false
set_option maxRecDepth 100000 in
set_option maxHeartbeats 4000000 in
theorem specFlags (w : World) (z : Pl.Lz) (h : Pl.lzOk z = true) : Calls Try.prog 91 #[.agg (lzA z)] w fun e w' => e = .returned (iv (Pl.lzF z)) ∧ Kept 0 0 w w' := by
  have K0 := hide (kept_alloc w (.cells (lzA z) 49))
  have B0 := hide (Blk.new w (lzA z) 49)
  have q := B0.out.all
  obtain ⟨hb, hl0, hr0⟩ := Pl.lz_parts h
  have hg0 := Pl.flags_mk0 hr0 hb
  cases NR : Pl.foNone z.r
  · cases NL : Pl.foNone z.l
    · cases SL : Pl.sumK z.l.k
      · have hr : Pl.foOk z.r = true := by rcases hr0 with q | q; rw [NR] at q; cases q; exact q
        have hl : Pl.foOk z.l = true := by rcases hl0 with q | q; rw [NL] at q; cases q; exact q
        have hg := hg0
        have E : Hid (Pl.lzF z = Pl.mk (Pl.mk z.b z.r) z.l) := hide (by rfl)
        go_enter Try.func91, Try.ntmps91
        go_wp2_with (first | (go_at_call 132; (first | (with_reducible refine (specNone _ z.l).mono ?_; rw [NL]) | (with_reducible refine (specNone _ z.r).mono ?_; rw [NR])); rintro e9 w9 ⟨rfl, k9⟩; replace K0 := hide (K0.out.trans k9); replace B0 := hide (B0.out.kept0 k9); clear q; have q := B0.out.all; clear k9) | (go_at_call 113; with_reducible refine (specSum _ z.l).mono ?_; rw [SL]; rintro e9 w9 ⟨rfl, k9⟩; replace K0 := hide (K0.out.trans k9); replace B0 := hide (B0.out.kept0 k9); clear q; have q := B0.out.all; clear k9) | (go_at_call 79; (first | (with_reducible refine (specMake _ _ z.r hr hb).mono ?_) | (with_reducible refine (specMake _ _ z.l hl hg).mono ?_)); rintro e9 w9 ⟨rfl, k9⟩; replace K0 := hide (K0.out.trans k9); replace B0 := hide (B0.out.kept0 k9); clear q; have q := B0.out.all; clear k9))
        go_ret
        exact ⟨rI E.out.symm, K0.out⟩
      · have hr : Pl.foOk z.r = true := by rcases hr0 with q | q; rw [NR] at q; cases q; exact q
        have hs : z.r = z.l := by simp only [Pl.lzOk, Bool.and_eq_true] at h; have h2 := h.2; rw [NL, SL] at h2; simp only [cond_false, cond_true, Bool.and_eq_true] at h2; exact Pl.foSame_ok h2.2
        have E : Hid (Pl.lzF z = Pl.mk z.b z.r) := hide (by unfold Pl.lzF; rw [hs]; exact Pl.mk_sum SL _ _)
        clear hs
        go_enter Try.func91, Try.ntmps91
        go_wp2_with (first | (go_at_call 132; (first | (with_reducible refine (specNone _ z.l).mono ?_; rw [NL]) | (with_reducible refine (specNone _ z.r).mono ?_; rw [NR])); rintro e9 w9 ⟨rfl, k9⟩; replace K0 := hide (K0.out.trans k9); replace B0 := hide (B0.out.kept0 k9); clear q; have q := B0.out.all; clear k9) | (go_at_call 113; with_reducible refine (specSum _ z.l).mono ?_; rw [SL]; rintro e9 w9 ⟨rfl, k9⟩; replace K0 := hide (K0.out.trans k9); replace B0 := hide (B0.out.kept0 k9); clear q; have q := B0.out.all; clear k9) | (go_at_call 79; (first | (with_reducible refine (specMake _ _ z.r hr hb).mono ?_) | (with_reducible refine (specMake _ _ z.l hl hg).mono ?_)); rintro e9 w9 ⟨rfl, k9⟩; replace K0 := hide (K0.out.trans k9); replace B0 := hide (B0.out.kept0 k9); clear q; have q := B0.out.all; clear k9))
        go_ret
        exact ⟨rI E.out.symm, K0.out⟩
    · have hr : Pl.foOk z.r = true := by rcases hr0 with q | q; rw [NR] at q; cases q; exact q
      have E : Hid (Pl.lzF z = Pl.mk z.b z.r) := hide (by unfold Pl.lzF; exact Pl.mk_none NL _)
      go_enter Try.func91, Try.ntmps91
      go_wp2_with (first | (go_at_call 132; (first | (with_reducible refine (specNone _ z.l).mono ?_; rw [NL]) | (with_reducible refine (specNone _ z.r).mono ?_; rw [NR])); rintro e9 w9 ⟨rfl, k9⟩; replace K0 := hide (K0.out.trans k9); replace B0 := hide (B0.out.kept0 k9); clear q; have q := B0.out.all; clear k9) | (go_at_call 113; with_reducible refine (specSum _ z.l).mono ?_; rw [SL]; rintro e9 w9 ⟨rfl, k9⟩; replace K0 := hide (K0.out.trans k9); replace B0 := hide (B0.out.kept0 k9); clear q; have q := B0.out.all; clear k9) | (go_at_call 79; (first | (with_reducible refine (specMake _ _ z.r hr hb).mono ?_) | (with_reducible refine (specMake _ _ z.l hl hg).mono ?_)); rintro e9 w9 ⟨rfl, k9⟩; replace K0 := hide (K0.out.trans k9); replace B0 := hide (B0.out.kept0 k9); clear q; have q := B0.out.all; clear k9))
      go_ret
      exact ⟨rI E.out.symm, K0.out⟩
  · cases NL : Pl.foNone z.l
    · cases SL : Pl.sumK z.l.k
      · have hl : Pl.foOk z.l = true := by rcases hl0 with q | q; rw [NL] at q; cases q; exact q
        have hg := hb
        have E : Hid (Pl.lzF z = Pl.mk z.b z.l) := hide (by unfold Pl.lzF; rw [Pl.mk_none NR])
        go_enter Try.func91, Try.ntmps91
        go_wp2_with (first | (go_at_call 132; (first | (with_reducible refine (specNone _ z.l).mono ?_; rw [NL]) | (with_reducible refine (specNone _ z.r).mono ?_; rw [NR])); rintro e9 w9 ⟨rfl, k9⟩; replace K0 := hide (K0.out.trans k9); replace B0 := hide (B0.out.kept0 k9); clear q; have q := B0.out.all; clear k9) | (go_at_call 113; with_reducible refine (specSum _ z.l).mono ?_; rw [SL]; rintro e9 w9 ⟨rfl, k9⟩; replace K0 := hide (K0.out.trans k9); replace B0 := hide (B0.out.kept0 k9); clear q; have q := B0.out.all; clear k9) | (go_at_call 79; (first | (with_reducible refine (specMake _ _ z.r hr hb).mono ?_) | (with_reducible refine (specMake _ _ z.l hl hg).mono ?_)); rintro e9 w9 ⟨rfl, k9⟩; replace K0 := hide (K0.out.trans k9); replace B0 := hide (B0.out.kept0 k9); clear q; have q := B0.out.all; clear k9))
        go_ret
        exact ⟨rI E.out.symm, K0.out⟩
      · exfalso
        have hs : z.r = z.l := by simp only [Pl.lzOk, Bool.and_eq_true] at h; have h2 := h.2; rw [NL, SL] at h2; simp only [cond_false, cond_true, Bool.and_eq_true] at h2; exact Pl.foSame_ok h2.2
        have hl : Pl.foOk z.l = true := by rcases hl0 with q | q; rw [NL] at q; cases q; exact q
        rw [hs, Pl.foNone_no hl] at NR
        cases NR
    · have E : Hid (Pl.lzF z = z.b) := hide (by unfold Pl.lzF; rw [Pl.mk_none NR, Pl.mk_none NL])
      go_enter Try.func91, Try.ntmps91
      go_wp2_with (first | (go_at_call 132; (first | (with_reducible refine (specNone _ z.l).mono ?_; rw [NL]) | (with_reducible refine (specNone _ z.r).mono ?_; rw [NR])); rintro e9 w9 ⟨rfl, k9⟩; replace K0 := hide (K0.out.trans k9); replace B0 := hide (B0.out.kept0 k9); clear q; have q := B0.out.all; clear k9) | (go_at_call 113; with_reducible refine (specSum _ z.l).mono ?_; rw [SL]; rintro e9 w9 ⟨rfl, k9⟩; replace K0 := hide (K0.out.trans k9); replace B0 := hide (B0.out.kept0 k9); clear q; have q := B0.out.all; clear k9) | (go_at_call 79; (first | (with_reducible refine (specMake _ _ z.r hr hb).mono ?_) | (with_reducible refine (specMake _ _ z.l hl hg).mono ?_)); rintro e9 w9 ⟨rfl, k9⟩; replace K0 := hide (K0.out.trans k9); replace B0 := hide (B0.out.kept0 k9); clear q; have q := B0.out.all; clear k9))
      go_ret
      exact ⟨rI E.out.symm, K0.out⟩
def Pl.cdOk (z : Pl.Lz) (k : Int) : Bool := Pl.lzOk z && Pl.cOk k
def Pl.cdV (z : Pl.Lz) (k : Int) : Bool := Pl.cdOk z k && Pl.tst k (Pl.lzF z)
set_option maxRecDepth 100000 in
theorem specCondOf (w : World) (z : Pl.Lz) (k : Int) : Calls Try.prog 47 #[.agg (lzA z), iv k] w fun e w' => e = .returned (.tuple #[.bool (Pl.cdV z k), .bool (Pl.cdOk z k)]) ∧ Kept 0 0 w w' := by
  have K0 := hide (kept_alloc w (.cells (lzA z) 49))
  have B0 := hide (Blk.new w (lzA z) 49)
  have q := B0.out.all
  cases G : Pl.lzOk z
  · go_enter Try.func47, Try.ntmps47
    go_wp2_with (first | (go_at_call 90; with_reducible refine (specGoodLazy _ z).mono ?_; rw [G]; rintro e9 w9 ⟨rfl, k9⟩; replace K0 := hide (K0.out.trans k9); replace B0 := hide (B0.out.kept0 k9); clear q; have q := B0.out.all; clear k9) | (go_at_call 91; with_reducible refine (specFlags _ z G).mono ?_; rintro e9 w9 ⟨rfl, k9⟩; replace K0 := hide (K0.out.trans k9); replace B0 := hide (B0.out.kept0 k9); clear q; have q := B0.out.all; clear k9) | (go_at_call 92; refine st (l8Cond _ _) ?_; rw [C]))
    go_ret2
    exact ⟨rBB (by simp [Pl.cdV, Pl.cdOk, G]) (by simp [Pl.cdOk, G]), K0.out⟩
  · cases C : Pl.cOk k
    · go_enter Try.func47, Try.ntmps47
      go_wp2_with (first | (go_at_call 90; with_reducible refine (specGoodLazy _ z).mono ?_; rw [G]; rintro e9 w9 ⟨rfl, k9⟩; replace K0 := hide (K0.out.trans k9); replace B0 := hide (B0.out.kept0 k9); clear q; have q := B0.out.all; clear k9) | (go_at_call 91; with_reducible refine (specFlags _ z G).mono ?_; rintro e9 w9 ⟨rfl, k9⟩; replace K0 := hide (K0.out.trans k9); replace B0 := hide (B0.out.kept0 k9); clear q; have q := B0.out.all; clear k9) | (go_at_call 92; refine st (l8Cond _ _) ?_; rw [C]))
      go_ret2
      exact ⟨rBB (by simp [Pl.cdV, Pl.cdOk, G, C]) (by simp [Pl.cdOk, G, C]), K0.out⟩
    · obtain ⟨k0, k1⟩ := Pl.cOk_ok C
      obtain ⟨n, hn, rfl⟩ := Pl.nat_of (n := 16) k0 (by omega)
      obtain ⟨j, hj, ej⟩ := Pl.flags_nat (Pl.lzF_flags G)
      have E : Hid (Pl.tst n j = Pl.cdV z n) := hide (by simp [Pl.cdV, Pl.cdOk, G, C, ej])
      clear k0 k1
      go_enter Try.func47, Try.ntmps47
      go_wp2_with (first | (go_at_call 90; with_reducible refine (specGoodLazy _ z).mono ?_; rw [G]; rintro e9 w9 ⟨rfl, k9⟩; replace K0 := hide (K0.out.trans k9); replace B0 := hide (B0.out.kept0 k9); clear q; have q := B0.out.all; clear k9) | (go_at_call 91; with_reducible refine (specFlags _ z G).mono ?_; rw [ej]; rintro e9 w9 ⟨rfl, k9⟩; replace K0 := hide (K0.out.trans k9); replace B0 := hide (B0.out.kept0 k9); clear q; have q := B0.out.all; clear k9) | (go_at_call 92; refine st (l8Cond _ _) ?_; rw [C]) | (go_at_call 93; refine st (specTst n j hn hj _) ?_))
      go_ret2
      exact ⟨rBB E.out (by simp [Pl.cdOk, G, C]), K0.out⟩
end Go.Proofs.Ytnmddmmmgdfknaa

namespace Go.Proofs.Ytnmddmmmgdfknaa
open Go.RowKit
set_option linter.unusedVariables false
theorem implNone (w : World) (x : Pl.Fo) : Calls Try.prog 83 #[.agg (foA x)] w fun e w' => e = .returned (.bool (Pl.foNone x)) ∧ Kept 0 0 w w' := by
  have he := eqFo0 x
  go_enter Try.func83, Try.ntmps83
  go_wp2_with fail
  go_ret
  exact ⟨rfl, kept_alloc _ _⟩
theorem implSum (k : Int) (w : World) : Calls Try.prog 85 #[iv k] w fun e w' => e = .returned (.bool (Pl.sumK k)) ∧ w' = w := by
  by_cases h1 : k = 1
  · subst h1
    go_enter Try.func85, Try.ntmps85
    go_wp2_with fail
    go_ret
    exact ⟨rfl, rfl⟩
  · have k1 : (k == 1) = false := by simpa using h1
    go_enter Try.func85, Try.ntmps85
    go_wp2_with fail
    go_ret
    exact ⟨rB (by simp [Pl.sumK, h1]), rfl⟩
theorem implTakesB (k : Int) (w : World) : Calls Try.prog 129 #[iv k] w fun e w' => e = .returned (.bool (Pl.sumK k || (k == 3))) ∧ w' = w := by
  cases S : Pl.sumK k
  all_goals
    go_enter Try.func129, Try.ntmps129
    go_wp2_with (go_at_call 85; refine st (implSum k _) ?_; rw [S])
    go_ret
    exact ⟨rB (by simp), rfl⟩
theorem implFo (w : World) (x : Pl.Fo) (wf : FoW x) : Calls Try.prog 84 #[.agg (foA x)] w fun e w' => e = .returned (.bool (Pl.foOk x)) ∧ Kept 0 0 w w' := by
  obtain ⟨la, ha⟩ := bounds_i64 wf.a
  obtain ⟨lb, hb⟩ := bounds_i64 wf.b
  obtain ⟨k, z, a, b⟩ := x
  simp only at la ha lb hb
  clear wf
  cases P : (Pl.okv z a && Pl.okv z b)
  · go_enter Try.func84, Try.ntmps84
    go_wp2_with (go_at_call 128; refine st (signedPair z a b _ la ha lb hb) ?_; rw [P])
    go_ret
    exact ⟨rB (by simp only [Pl.foOk]; rw [P]; rfl), kept_alloc _ _⟩
  · by_cases h1 : 1 ≤ k
    · by_cases h5 : k ≤ 5
      · cases T : (Pl.sumK k || (k == 3))
        · have h3 : ¬ k ≤ 3 := by simp [Pl.sumK] at T; omega
          have E : Hid (Pl.foOk ⟨k, z, a, b⟩ = (b == 0)) := hide (by simp only [Pl.foOk]; rw [P, decide_eq_true h1, decide_eq_true h5, decide_eq_false h3]; simp)
          go_enter Try.func84, Try.ntmps84
          go_wp2_with (first | (go_at_call 128; refine st (signedPair z a b _ la ha lb hb) ?_; rw [P]) | (go_at_call 129; refine st (implTakesB k _) ?_; rw [T]))
          go_ret
          exact ⟨rB E.out.symm, kept_alloc _ _⟩
        · have h3 : k ≤ 3 := by simp [Pl.sumK] at T; omega
          have E : Hid (Pl.foOk ⟨k, z, a, b⟩ = true) := hide (by simp only [Pl.foOk]; rw [P, decide_eq_true h1, decide_eq_true h5, decide_eq_true h3]; simp)
          go_enter Try.func84, Try.ntmps84
          go_wp2_with (first | (go_at_call 128; refine st (signedPair z a b _ la ha lb hb) ?_; rw [P]) | (go_at_call 129; refine st (implTakesB k _) ?_; rw [T]))
          go_ret
          exact ⟨rB E.out.symm, kept_alloc _ _⟩
      · have E : Hid (Pl.foOk ⟨k, z, a, b⟩ = false) := hide (by simp only [Pl.foOk]; rw [decide_eq_false h5]; simp)
        go_enter Try.func84, Try.ntmps84
        go_wp2_with (go_at_call 128; refine st (signedPair z a b _ la ha lb hb) ?_; rw [P])
        go_ret
        exact ⟨rB E.out.symm, kept_alloc _ _⟩
    · have E : Hid (Pl.foOk ⟨k, z, a, b⟩ = false) := hide (by simp only [Pl.foOk]; rw [decide_eq_false h1]; simp)
      go_enter Try.func84, Try.ntmps84
      go_wp2_with (go_at_call 128; refine st (signedPair z a b _ la ha lb hb) ?_; rw [P])
      go_ret
      exact ⟨rB E.out.symm, kept_alloc _ _⟩
set_option maxRecDepth 100000 in
set_option maxHeartbeats 4000000 in
theorem implGoodLazy (w : World) (z : Pl.Lz) (wf : LzW z) : Calls Try.prog 39 #[.agg (lzA z)] w fun e w' => e = .returned (.bool (Pl.lzOk z)) ∧ Kept 0 0 w w' := by
  have he := eqFo z.r z.l
  have K0 := hide (kept_alloc w (.cells (lzA z) 49))
  have B0 := hide (Blk.new w (lzA z) 49)
  have q := B0.out.all
  cases F : Pl.flags z.b
  · go_enter Try.func39, Try.ntmps39
    go_wp2_with (first | (go_at_call 82; refine st (isFlags _ _) ?_; rw [F]) | (go_at_call 83; (first | (with_reducible refine (implNone _ z.l).mono ?_; rw [NL]) | (with_reducible refine (implNone _ z.r).mono ?_; rw [NR])); rintro e9 w9 ⟨rfl, k9⟩; replace K0 := hide (K0.out.trans k9); replace B0 := hide (B0.out.kept0 k9); clear q; have q := B0.out.all; clear k9) | (go_at_call 84; (first | (with_reducible refine (implFo _ z.l wf.l).mono ?_; rw [OL]) | (with_reducible refine (implFo _ z.r wf.r).mono ?_; rw [OR])); rintro e9 w9 ⟨rfl, k9⟩; replace K0 := hide (K0.out.trans k9); replace B0 := hide (B0.out.kept0 k9); clear q; have q := B0.out.all; clear k9) | (go_at_call 85; (first | (with_reducible refine st (implSum z.l.k _) ?_; rw [SL]) | (with_reducible refine st (implSum z.r.k _) ?_; rw [SR]))))
    go_ret
    exact ⟨rB (by simp [Pl.lzOk, F]), K0.out⟩
  · cases NL : Pl.foNone z.l
    · cases OL : Pl.foOk z.l
      · go_enter Try.func39, Try.ntmps39
        go_wp2_with (first | (go_at_call 82; refine st (isFlags _ _) ?_; rw [F]) | (go_at_call 83; (first | (with_reducible refine (implNone _ z.l).mono ?_; rw [NL]) | (with_reducible refine (implNone _ z.r).mono ?_; rw [NR])); rintro e9 w9 ⟨rfl, k9⟩; replace K0 := hide (K0.out.trans k9); replace B0 := hide (B0.out.kept0 k9); clear q; have q := B0.out.all; clear k9) | (go_at_call 84; (first | (with_reducible refine (implFo _ z.l wf.l).mono ?_; rw [OL]) | (with_reducible refine (implFo _ z.r wf.r).mono ?_; rw [OR])); rintro e9 w9 ⟨rfl, k9⟩; replace K0 := hide (K0.out.trans k9); replace B0 := hide (B0.out.kept0 k9); clear q; have q := B0.out.all; clear k9) | (go_at_call 85; (first | (with_reducible refine st (implSum z.l.k _) ?_; rw [SL]) | (with_reducible refine st (implSum z.r.k _) ?_; rw [SR]))))
        go_ret
        exact ⟨rB (by simp [Pl.lzOk, F, NL, OL]), K0.out⟩
      · cases SL : Pl.sumK z.l.k
        · cases NR : Pl.foNone z.r
          · cases SR : Pl.sumK z.r.k
            · go_enter Try.func39, Try.ntmps39
              go_wp2_with (first | (go_at_call 82; refine st (isFlags _ _) ?_; rw [F]) | (go_at_call 83; (first | (with_reducible refine (implNone _ z.l).mono ?_; rw [NL]) | (with_reducible refine (implNone _ z.r).mono ?_; rw [NR])); rintro e9 w9 ⟨rfl, k9⟩; replace K0 := hide (K0.out.trans k9); replace B0 := hide (B0.out.kept0 k9); clear q; have q := B0.out.all; clear k9) | (go_at_call 84; (first | (with_reducible refine (implFo _ z.l wf.l).mono ?_; rw [OL]) | (with_reducible refine (implFo _ z.r wf.r).mono ?_; rw [OR])); rintro e9 w9 ⟨rfl, k9⟩; replace K0 := hide (K0.out.trans k9); replace B0 := hide (B0.out.kept0 k9); clear q; have q := B0.out.all; clear k9) | (go_at_call 85; (first | (with_reducible refine st (implSum z.l.k _) ?_; rw [SL]) | (with_reducible refine st (implSum z.r.k _) ?_; rw [SR]))))
              go_ret
              exact ⟨rB (by simp [Pl.lzOk, F, NL, OL, SL, NR, SR]), K0.out⟩
            · cases OR : Pl.foOk z.r
              · go_enter Try.func39, Try.ntmps39
                go_wp2_with (first | (go_at_call 82; refine st (isFlags _ _) ?_; rw [F]) | (go_at_call 83; (first | (with_reducible refine (implNone _ z.l).mono ?_; rw [NL]) | (with_reducible refine (implNone _ z.r).mono ?_; rw [NR])); rintro e9 w9 ⟨rfl, k9⟩; replace K0 := hide (K0.out.trans k9); replace B0 := hide (B0.out.kept0 k9); clear q; have q := B0.out.all; clear k9) | (go_at_call 84; (first | (with_reducible refine (implFo _ z.l wf.l).mono ?_; rw [OL]) | (with_reducible refine (implFo _ z.r wf.r).mono ?_; rw [OR])); rintro e9 w9 ⟨rfl, k9⟩; replace K0 := hide (K0.out.trans k9); replace B0 := hide (B0.out.kept0 k9); clear q; have q := B0.out.all; clear k9) | (go_at_call 85; (first | (with_reducible refine st (implSum z.l.k _) ?_; rw [SL]) | (with_reducible refine st (implSum z.r.k _) ?_; rw [SR]))))
                go_ret
                exact ⟨rB (by simp [Pl.lzOk, F, NL, OL, SL, NR, SR, OR]), K0.out⟩
              · go_enter Try.func39, Try.ntmps39
                go_wp2_with (first | (go_at_call 82; refine st (isFlags _ _) ?_; rw [F]) | (go_at_call 83; (first | (with_reducible refine (implNone _ z.l).mono ?_; rw [NL]) | (with_reducible refine (implNone _ z.r).mono ?_; rw [NR])); rintro e9 w9 ⟨rfl, k9⟩; replace K0 := hide (K0.out.trans k9); replace B0 := hide (B0.out.kept0 k9); clear q; have q := B0.out.all; clear k9) | (go_at_call 84; (first | (with_reducible refine (implFo _ z.l wf.l).mono ?_; rw [OL]) | (with_reducible refine (implFo _ z.r wf.r).mono ?_; rw [OR])); rintro e9 w9 ⟨rfl, k9⟩; replace K0 := hide (K0.out.trans k9); replace B0 := hide (B0.out.kept0 k9); clear q; have q := B0.out.all; clear k9) | (go_at_call 85; (first | (with_reducible refine st (implSum z.l.k _) ?_; rw [SL]) | (with_reducible refine st (implSum z.r.k _) ?_; rw [SR]))))
                go_ret
                exact ⟨rB (by simp [Pl.lzOk, F, NL, OL, SL, NR, SR, OR]), K0.out⟩
          · go_enter Try.func39, Try.ntmps39
            go_wp2_with (first | (go_at_call 82; refine st (isFlags _ _) ?_; rw [F]) | (go_at_call 83; (first | (with_reducible refine (implNone _ z.l).mono ?_; rw [NL]) | (with_reducible refine (implNone _ z.r).mono ?_; rw [NR])); rintro e9 w9 ⟨rfl, k9⟩; replace K0 := hide (K0.out.trans k9); replace B0 := hide (B0.out.kept0 k9); clear q; have q := B0.out.all; clear k9) | (go_at_call 84; (first | (with_reducible refine (implFo _ z.l wf.l).mono ?_; rw [OL]) | (with_reducible refine (implFo _ z.r wf.r).mono ?_; rw [OR])); rintro e9 w9 ⟨rfl, k9⟩; replace K0 := hide (K0.out.trans k9); replace B0 := hide (B0.out.kept0 k9); clear q; have q := B0.out.all; clear k9) | (go_at_call 85; (first | (with_reducible refine st (implSum z.l.k _) ?_; rw [SL]) | (with_reducible refine st (implSum z.r.k _) ?_; rw [SR]))))
            go_ret
            exact ⟨rB (by simp [Pl.lzOk, F, NL, OL, SL, NR]), K0.out⟩
        · go_enter Try.func39, Try.ntmps39
          go_wp2_with (first | (go_at_call 82; refine st (isFlags _ _) ?_; rw [F]) | (go_at_call 83; (first | (with_reducible refine (implNone _ z.l).mono ?_; rw [NL]) | (with_reducible refine (implNone _ z.r).mono ?_; rw [NR])); rintro e9 w9 ⟨rfl, k9⟩; replace K0 := hide (K0.out.trans k9); replace B0 := hide (B0.out.kept0 k9); clear q; have q := B0.out.all; clear k9) | (go_at_call 84; (first | (with_reducible refine (implFo _ z.l wf.l).mono ?_; rw [OL]) | (with_reducible refine (implFo _ z.r wf.r).mono ?_; rw [OR])); rintro e9 w9 ⟨rfl, k9⟩; replace K0 := hide (K0.out.trans k9); replace B0 := hide (B0.out.kept0 k9); clear q; have q := B0.out.all; clear k9) | (go_at_call 85; (first | (with_reducible refine st (implSum z.l.k _) ?_; rw [SL]) | (with_reducible refine st (implSum z.r.k _) ?_; rw [SR]))))
          go_ret
          exact ⟨rB (by simp [Pl.lzOk, F, NL, OL, SL]), K0.out⟩
    · cases NR : Pl.foNone z.r
      · go_enter Try.func39, Try.ntmps39
        go_wp2_with (first | (go_at_call 82; refine st (isFlags _ _) ?_; rw [F]) | (go_at_call 83; (first | (with_reducible refine (implNone _ z.l).mono ?_; rw [NL]) | (with_reducible refine (implNone _ z.r).mono ?_; rw [NR])); rintro e9 w9 ⟨rfl, k9⟩; replace K0 := hide (K0.out.trans k9); replace B0 := hide (B0.out.kept0 k9); clear q; have q := B0.out.all; clear k9) | (go_at_call 84; (first | (with_reducible refine (implFo _ z.l wf.l).mono ?_; rw [OL]) | (with_reducible refine (implFo _ z.r wf.r).mono ?_; rw [OR])); rintro e9 w9 ⟨rfl, k9⟩; replace K0 := hide (K0.out.trans k9); replace B0 := hide (B0.out.kept0 k9); clear q; have q := B0.out.all; clear k9) | (go_at_call 85; (first | (with_reducible refine st (implSum z.l.k _) ?_; rw [SL]) | (with_reducible refine st (implSum z.r.k _) ?_; rw [SR]))))
        go_ret
        exact ⟨rB (by simp [Pl.lzOk, F, NL, NR]), K0.out⟩
      · go_enter Try.func39, Try.ntmps39
        go_wp2_with (first | (go_at_call 82; refine st (isFlags _ _) ?_; rw [F]) | (go_at_call 83; (first | (with_reducible refine (implNone _ z.l).mono ?_; rw [NL]) | (with_reducible refine (implNone _ z.r).mono ?_; rw [NR])); rintro e9 w9 ⟨rfl, k9⟩; replace K0 := hide (K0.out.trans k9); replace B0 := hide (B0.out.kept0 k9); clear q; have q := B0.out.all; clear k9) | (go_at_call 84; (first | (with_reducible refine (implFo _ z.l wf.l).mono ?_; rw [OL]) | (with_reducible refine (implFo _ z.r wf.r).mono ?_; rw [OR])); rintro e9 w9 ⟨rfl, k9⟩; replace K0 := hide (K0.out.trans k9); replace B0 := hide (B0.out.kept0 k9); clear q; have q := B0.out.all; clear k9) | (go_at_call 85; (first | (with_reducible refine st (implSum z.l.k _) ?_; rw [SL]) | (with_reducible refine st (implSum z.r.k _) ?_; rw [SR]))))
        go_ret
        exact ⟨rB (by simp [Pl.lzOk, F, NL, NR]), K0.out⟩
end Go.Proofs.Ytnmddmmmgdfknaa

namespace Go.Proofs.Ytnmddmmmgdfknaa
open Go.RowKit
set_option linter.unusedVariables false

/-- a number that an int holds -/
def W64 (n : Int) : Prop := -9223372036854775808 ≤ n ∧ n ≤ 9223372036854775807
end Go.Proofs.Ytnmddmmmgdfknaa

namespace Go.Proofs.Ytnmddmmmgdfknaa
open Go.RowKit
set_option linter.unusedVariables false
set_option linter.unusedSimpArgs false
theorem store_func (a : Addr) (fn : Fn) (m : Mode) (w : World) : (store a (.func fn #[] #[]) m).run Try.prog w = stored Try.prog w a (.func fn #[] #[]) m := run_store Try.prog w a _ m rfl
theorem undrew {B : Nat} {w wt : World} (h : Below B w.drew wt) : Below B w wt := ⟨h.os, h.tape, h.output, h.size, h.block⟩
/-- a row of bits, laid in block b -/
def Box (w : World) (b : Nat) (v s x f : Int) (t : Bool) : Prop := w.heap[b]? = some (.cells #[iv v, iv s, iv x, iv f, .bool t] 78)
theorem Box.later {w wt : World} {b : Nat} {v s x f : Int} {t : Bool} (h : Box w b v s x f t) (hb : Below w.heap.size w wt) : Box wt b v s x f t := by
  have lt : b < w.heap.size := by
    unfold Box at h
    rcases Nat.lt_or_ge b w.heap.size with h' | h'
    · exact h'
    · rw [Array.getElem?_eq_none h'] at h; cases h
  exact (hb.block b lt).trans h
theorem Box.cells {w : World} {b : Nat} {v s x f : Int} {t : Bool} (h : Box w b v s x f t) :
    w.cell? ⟨b, 0, none⟩ = some (iv v) ∧ w.cell? ⟨b, 1, none⟩ = some (iv s) ∧ w.cell? ⟨b, 2, none⟩ = some (iv x) ∧ w.cell? ⟨b, 3, none⟩ = some (iv f) ∧ w.cell? ⟨b, 4, none⟩ = some (.bool t) ∧
    w.frozen? ⟨b, 0, none⟩ = false ∧ w.frozen? ⟨b, 1, none⟩ = false ∧ w.frozen? ⟨b, 2, none⟩ = false ∧ w.frozen? ⟨b, 3, none⟩ = false ∧ w.frozen? ⟨b, 4, none⟩ = false := by
  unfold Box at h
  refine ⟨?_, ?_, ?_, ?_, ?_, ?_, ?_, ?_, ?_, ?_⟩ <;> simp [World.cell?, World.frozen?, h]
theorem results_box {fn : Func} {p : Tmp} (h : fn.results = #[.cell p 78]) (tmps : Array Value) {w : World} {b : Nat} {v s x f : Int} {t : Bool} (hp : tmps.getD p undef = .pointer (some ⟨b, 0, none⟩)) (hB : Box w b v s x f t) :
    (results fn tmps).run Try.prog w = .ok (.agg #[iv v, iv s, iv x, iv f, .bool t]) w :=
  results_cell_row h tmps w b _ _ _ _ hp hB (Try.underlying78) rfl (by kernel_rfl)
theorem Box.set {w : World} {b : Nat} {v s x f v' s' x' f' : Int} {t t' : Bool} (h : Box w b v s x f t) :
    Box (((((w.setCell ⟨b, 0, none⟩ (iv v')).setCell ⟨b, 1, none⟩ (iv s')).setCell ⟨b, 2, none⟩ (iv x')).setCell ⟨b, 3, none⟩ (iv f')).setCell ⟨b, 4, none⟩ (.bool t')) b v' s' x' f' t' := by
  unfold Box at h ⊢
  simp [World.setCell, Array.getElem?_modify, h]
theorem Box.new0 (w : World) (v s x f : Int) (t : Bool) : Box (w.alloc (.cells #[iv v, iv s, iv x, iv f, .bool t] 78)) w.heap.size v s x f t := heap_alloc_new w _
theorem Box.two {w : World} {b : Nat} {v s x f : Int} {t : Bool} (h : Box w b v s x f t) (o1 o2 : Obj) : Box ((w.alloc o1).alloc o2) b v s x f t :=
  h.later (((Below.refl _ w).alloc (Nat.le_refl _) o1).alloc (by simp) o2)
theorem Below.set5 {B : Nat} {a w : World} (h : Below B a w) {b : Nat} (hb : B ≤ b) (v0 v1 v2 v3 v4 : Value) :
    Below B a (((((w.setCell ⟨b, 0, none⟩ v0).setCell ⟨b, 1, none⟩ v1).setCell ⟨b, 2, none⟩ v2).setCell ⟨b, 3, none⟩ v3).setCell ⟨b, 4, none⟩ v4) :=
  ((((h.setCell hb _).setCell hb _).setCell hb _).setCell hb _).setCell hb _
theorem Box.new1 (w : World) (v s x f : Int) (t : Bool) (o1 : Obj) (o2 : Obj) : Box (((w.alloc (.cells #[iv v, iv s, iv x, iv f, .bool t] 78)).alloc o1).alloc o2) w.heap.size v s x f t := by
  unfold Box
  rw [Below.heap_alloc _ _ _ (by simp <;> omega), Below.heap_alloc _ _ _ (by simp)]
  exact heap_alloc_new w _
theorem Box.new2 (w : World) (v s x f : Int) (t : Bool) (o1 : Obj) (o2 : Obj) : Box (((w.alloc o1).alloc (.cells #[iv v, iv s, iv x, iv f, .bool t] 78)).alloc o2) (w.heap.size + 1) v s x f t := by
  unfold Box
  rw [Below.heap_alloc _ _ _ (by simp)]
  exact heap_alloc2_new w _ _

end Go.Proofs.Ytnmddmmmgdfknaa

namespace Go.Proofs.Ytnmddmmmgdfknaa
open Go.RowKit
set_option linter.unusedVariables false

theorem rA {a b c d a' b' c' d' : Int} {t t' : Bool} (ha : a = a') (hb : b = b') (hc : c = c') (hd : d = d') (ht : t = t') : Ending.returned (.agg #[iv a, iv b, iv c, iv d, .bool t]) = .returned (.agg #[iv a', iv b', iv c', iv d', .bool t']) := by rw [ha, hb, hc, hd, ht]
theorem results_cell1 {fn : Func} {p : Tmp} {ty : TypeId} (h : fn.results = #[.cell p ty]) (tmps : Array Value) (P : Program) (w : World) :
    (results fn tmps).run P w = ((asAddr (tmps.getD p undef)).run P w).andThen fun a w₁ => (loadVar ty a).run P w₁ := by
  simp only [results, h]
  simp [Sem.run_bind, Result.andThen]
theorem Pl.or_low' {a q : Int} (h0 : 0 ≤ a) (h1 : a < 131072) (h2 : a % 2 = 0) (q0 : 0 ≤ q) (q1 : q ≤ 1) : bits .or .i64 a q = a + q :=
  bits_join .i64 62 (by decide) wraps_i64 1 a q (by omega) (by omega) (by omega) (by omega) (by omega) (by omega)
theorem lowest (v s x f : Int) (t : Bool) (w : World) :
    Calls Try.prog 137 #[.agg #[iv v, iv s, iv x, iv f, .bool t]] w fun e w' => e = .returned (iv (v % 2)) ∧ ∃ o, w' = w.alloc o := by
  have hA := Pl.and1 v
  go_enter Try.func137, Try.ntmps137
  go_wp2
  go_ret
  exact ⟨rfl, _, rfl⟩
theorem keepFallen (v s x f : Int) (t : Bool) (w : World) :
    Calls Try.prog 135 #[.agg #[iv v, iv s, iv x, iv f, .bool t]] w fun e w' => e = .returned (.agg #[iv v, iv s, iv f, iv f, .bool t]) ∧ ∃ o1 o2, w' = (w.alloc o1).alloc o2 := by
  go_enter Try.func135, Try.ntmps135
  go_wp2
  refine bodyPost_ret (v := .agg #[iv v, iv s, iv f, iv f, .bool t]) ?_ rfl ⟨rfl, _, _, rfl⟩
  rw [results_cell1 rfl]; go_simp
theorem highest1 (v x f : Int) (t : Bool) (w : World) (h0 : 0 ≤ v) (h1 : v < 256) :
    Calls Try.prog 106 #[.agg #[iv v, iv 8, iv x, iv f, .bool t]] w fun e w' => e = .returned (iv (Pl.hi 1 v)) ∧ ∃ o, w' = w.alloc o := by
  have E : Hid (v / 128 = Pl.hi 1 v) := hide (by simp [Pl.hi, Pl.top]; omega)
  go_enter Try.func106, Try.ntmps106
  go_wp2
  go_ret
  exact ⟨rI E.out, _, rfl⟩
theorem moveUp1 (v x f i : Int) (t : Bool) (w : World) (h0 : 0 ≤ v) (h1 : v < 256) (i0 : 0 ≤ i) (i1 : i ≤ 1) :
    Calls Try.prog 134 #[.agg #[iv v, iv 8, iv x, iv f, .bool t], iv i] w fun e w' => e = .returned (.agg #[iv (v * 2 % 256 + i), iv 8, iv x, iv (Pl.hi 1 v), .bool t]) ∧ ∃ o1 o2 o3, w' = (((w.alloc o1).alloc o2).alloc o3).drew := by
  have hO := Pl.or_low' (a := v * 2) (q := i) (by omega) (by omega) (by omega) i0 i1
  have hA := Pl.and255 (v * 2 + i)
  have hE : (v * 2 + i) % 256 = v * 2 % 256 + i := by omega
  go_enter Try.func134, Try.ntmps134
  go_wp2_with fail
  refine (highest1 v x f t _ h0 h1).mono ?_
  rintro e w' ⟨rfl, o, rfl⟩
  go_wp2_with fail
  go_region
  go_wp2_with fail
  refine bodyPost_ret (v := .agg #[iv (v * 2 % 256 + i), iv 8, iv x, iv (Pl.hi 1 v), .bool t]) ?_ rfl ⟨rfl, _, _, _, rfl⟩
  rw [results_cell1 rfl]; go_simp
theorem moveDown1 (v x f i : Int) (t : Bool) (w : World) (h0 : 0 ≤ v) (h1 : v < 256) (i0 : 0 ≤ i) (i1 : i ≤ 1) :
    Calls Try.prog 136 #[.agg #[iv v, iv 8, iv x, iv f, .bool t], iv i] w fun e w' => e = .returned (.agg #[iv (v / 2 + i * 128), iv 8, iv x, iv (v % 2), .bool t]) ∧ ∃ o1 o2 o3, w' = (((w.alloc o1).alloc o2).alloc o3).drew := by
  have hO := Pl.or_high1 (a := v / 2) (q := i) (by omega) (by omega) i0 i1
  go_enter Try.func136, Try.ntmps136
  go_wp2_with fail
  refine (lowest v 8 x f t _).mono ?_
  rintro e w' ⟨rfl, o, rfl⟩
  go_wp2_with fail
  go_region
  go_wp2_with fail
  refine bodyPost_ret (v := .agg #[iv (v / 2 + i * 128), iv 8, iv x, iv (v % 2), .bool t]) ?_ rfl ⟨rfl, _, _, _, rfl⟩
  rw [results_cell1 rfl]; go_simp
theorem highest2 (v x f : Int) (t : Bool) (w : World) (h0 : 0 ≤ v) (h1 : v < 65536) :
    Calls Try.prog 106 #[.agg #[iv v, iv 16, iv x, iv f, .bool t]] w fun e w' => e = .returned (iv (Pl.hi 2 v)) ∧ ∃ o, w' = w.alloc o := by
  have E : Hid (v / 32768 = Pl.hi 2 v) := hide (by simp [Pl.hi, Pl.top]; omega)
  go_enter Try.func106, Try.ntmps106
  go_wp2
  go_ret
  exact ⟨rI E.out, _, rfl⟩
theorem moveUp2 (v x f i : Int) (t : Bool) (w : World) (h0 : 0 ≤ v) (h1 : v < 65536) (i0 : 0 ≤ i) (i1 : i ≤ 1) :
    Calls Try.prog 134 #[.agg #[iv v, iv 16, iv x, iv f, .bool t], iv i] w fun e w' => e = .returned (.agg #[iv (v * 2 % 65536 + i), iv 16, iv x, iv (Pl.hi 2 v), .bool t]) ∧ ∃ o1 o2 o3, w' = (((w.alloc o1).alloc o2).alloc o3).drew := by
  have hO := Pl.or_low' (a := v * 2) (q := i) (by omega) (by omega) (by omega) i0 i1
  have hA := Pl.and65535 (v * 2 + i)
  have hE : (v * 2 + i) % 65536 = v * 2 % 65536 + i := by omega
  go_enter Try.func134, Try.ntmps134
  go_wp2_with fail
  refine (highest2 v x f t _ h0 h1).mono ?_
  rintro e w' ⟨rfl, o, rfl⟩
  go_wp2_with fail
  go_region
  go_wp2_with fail
  refine bodyPost_ret (v := .agg #[iv (v * 2 % 65536 + i), iv 16, iv x, iv (Pl.hi 2 v), .bool t]) ?_ rfl ⟨rfl, _, _, _, rfl⟩
  rw [results_cell1 rfl]; go_simp
theorem moveDown2 (v x f i : Int) (t : Bool) (w : World) (h0 : 0 ≤ v) (h1 : v < 65536) (i0 : 0 ≤ i) (i1 : i ≤ 1) :
    Calls Try.prog 136 #[.agg #[iv v, iv 16, iv x, iv f, .bool t], iv i] w fun e w' => e = .returned (.agg #[iv (v / 2 + i * 32768), iv 16, iv x, iv (v % 2), .bool t]) ∧ ∃ o1 o2 o3, w' = (((w.alloc o1).alloc o2).alloc o3).drew := by
  have hO := Pl.or_high2 (a := v / 2) (q := i) (by omega) (by omega) i0 i1
  go_enter Try.func136, Try.ntmps136
  go_wp2_with fail
  refine (lowest v 16 x f t _).mono ?_
  rintro e w' ⟨rfl, o, rfl⟩
  go_wp2_with fail
  go_region
  go_wp2_with fail
  refine bodyPost_ret (v := .agg #[iv (v / 2 + i * 32768), iv 16, iv x, iv (v % 2), .bool t]) ?_ rfl ⟨rfl, _, _, _, rfl⟩
  rw [results_cell1 rfl]; go_simp
end Go.Proofs.Ytnmddmmmgdfknaa

