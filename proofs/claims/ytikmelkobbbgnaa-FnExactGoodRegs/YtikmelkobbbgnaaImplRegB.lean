/- What the program's GoodRegs answers, for all registers. -/
import Derived.Test.YtikmelkobbbgnaaImplRegA
namespace Go.Proofs.Ytikmelkobbbgnaa
open Go.RowKit
set_option linter.unusedVariables false
set_option maxHeartbeats 4000000 in
theorem implGoodRegs (w : World) (d : Pl.Rg) (a b : Option Addr) (ca cb : Nat) (ha : Came w a d.xs) (hb : Came w b d.ys) (lx : d.xs.length ≤ 2000000) (ly : d.ys.length ≤ 2000000) (wfd : Pl.WfR d) :
    Calls Try.prog 19 #[.agg #[.slice a d.xs.length ca, .slice b d.ys.length cb, .int .i64 d.o, .int .i64 d.p, .int .i64 d.f, .int .i64 d.m, .bool d.s, .bool d.t]] w fun e w' => e = .returned (.bool (Pl.rgOk d)) ∧ Kept 0 0 w w' := by
  have HA := hide ha
  have HB := hide hb
  have HK := hide (kept_alloc w (.cells #[.slice a d.xs.length ca, .slice b d.ys.length cb, .int .i64 d.o, .int .i64 d.p, .int .i64 d.f, .int .i64 d.m, .bool d.s, .bool d.t] 24))
  clear ha hb
  have G : Hid (Pl.rgOk d = ((d.xs.all Pl.wordOk && decide ((d.xs.length : Int) = 4)) && ((d.ys.all Pl.wordOk && decide ((d.ys.length : Int) = 4)) && (Pl.wordOk d.o && (Pl.wordOk d.p && (Pl.within d.f 0 31 && (decide (0 ≤ d.m) && decide (d.m ≤ 7)))))))) := hide rfl
  cases l1 : ((d.xs.length : Int) == 4)
  · have q1 : decide ((d.xs.length : Int) = 4) = false := by simpa using l1
    go_enter Try.func19, Try.ntmps19
    go_wp2
    go_ret
    exact ⟨rB (by rw [G.out, q1]; simp), HK.out⟩
  · have q1 : decide ((d.xs.length : Int) = 4) = true := by simpa using l1
    cases h2 : d.xs.all Pl.wordOk
    · have qh2 : True := trivial
      go_enter Try.func19, Try.ntmps19
      go_wp2_with (first | (go_at_call 43; refine (areWords _ a ca d.xs (HA.out.keptS HK.out) lx).mono ?_; rintro e w' ⟨rfl, hw⟩; have hw2 := hw.symm; clear hw; subst hw2; rw [h2]; have Z1 : True := trivial))
      go_ret
      exact ⟨rB (by rw [G.out, q1, h2]; simp), HK.out⟩
    · have qh2 : True := trivial
      cases l3 : ((d.ys.length : Int) == 4)
      · have q3 : decide ((d.ys.length : Int) = 4) = false := by simpa using l3
        go_enter Try.func19, Try.ntmps19
        go_wp2_with (first | (go_at_call 43; refine (areWords _ a ca d.xs (HA.out.keptS HK.out) lx).mono ?_; rintro e w' ⟨rfl, hw⟩; have hw2 := hw.symm; clear hw; subst hw2; rw [h2]; have Z1 : True := trivial))
        go_ret
        exact ⟨rB (by rw [G.out, q1, h2, q3]; simp), HK.out⟩
      · have q3 : decide ((d.ys.length : Int) = 4) = true := by simpa using l3
        cases h4 : d.ys.all Pl.wordOk
        · have qh4 : True := trivial
          go_enter Try.func19, Try.ntmps19
          go_wp2_with (first | (go_at_call 43; have z := Z1; refine (areWords _ b cb d.ys (HB.out.keptS HK.out) ly).mono ?_; rintro e w' ⟨rfl, hw⟩; have hw2 := hw.symm; clear hw; subst hw2; rw [h4]) | (go_at_call 43; refine (areWords _ a ca d.xs (HA.out.keptS HK.out) lx).mono ?_; rintro e w' ⟨rfl, hw⟩; have hw2 := hw.symm; clear hw; subst hw2; rw [h2]; have Z1 : True := trivial))
          go_ret
          exact ⟨rB (by rw [G.out, q1, h2, q3, h4]; simp), HK.out⟩
        · have qh4 : True := trivial
          cases h5 : Pl.wordOk d.o
          · have qh5 : True := trivial
            go_enter Try.func19, Try.ntmps19
            go_wp2_with (first | (go_at_call 43; have z := Z1; refine (areWords _ b cb d.ys (HB.out.keptS HK.out) ly).mono ?_; rintro e w' ⟨rfl, hw⟩; have hw2 := hw.symm; clear hw; subst hw2; rw [h4]) | (go_at_call 43; refine (areWords _ a ca d.xs (HA.out.keptS HK.out) lx).mono ?_; rintro e w' ⟨rfl, hw⟩; have hw2 := hw.symm; clear hw; subst hw2; rw [h2]; have Z1 : True := trivial) | (go_at_call 44; refine (isWord d.o _ (wfB wfd.o).1 (wfB wfd.o).2).mono ?_; rintro e w' ⟨rfl, hw⟩; have hw2 := hw.symm; clear hw; subst hw2; rw [h5]; have Z3 : True := trivial))
            go_ret
            exact ⟨rB (by rw [G.out, q1, h2, q3, h4, h5]; simp), HK.out⟩
          · have qh5 : True := trivial
            cases h6 : Pl.wordOk d.p
            · have qh6 : True := trivial
              go_enter Try.func19, Try.ntmps19
              go_wp2_with (first | (go_at_call 43; have z := Z1; refine (areWords _ b cb d.ys (HB.out.keptS HK.out) ly).mono ?_; rintro e w' ⟨rfl, hw⟩; have hw2 := hw.symm; clear hw; subst hw2; rw [h4]) | (go_at_call 43; refine (areWords _ a ca d.xs (HA.out.keptS HK.out) lx).mono ?_; rintro e w' ⟨rfl, hw⟩; have hw2 := hw.symm; clear hw; subst hw2; rw [h2]; have Z1 : True := trivial) | (go_at_call 44; have z := Z3; refine (isWord d.p _ (wfB wfd.p).1 (wfB wfd.p).2).mono ?_; rintro e w' ⟨rfl, hw⟩; have hw2 := hw.symm; clear hw; subst hw2; rw [h6]) | (go_at_call 44; refine (isWord d.o _ (wfB wfd.o).1 (wfB wfd.o).2).mono ?_; rintro e w' ⟨rfl, hw⟩; have hw2 := hw.symm; clear hw; subst hw2; rw [h5]; have Z3 : True := trivial))
              go_ret
              exact ⟨rB (by rw [G.out, q1, h2, q3, h4, h5, h6]; simp), HK.out⟩
            · have qh6 : True := trivial
              cases h7 : Pl.within d.f 0 31
              · have qh7 : True := trivial
                go_enter Try.func19, Try.ntmps19
                go_wp2_with (first | (go_at_call 43; have z := Z1; refine (areWords _ b cb d.ys (HB.out.keptS HK.out) ly).mono ?_; rintro e w' ⟨rfl, hw⟩; have hw2 := hw.symm; clear hw; subst hw2; rw [h4]) | (go_at_call 43; refine (areWords _ a ca d.xs (HA.out.keptS HK.out) lx).mono ?_; rintro e w' ⟨rfl, hw⟩; have hw2 := hw.symm; clear hw; subst hw2; rw [h2]; have Z1 : True := trivial) | (go_at_call 44; have z := Z3; refine (isWord d.p _ (wfB wfd.p).1 (wfB wfd.p).2).mono ?_; rintro e w' ⟨rfl, hw⟩; have hw2 := hw.symm; clear hw; subst hw2; rw [h6]) | (go_at_call 44; refine (isWord d.o _ (wfB wfd.o).1 (wfB wfd.o).2).mono ?_; rintro e w' ⟨rfl, hw⟩; have hw2 := hw.symm; clear hw; subst hw2; rw [h5]; have Z3 : True := trivial) | (go_at_call 45; refine (isFlags6 d.f _).mono ?_; rintro e w' ⟨rfl, hw⟩; have hw2 := hw.symm; clear hw; subst hw2; rw [h7]))
                go_ret
                exact ⟨rB (by rw [G.out, q1, h2, q3, h4, h5, h6, h7]; simp), HK.out⟩
              · have qh7 : True := trivial
                cases h8 : decide (0 ≤ d.m)
                · have qh8 : True := trivial
                  go_enter Try.func19, Try.ntmps19
                  go_wp2_with (first | (go_at_call 43; have z := Z1; refine (areWords _ b cb d.ys (HB.out.keptS HK.out) ly).mono ?_; rintro e w' ⟨rfl, hw⟩; have hw2 := hw.symm; clear hw; subst hw2; rw [h4]) | (go_at_call 43; refine (areWords _ a ca d.xs (HA.out.keptS HK.out) lx).mono ?_; rintro e w' ⟨rfl, hw⟩; have hw2 := hw.symm; clear hw; subst hw2; rw [h2]; have Z1 : True := trivial) | (go_at_call 44; have z := Z3; refine (isWord d.p _ (wfB wfd.p).1 (wfB wfd.p).2).mono ?_; rintro e w' ⟨rfl, hw⟩; have hw2 := hw.symm; clear hw; subst hw2; rw [h6]) | (go_at_call 44; refine (isWord d.o _ (wfB wfd.o).1 (wfB wfd.o).2).mono ?_; rintro e w' ⟨rfl, hw⟩; have hw2 := hw.symm; clear hw; subst hw2; rw [h5]; have Z3 : True := trivial) | (go_at_call 45; refine (isFlags6 d.f _).mono ?_; rintro e w' ⟨rfl, hw⟩; have hw2 := hw.symm; clear hw; subst hw2; rw [h7]))
                  go_ret
                  exact ⟨rB (by rw [G.out, q1, h2, q3, h4, h5, h6, h7, h8]; simp), HK.out⟩
                · have qh8 : True := trivial
                  cases h9 : decide (d.m ≤ 7)
                  · have qh9 : True := trivial
                    go_enter Try.func19, Try.ntmps19
                    go_wp2_with (first | (go_at_call 43; have z := Z1; refine (areWords _ b cb d.ys (HB.out.keptS HK.out) ly).mono ?_; rintro e w' ⟨rfl, hw⟩; have hw2 := hw.symm; clear hw; subst hw2; rw [h4]) | (go_at_call 43; refine (areWords _ a ca d.xs (HA.out.keptS HK.out) lx).mono ?_; rintro e w' ⟨rfl, hw⟩; have hw2 := hw.symm; clear hw; subst hw2; rw [h2]; have Z1 : True := trivial) | (go_at_call 44; have z := Z3; refine (isWord d.p _ (wfB wfd.p).1 (wfB wfd.p).2).mono ?_; rintro e w' ⟨rfl, hw⟩; have hw2 := hw.symm; clear hw; subst hw2; rw [h6]) | (go_at_call 44; refine (isWord d.o _ (wfB wfd.o).1 (wfB wfd.o).2).mono ?_; rintro e w' ⟨rfl, hw⟩; have hw2 := hw.symm; clear hw; subst hw2; rw [h5]; have Z3 : True := trivial) | (go_at_call 45; refine (isFlags6 d.f _).mono ?_; rintro e w' ⟨rfl, hw⟩; have hw2 := hw.symm; clear hw; subst hw2; rw [h7]))
                    go_ret
                    exact ⟨rB (by rw [G.out, q1, h2, q3, h4, h5, h6, h7, h8, h9]; simp), HK.out⟩
                  · have qh9 : True := trivial
                    go_enter Try.func19, Try.ntmps19
                    go_wp2_with (first | (go_at_call 43; have z := Z1; refine (areWords _ b cb d.ys (HB.out.keptS HK.out) ly).mono ?_; rintro e w' ⟨rfl, hw⟩; have hw2 := hw.symm; clear hw; subst hw2; rw [h4]) | (go_at_call 43; refine (areWords _ a ca d.xs (HA.out.keptS HK.out) lx).mono ?_; rintro e w' ⟨rfl, hw⟩; have hw2 := hw.symm; clear hw; subst hw2; rw [h2]; have Z1 : True := trivial) | (go_at_call 44; have z := Z3; refine (isWord d.p _ (wfB wfd.p).1 (wfB wfd.p).2).mono ?_; rintro e w' ⟨rfl, hw⟩; have hw2 := hw.symm; clear hw; subst hw2; rw [h6]) | (go_at_call 44; refine (isWord d.o _ (wfB wfd.o).1 (wfB wfd.o).2).mono ?_; rintro e w' ⟨rfl, hw⟩; have hw2 := hw.symm; clear hw; subst hw2; rw [h5]; have Z3 : True := trivial) | (go_at_call 45; refine (isFlags6 d.f _).mono ?_; rintro e w' ⟨rfl, hw⟩; have hw2 := hw.symm; clear hw; subst hw2; rw [h7]))
                    go_ret
                    exact ⟨rB (by rw [G.out, q1, h2, q3, h4, h5, h6, h7, h8, h9]; simp), HK.out⟩
end Go.Proofs.Ytikmelkobbbgnaa
