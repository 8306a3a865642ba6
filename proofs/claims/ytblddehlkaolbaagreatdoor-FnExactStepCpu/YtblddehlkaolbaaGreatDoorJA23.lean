/- What the model's StepsCpu answers, for every processor and number. How long the lists of a processor that is answered are. Registers whose numbers are ints. What the program's tests of words, sizes and register numbers answer; none changes the world. What the program's wrapWord answers. What the program's small functions of chapter 6 answer: tests of numbers and registers; no old block is changed. What the program's GoodRegs answers, for all registers. The program's registers as one value (fourteen cells): how they are laid out and read. The program's processor that is worked on, as it lies in memory: one block (fourteen cells of registers, the bytes, the log, two more), and the log's own. What the program does to registers within a processor that is worked on: a number put into one, a new status. -/
import Derived.Test.YtblddehlkaolbaaGreatDoorJA22
import Derived.Test.YtblddehlkaolbaaGreatDoorJA3
import Derived.Test.YtblddehlkaolbaaGreatDoorJA2
import Derived.Test.YtblddehlkaolbaaGreatDoorJA7
import Derived.Test.YtblddehlkaolbaaGreatDoorJA1
import Derived.Test.YtblddehlkaolbaaGreatDoorJA4
import Derived.Laws.CopyOwn
import Derived.Laws.Rows
import Derived.Laws.Tables
namespace Go.Proofs.YtblddehlkaolbaaGreatDoor
open Go.RowKit
set_option linter.unusedVariables false
theorem Pl.all_word {xs : List Int} (h : ∀ i, i < xs.length → 0 ≤ el xs i ∧ el xs i ≤ 65535) : xs.all Pl.wordOk = true := by
  rw [List.all_eq_true]
  intro x hx
  obtain ⟨i, hi, rfl⟩ := List.getElem_of_mem hx
  have := h i hi
  simp [el, List.getElem?_eq_getElem hi] at this
  simp [Pl.wordOk, Pl.within]
  omega
theorem Pl.rgOk_of {r : Pl.Rg} (g : Pl.Good r) (p0 : 0 ≤ r.p) (p1 : r.p ≤ 65535) : Pl.rgOk r = true := by
  have a1 := Pl.all_word (xs := r.xs) (fun i hi => g.dw i (by have := g.d4; omega))
  have a2 := Pl.all_word (xs := r.ys) (fun i hi => g.aw i (by have := g.a4; omega))
  have h1 := g.d4; have h2 := g.a4; have h3 := g.o0; have h4 := g.o1; have h5 := g.f0; have h6 := g.f1; have h7 := g.m0; have h8 := g.m1
  simp only [Pl.rgOk, Pl.fourOk, a1, a2, Pl.wordOk, Pl.within, Bool.true_and, Bool.and_eq_true, decide_eq_true_eq]
  omega
theorem Pl.step_good {c : Pl.Cp} (h : Pl.cpOk c = true) (hl : c.bl.length = 5 * c.bm) : Pl.cpOk (Pl.stepC c) = true ∧ (Pl.stepC c).bl.length = 5 * (Pl.stepC c).bm := by
  have g := Pl.GM.of h hl c.st
  have gs := Pl.GM.step h hl
  have hb : ∀ (r : Pl.Rg) (st : Bool), Pl.rgOk r = true → Pl.cpOk ⟨r, (Pl.stepM c).bx, (Pl.stepM c).bl, (Pl.stepM c).bm, st, false⟩ = true := by
    intro r st hr
    simp [Pl.cpOk, hr, Pl.goodBus, gs.ac, gs.bx, gs.ok, gs.bm]
  unfold Pl.stepC
  cases (Pl.stepM c).fine
  · exact ⟨hb _ _ (Pl.rgOk_of g.g g.p0 g.p1), gs.bl⟩
  · exact ⟨hb _ _ (Pl.rgOk_of gs.g gs.p0 gs.p1), gs.bl⟩
end Go.Proofs.YtblddehlkaolbaaGreatDoor

namespace Go.Proofs.YtblddehlkaolbaaGreatDoor
open Go.RowKit
set_option linter.unusedVariables false
namespace Pl
structure CpLen (c : Cp) : Prop where
  d : c.r.xs.length ≤ 4
  a : c.r.ys.length ≤ 4
  b : c.bx.length ≤ 512
  l : c.bl.length = 5 * c.bm
  m : c.bm ≤ 400
theorem cpLen_no : CpLen cpNo := ⟨by decide, by decide, by decide, by decide, by decide⟩
theorem cpLen_of {c : Cp} (h : cpOk c = true) (hl : c.bl.length = 5 * c.bm) : CpLen c := by
  have g := GM.of h hl c.st
  exact ⟨by have := g.g.d4; simp only at this; omega, by have := g.g.a4; simp only at this; omega, by have := g.bx; simp only at this; omega, hl, g.bm⟩
theorem sc_len (c : Cp) (hl : c.bl.length = 5 * c.bm) : CpLen (scC c) := by
  unfold scC
  cases h : scOk c
  · exact cpLen_no
  · have h1 : cpOk c = true := by unfold scOk at h; cases q : cpOk c <;> simp_all
    obtain ⟨g1, g2⟩ := step_good h1 hl
    exact cpLen_of g1 g2
end Pl
theorem CpuIn.sl {w : World} {base : Nat} {c : Pl.Cp} {a b e q : Option Addr} (h : CpuIn w base c a b e q) : CpSl w base w.heap.size c a b e q :=
  ⟨h.d, h.a', h.b', h.l, h.n1, h.n2, h.n3, h.n4, h.n5, h.n6⟩
end Go.Proofs.YtblddehlkaolbaaGreatDoor

namespace Go.Proofs.YtblddehlkaolbaaGreatDoor
open Go.RowKit
/-- the numbers of registers that came in are ints -/
structure Pl.WfR (d : Pl.Rg) : Prop where
  o : (Lit.int .i64 d.o).wf = true
  p : (Lit.int .i64 d.p).wf = true
  f : (Lit.int .i64 d.f).wf = true
  m : (Lit.int .i64 d.m).wf = true
end Go.Proofs.YtblddehlkaolbaaGreatDoor

namespace Go.Proofs.YtblddehlkaolbaaGreatDoor
open Go.RowKit
set_option linter.unusedVariables false
theorem wfB {v : Int} (h : (Lit.int .i64 v).wf = true) : -9223372036854775808 ≤ v ∧ v ≤ 9223372036854775807 := bounds_i64 h
theorem okv2 (v : Int) : Pl.okv 2 v = Pl.wordOk v := by
  unfold Pl.okv Pl.wordOk Pl.within Pl.top
  rw [Bool.eq_iff_iff]; simp; omega
theorem isWord (v : Int) (w : World) (lo : -9223372036854775808 ≤ v) (hi : v ≤ 9223372036854775807) :
    Calls Tryz.prog 89 #[.int .i64 v] w fun e w' => e = .returned (.bool (Pl.wordOk v)) ∧ w' = w := by
  go_enter Tryz.func89, Tryz.ntmps89
  go_wp2_with (go_at_call 133; refine (signedOf _ _ _ lo hi).mono ?_; rintro e w' ⟨rfl, hw⟩; have hw2 := hw.symm; clear hw; subst hw2; rw [okv2])
  go_ret
  exact ⟨rfl, rfl⟩
theorem isReg (k : Int) (w : World) : Calls Tryz.prog 196 #[.int .i64 k] w fun e w' => e = .returned (.bool (Pl.within k 0 3)) ∧ w' = w := by
  by_cases h0 : 0 ≤ k
  · by_cases h1 : k ≤ 3
    · go_enter Tryz.func196, Tryz.ntmps196
      go_wp2
      go_ret
      exact ⟨rB (by simp [Pl.within, h0, h1]), rfl⟩
    · go_enter Tryz.func196, Tryz.ntmps196
      go_wp2
      go_ret
      exact ⟨rB (by simp [Pl.within, h0]; omega), rfl⟩
  · go_enter Tryz.func196, Tryz.ntmps196
    go_wp2
    go_ret
    exact ⟨rB (by simp [Pl.within]; omega), rfl⟩
end Go.Proofs.YtblddehlkaolbaaGreatDoor

namespace Go.Proofs.YtblddehlkaolbaaGreatDoor
open Go.RowKit
set_option linter.unusedVariables false
theorem wrapWord (v : Int) (w : World) : Calls Tryz.prog 95 #[.int .i64 v] w fun e w' => e = .returned (.int .i64 (v % 65536)) ∧ w' = w := by
  have hW := IntKind.wrap_u16 v
  go_enter Tryz.func95, Tryz.ntmps95
  go_wp2
  go_ret
  exact ⟨rfl, rfl⟩
end Go.Proofs.YtblddehlkaolbaaGreatDoor

namespace Go.Proofs.YtblddehlkaolbaaGreatDoor
open Go.RowKit
set_option linter.unusedVariables false

theorem isFlags6 (k : Int) (w : World) : Calls Tryz.prog 90 #[.int .i64 k] w fun e w' => e = .returned (.bool (Pl.within k 0 31)) ∧ w' = w := by
  by_cases h0 : 0 ≤ k
  · by_cases h1 : k ≤ 31
    · go_enter Tryz.func90, Tryz.ntmps90
      go_wp2
      go_ret
      exact ⟨rB (by simp [Pl.within, h0, h1]), rfl⟩
    · go_enter Tryz.func90, Tryz.ntmps90
      go_wp2
      go_ret
      exact ⟨rB (by simp [Pl.within, h0]; omega), rfl⟩
  · go_enter Tryz.func90, Tryz.ntmps90
    go_wp2
    go_ret
    exact ⟨rB (by simp [Pl.within]; omega), rfl⟩
theorem areWords (w : World) (a : Option Addr) (ca : Nat) (xs : List Int) (ha : Came w a xs) (lx : xs.length ≤ 2000000) :
    Calls Tryz.prog 88 #[.slice a xs.length ca] w fun e w' => e = .returned (.bool (xs.all Pl.wordOk)) ∧ w' = w := by
  have HA := hide ha
  clear ha
  go_enter Tryz.func88, Tryz.ntmps88
  go_wp2
  go_loop [4, 7] (fun _ j => ∃ k : Nat, k ≤ xs.length ∧ j = .int .i64 k ∧ ∀ i, i < k → Pl.wordOk (el xs i) = true) (fun _ j => xs.length - (intOf j).toNat)
  case atStart => exact ⟨0, Nat.zero_le _, rfl, fun i hi => absurd hi (Nat.not_lt_zero i)⟩
  case round =>
    obtain ⟨k, hk, rfl, heq⟩ := hrel
    have HE := hide heq
    clear heq
    by_cases hlt : k < xs.length
    · obtain ⟨g1, o1, rfl, hc1⟩ := HA.out.1 k hlt
      obtain ⟨lo, hi⟩ := HA.out.2 k hlt
      rw [show xs[k]?.getD 0 = el xs k from rfl] at hc1 lo hi
      cases hb : Pl.wordOk (el xs k)
      · go_wp2_with (go_at_call 89; refine (isWord _ _ lo hi).mono ?_; rintro e w' ⟨rfl, rfl⟩; rw [hb])
        go_ret
        refine ⟨rB ?_, rfl⟩
        have hm : xs[k]'hlt ∈ xs := List.getElem_mem hlt
        have he : el xs k = xs[k]'hlt := by simp [el, List.getElem?_eq_getElem hlt]
        rw [he] at hb
        cases hq : xs.all Pl.wordOk
        · rfl
        · have := List.all_eq_true.1 hq _ hm
          rw [hb] at this; cases this
      · go_wp2_with (go_at_call 89; refine (isWord _ _ lo hi).mono ?_; rintro e w' ⟨rfl, rfl⟩; rw [hb])
        go_round
        case rel => exact ⟨k + 1, by omega, by go_num, snoc_all HE.out hb⟩
        case measure => simp [intOf]; omega
    · go_wp2
      go_ret
      refine ⟨rB ?_, rfl⟩
      symm
      rw [List.all_eq_true]
      intro x hx
      obtain ⟨i, hi, rfl⟩ := List.getElem_of_mem hx
      have := HE.out i (by omega)
      simpa [el, List.getElem?_eq_getElem hi] using this
theorem strideOf (z k : Int) (w : World) (hz : z = 1 ∨ z = 2) : Calls Tryz.prog 209 #[.int .i64 z, .int .i64 k] w fun e w' => e = .returned (.int .i64 (Pl.byN z k)) ∧ w' = w := by
  by_cases h : k = 3
  · subst h
    go_enter Tryz.func209, Tryz.ntmps209
    go_wp2
    go_ret
    exact ⟨rI (by simp [Pl.byN]), rfl⟩
  · go_enter Tryz.func209, Tryz.ntmps209
    go_wp2
    go_ret
    exact ⟨rI (by rcases hz with rfl | rfl <;> simp [Pl.byN, h]), rfl⟩
theorem flagsIf6 (b : Bool) (f : Int) (w : World) : Calls Tryz.prog 189 #[.bool b, .int .i64 f] w fun e w' => e = .returned (.int .i64 (Pl.fl1 b f)) ∧ w' = w := by
  cases b
  all_goals
    go_enter Tryz.func189, Tryz.ntmps189
    go_wp2
    go_ret
    exact ⟨rfl, rfl⟩
end Go.Proofs.YtblddehlkaolbaaGreatDoor

namespace Go.Proofs.YtblddehlkaolbaaGreatDoor
open Go.RowKit
set_option linter.unusedVariables false
set_option maxHeartbeats 4000000 in
theorem implGoodRegs (w : World) (d : Pl.Rg) (a b : Option Addr) (ca cb : Nat) (ha : Came w a d.xs) (hb : Came w b d.ys) (lx : d.xs.length ≤ 2000000) (ly : d.ys.length ≤ 2000000) (wfd : Pl.WfR d) :
    Calls Tryz.prog 48 #[.agg #[.slice a d.xs.length ca, .slice b d.ys.length cb, .int .i64 d.o, .int .i64 d.p, .int .i64 d.f, .int .i64 d.m, .bool d.s, .bool d.t]] w fun e w' => e = .returned (.bool (Pl.rgOk d)) ∧ Kept 0 0 w w' := by
  have HA := hide ha
  have HB := hide hb
  have HK := hide (kept_alloc w (.cells #[.slice a d.xs.length ca, .slice b d.ys.length cb, .int .i64 d.o, .int .i64 d.p, .int .i64 d.f, .int .i64 d.m, .bool d.s, .bool d.t] 31))
  clear ha hb
  have G : Hid (Pl.rgOk d = ((d.xs.all Pl.wordOk && decide ((d.xs.length : Int) = 4)) && ((d.ys.all Pl.wordOk && decide ((d.ys.length : Int) = 4)) && (Pl.wordOk d.o && (Pl.wordOk d.p && (Pl.within d.f 0 31 && (decide (0 ≤ d.m) && decide (d.m ≤ 7)))))))) := hide rfl
  cases l1 : ((d.xs.length : Int) == 4)
  · have q1 : decide ((d.xs.length : Int) = 4) = false := by simpa using l1
    go_enter Tryz.func48, Tryz.ntmps48
    go_wp2
    go_ret
    exact ⟨rB (by rw [G.out, q1]; simp), HK.out⟩
  · have q1 : decide ((d.xs.length : Int) = 4) = true := by simpa using l1
    cases h2 : d.xs.all Pl.wordOk
    · have qh2 : True := trivial
      go_enter Tryz.func48, Tryz.ntmps48
      go_wp2_with (first | (go_at_call 88; refine (areWords _ a ca d.xs (HA.out.keptS HK.out) lx).mono ?_; rintro e w' ⟨rfl, hw⟩; have hw2 := hw.symm; clear hw; subst hw2; rw [h2]; have Z1 : True := trivial))
      go_ret
      exact ⟨rB (by rw [G.out, q1, h2]; simp), HK.out⟩
    · have qh2 : True := trivial
      cases l3 : ((d.ys.length : Int) == 4)
      · have q3 : decide ((d.ys.length : Int) = 4) = false := by simpa using l3
        go_enter Tryz.func48, Tryz.ntmps48
        go_wp2_with (first | (go_at_call 88; refine (areWords _ a ca d.xs (HA.out.keptS HK.out) lx).mono ?_; rintro e w' ⟨rfl, hw⟩; have hw2 := hw.symm; clear hw; subst hw2; rw [h2]; have Z1 : True := trivial))
        go_ret
        exact ⟨rB (by rw [G.out, q1, h2, q3]; simp), HK.out⟩
      · have q3 : decide ((d.ys.length : Int) = 4) = true := by simpa using l3
        cases h4 : d.ys.all Pl.wordOk
        · have qh4 : True := trivial
          go_enter Tryz.func48, Tryz.ntmps48
          go_wp2_with (first | (go_at_call 88; have z := Z1; refine (areWords _ b cb d.ys (HB.out.keptS HK.out) ly).mono ?_; rintro e w' ⟨rfl, hw⟩; have hw2 := hw.symm; clear hw; subst hw2; rw [h4]) | (go_at_call 88; refine (areWords _ a ca d.xs (HA.out.keptS HK.out) lx).mono ?_; rintro e w' ⟨rfl, hw⟩; have hw2 := hw.symm; clear hw; subst hw2; rw [h2]; have Z1 : True := trivial))
          go_ret
          exact ⟨rB (by rw [G.out, q1, h2, q3, h4]; simp), HK.out⟩
        · have qh4 : True := trivial
          cases h5 : Pl.wordOk d.o
          · have qh5 : True := trivial
            go_enter Tryz.func48, Tryz.ntmps48
            go_wp2_with (first | (go_at_call 88; have z := Z1; refine (areWords _ b cb d.ys (HB.out.keptS HK.out) ly).mono ?_; rintro e w' ⟨rfl, hw⟩; have hw2 := hw.symm; clear hw; subst hw2; rw [h4]) | (go_at_call 88; refine (areWords _ a ca d.xs (HA.out.keptS HK.out) lx).mono ?_; rintro e w' ⟨rfl, hw⟩; have hw2 := hw.symm; clear hw; subst hw2; rw [h2]; have Z1 : True := trivial) | (go_at_call 89; refine (isWord d.o _ (wfB wfd.o).1 (wfB wfd.o).2).mono ?_; rintro e w' ⟨rfl, hw⟩; have hw2 := hw.symm; clear hw; subst hw2; rw [h5]; have Z3 : True := trivial))
            go_ret
            exact ⟨rB (by rw [G.out, q1, h2, q3, h4, h5]; simp), HK.out⟩
          · have qh5 : True := trivial
            cases h6 : Pl.wordOk d.p
            · have qh6 : True := trivial
              go_enter Tryz.func48, Tryz.ntmps48
              go_wp2_with (first | (go_at_call 88; have z := Z1; refine (areWords _ b cb d.ys (HB.out.keptS HK.out) ly).mono ?_; rintro e w' ⟨rfl, hw⟩; have hw2 := hw.symm; clear hw; subst hw2; rw [h4]) | (go_at_call 88; refine (areWords _ a ca d.xs (HA.out.keptS HK.out) lx).mono ?_; rintro e w' ⟨rfl, hw⟩; have hw2 := hw.symm; clear hw; subst hw2; rw [h2]; have Z1 : True := trivial) | (go_at_call 89; have z := Z3; refine (isWord d.p _ (wfB wfd.p).1 (wfB wfd.p).2).mono ?_; rintro e w' ⟨rfl, hw⟩; have hw2 := hw.symm; clear hw; subst hw2; rw [h6]) | (go_at_call 89; refine (isWord d.o _ (wfB wfd.o).1 (wfB wfd.o).2).mono ?_; rintro e w' ⟨rfl, hw⟩; have hw2 := hw.symm; clear hw; subst hw2; rw [h5]; have Z3 : True := trivial))
              go_ret
              exact ⟨rB (by rw [G.out, q1, h2, q3, h4, h5, h6]; simp), HK.out⟩
            · have qh6 : True := trivial
              cases h7 : Pl.within d.f 0 31
              · have qh7 : True := trivial
                go_enter Tryz.func48, Tryz.ntmps48
                go_wp2_with (first | (go_at_call 88; have z := Z1; refine (areWords _ b cb d.ys (HB.out.keptS HK.out) ly).mono ?_; rintro e w' ⟨rfl, hw⟩; have hw2 := hw.symm; clear hw; subst hw2; rw [h4]) | (go_at_call 88; refine (areWords _ a ca d.xs (HA.out.keptS HK.out) lx).mono ?_; rintro e w' ⟨rfl, hw⟩; have hw2 := hw.symm; clear hw; subst hw2; rw [h2]; have Z1 : True := trivial) | (go_at_call 89; have z := Z3; refine (isWord d.p _ (wfB wfd.p).1 (wfB wfd.p).2).mono ?_; rintro e w' ⟨rfl, hw⟩; have hw2 := hw.symm; clear hw; subst hw2; rw [h6]) | (go_at_call 89; refine (isWord d.o _ (wfB wfd.o).1 (wfB wfd.o).2).mono ?_; rintro e w' ⟨rfl, hw⟩; have hw2 := hw.symm; clear hw; subst hw2; rw [h5]; have Z3 : True := trivial) | (go_at_call 90; refine (isFlags6 d.f _).mono ?_; rintro e w' ⟨rfl, hw⟩; have hw2 := hw.symm; clear hw; subst hw2; rw [h7]))
                go_ret
                exact ⟨rB (by rw [G.out, q1, h2, q3, h4, h5, h6, h7]; simp), HK.out⟩
              · have qh7 : True := trivial
                cases h8 : decide (0 ≤ d.m)
                · have qh8 : True := trivial
                  go_enter Tryz.func48, Tryz.ntmps48
                  go_wp2_with (first | (go_at_call 88; have z := Z1; refine (areWords _ b cb d.ys (HB.out.keptS HK.out) ly).mono ?_; rintro e w' ⟨rfl, hw⟩; have hw2 := hw.symm; clear hw; subst hw2; rw [h4]) | (go_at_call 88; refine (areWords _ a ca d.xs (HA.out.keptS HK.out) lx).mono ?_; rintro e w' ⟨rfl, hw⟩; have hw2 := hw.symm; clear hw; subst hw2; rw [h2]; have Z1 : True := trivial) | (go_at_call 89; have z := Z3; refine (isWord d.p _ (wfB wfd.p).1 (wfB wfd.p).2).mono ?_; rintro e w' ⟨rfl, hw⟩; have hw2 := hw.symm; clear hw; subst hw2; rw [h6]) | (go_at_call 89; refine (isWord d.o _ (wfB wfd.o).1 (wfB wfd.o).2).mono ?_; rintro e w' ⟨rfl, hw⟩; have hw2 := hw.symm; clear hw; subst hw2; rw [h5]; have Z3 : True := trivial) | (go_at_call 90; refine (isFlags6 d.f _).mono ?_; rintro e w' ⟨rfl, hw⟩; have hw2 := hw.symm; clear hw; subst hw2; rw [h7]))
                  go_ret
                  exact ⟨rB (by rw [G.out, q1, h2, q3, h4, h5, h6, h7, h8]; simp), HK.out⟩
                · have qh8 : True := trivial
                  cases h9 : decide (d.m ≤ 7)
                  · have qh9 : True := trivial
                    go_enter Tryz.func48, Tryz.ntmps48
                    go_wp2_with (first | (go_at_call 88; have z := Z1; refine (areWords _ b cb d.ys (HB.out.keptS HK.out) ly).mono ?_; rintro e w' ⟨rfl, hw⟩; have hw2 := hw.symm; clear hw; subst hw2; rw [h4]) | (go_at_call 88; refine (areWords _ a ca d.xs (HA.out.keptS HK.out) lx).mono ?_; rintro e w' ⟨rfl, hw⟩; have hw2 := hw.symm; clear hw; subst hw2; rw [h2]; have Z1 : True := trivial) | (go_at_call 89; have z := Z3; refine (isWord d.p _ (wfB wfd.p).1 (wfB wfd.p).2).mono ?_; rintro e w' ⟨rfl, hw⟩; have hw2 := hw.symm; clear hw; subst hw2; rw [h6]) | (go_at_call 89; refine (isWord d.o _ (wfB wfd.o).1 (wfB wfd.o).2).mono ?_; rintro e w' ⟨rfl, hw⟩; have hw2 := hw.symm; clear hw; subst hw2; rw [h5]; have Z3 : True := trivial) | (go_at_call 90; refine (isFlags6 d.f _).mono ?_; rintro e w' ⟨rfl, hw⟩; have hw2 := hw.symm; clear hw; subst hw2; rw [h7]))
                    go_ret
                    exact ⟨rB (by rw [G.out, q1, h2, q3, h4, h5, h6, h7, h8, h9]; simp), HK.out⟩
                  · have qh9 : True := trivial
                    go_enter Tryz.func48, Tryz.ntmps48
                    go_wp2_with (first | (go_at_call 88; have z := Z1; refine (areWords _ b cb d.ys (HB.out.keptS HK.out) ly).mono ?_; rintro e w' ⟨rfl, hw⟩; have hw2 := hw.symm; clear hw; subst hw2; rw [h4]) | (go_at_call 88; refine (areWords _ a ca d.xs (HA.out.keptS HK.out) lx).mono ?_; rintro e w' ⟨rfl, hw⟩; have hw2 := hw.symm; clear hw; subst hw2; rw [h2]; have Z1 : True := trivial) | (go_at_call 89; have z := Z3; refine (isWord d.p _ (wfB wfd.p).1 (wfB wfd.p).2).mono ?_; rintro e w' ⟨rfl, hw⟩; have hw2 := hw.symm; clear hw; subst hw2; rw [h6]) | (go_at_call 89; refine (isWord d.o _ (wfB wfd.o).1 (wfB wfd.o).2).mono ?_; rintro e w' ⟨rfl, hw⟩; have hw2 := hw.symm; clear hw; subst hw2; rw [h5]; have Z3 : True := trivial) | (go_at_call 90; refine (isFlags6 d.f _).mono ?_; rintro e w' ⟨rfl, hw⟩; have hw2 := hw.symm; clear hw; subst hw2; rw [h7]))
                    go_ret
                    exact ⟨rB (by rw [G.out, q1, h2, q3, h4, h5, h6, h7, h8, h9]; simp), HK.out⟩
end Go.Proofs.YtblddehlkaolbaaGreatDoor

namespace Go.Proofs.YtblddehlkaolbaaGreatDoor
open Go.RowKit
set_option linter.unusedVariables false
/-- the fourteen cells of registers in one value -/
def bkR (r : Pl.Rg) : Array Value := #[.int .i64 (el r.xs 0), .int .i64 (el r.xs 1), .int .i64 (el r.xs 2), .int .i64 (el r.xs 3), .int .i64 (el r.ys 0), .int .i64 (el r.ys 1), .int .i64 (el r.ys 2), .int .i64 (el r.ys 3), .int .i64 r.o, .int .i64 r.p, .int .i64 r.f, .int .i64 r.m, .bool r.s, .bool r.t]
theorem bkR_one (r : Pl.Rg) : (bkR r).all (·.oneCell') = true := by simp [bkR, Value.oneCell']
theorem bkR_info (r : Pl.Rg) : (Tryz.prog.info? 89).map (·.size) = some (bkR r).size := by
  have : (Tryz.prog.info? 89).map (·.size) = some 14 := by kernel_rfl
  exact this
theorem list4 {xs : List Int} (h : xs.length = 4) : xs = [el xs 0, el xs 1, el xs 2, el xs 3] := by
  match xs, h with
  | [a, b, c, d], _ => rfl

theorem mk4 (w : World) : (Instr.makeSlice 22 (.int .i64 4) (.int .i64 4)).run Tryz.prog w = .ok (.slice (some ⟨w.heap.size, 0, none⟩) 4 4) (w.alloc (.cells #[.int .i64 0, .int .i64 0, .int .i64 0, .int .i64 0] 3)) := by kernel_rfl
theorem listOf4 (x0 x1 x2 x3 : Int) (w : World) :
    Calls Tryz.prog 102 #[.agg #[.int .i64 x0, .int .i64 x1, .int .i64 x2, .int .i64 x3]] w fun e w' => e = .returned (.slice (some ⟨w.heap.size + 1, 0, none⟩) 4 4) ∧ Blk w' (w.heap.size + 1) (cellsOf [x0, x1, x2, x3]) 3 ∧ Kept 0 0 w w' := by
  have B0 : Blk ((w.alloc (.cells #[.int .i64 x0, .int .i64 x1, .int .i64 x2, .int .i64 x3] 87)).alloc (.cells #[.int .i64 0, .int .i64 0, .int .i64 0, .int .i64 0] 3)) w.heap.size (cellsOf [x0, x1, x2, x3]) 87 := (Blk.new w #[.int .i64 x0, .int .i64 x1, .int .i64 x2, .int .i64 x3] 87).alloc _
  have B1 := Blk.new (w.alloc (.cells #[.int .i64 x0, .int .i64 x1, .int .i64 x2, .int .i64 x3] 87)) #[.int .i64 0, .int .i64 0, .int .i64 0, .int .i64 0] 3
  simp only [World.size_alloc] at B1
  obtain ⟨W1, hcopy, C1, k1⟩ := copy_at _ (w.heap.size + 1) 0 4 4 4 (some ⟨w.heap.size, 0, none⟩) [x0, x1, x2, x3] [.int .i64 0, .int .i64 0, .int .i64 0, .int .i64 0] 3 B1 (own_of_blk B0).row (by simp) (by simp)
  have hc : (Builtin.copy_ #[22, 22] 3 #[.slice (some ⟨w.heap.size + 1, 0, none⟩) 4 4, .slice (some ⟨w.heap.size, 0, none⟩) 4 4]).run Tryz.prog ((w.alloc (.cells #[.int .i64 x0, .int .i64 x1, .int .i64 x2, .int .i64 x3] 87)).alloc (.cells #[.int .i64 0, .int .i64 0, .int .i64 0, .int .i64 0] 3)) = .ok (.int .i64 4) W1 := hcopy
  have C := hide (show Blk W1 (w.heap.size + 1) (cellsOf [x0, x1, x2, x3]) 3 from C1)
  have K := hide (kept_over (kept_new (kept_alloc w _) _) k1 (by omega))
  clear B0 B1 hcopy C1 k1
  have mk := mk4
  go_enter Tryz.func102, Tryz.ntmps102
  go_wp2
  go_ret
  exact ⟨rfl, C.out, K.out⟩
theorem bankOf (w : World) (d : Pl.Rg) (a b : Option Addr) (ca cb : Nat) (ha : IRow w a d.xs) (hb : IRow w b d.ys) (lx : d.xs.length = 4) (ly : d.ys.length = 4) :
    Calls Tryz.prog 50 #[.agg #[.slice a d.xs.length ca, .slice b d.ys.length cb, .int .i64 d.o, .int .i64 d.p, .int .i64 d.f, .int .i64 d.m, .bool d.s, .bool d.t]] w fun e w' => e = .returned (.agg (bkR d)) ∧ Kept 0 0 w w' := by
  rw [lx, ly]
  obtain ⟨W0, h0⟩ : ∃ W : World, W = ((w.alloc (.cells #[.slice a 4 ca, .slice b 4 cb, .int .i64 d.o, .int .i64 d.p, .int .i64 d.f, .int .i64 d.m, .bool d.s, .bool d.t] 31)).alloc (.cells #[.int .i64 0, .int .i64 0, .int .i64 0, .int .i64 0, .int .i64 0, .int .i64 0, .int .i64 0, .int .i64 0, .int .i64 0, .int .i64 0, .int .i64 0, .int .i64 0, .bool false, .bool false] 89)).alloc (.cells #[.int .i64 0, .int .i64 0, .int .i64 0, .int .i64 0, .int .i64 0, .int .i64 0, .int .i64 0, .int .i64 0, .int .i64 d.o, .int .i64 d.p, .int .i64 d.f, .int .i64 d.m, .bool d.s, .bool d.t] 89) := ⟨_, rfl⟩
  have R0 : Blk W0 w.heap.size #[.slice a 4 ca, .slice b 4 cb, .int .i64 d.o, .int .i64 d.p, .int .i64 d.f, .int .i64 d.m, .bool d.s, .bool d.t] 31 := by rw [h0]; exact ((Blk.new w _ _).alloc _).alloc _
  have Z0 : Blk W0 (w.heap.size + 1) #[.int .i64 0, .int .i64 0, .int .i64 0, .int .i64 0, .int .i64 0, .int .i64 0, .int .i64 0, .int .i64 0, .int .i64 0, .int .i64 0, .int .i64 0, .int .i64 0, .bool false, .bool false] 89 := by
    rw [h0]
    have := Blk.new (w.alloc (.cells #[.slice a 4 ca, .slice b 4 cb, .int .i64 d.o, .int .i64 d.p, .int .i64 d.f, .int .i64 d.m, .bool d.s, .bool d.t] 31)) #[.int .i64 0, .int .i64 0, .int .i64 0, .int .i64 0, .int .i64 0, .int .i64 0, .int .i64 0, .int .i64 0, .int .i64 0, .int .i64 0, .int .i64 0, .int .i64 0, .bool false, .bool false] 89
    simp only [World.size_alloc] at this
    exact this.alloc _
  have B0 : Blk W0.drew (w.heap.size + 1 + 1) #[.int .i64 0, .int .i64 0, .int .i64 0, .int .i64 0, .int .i64 0, .int .i64 0, .int .i64 0, .int .i64 0, .int .i64 d.o, .int .i64 d.p, .int .i64 d.f, .int .i64 d.m, .bool d.s, .bool d.t] 89 := by
    rw [h0]
    have := Blk.new ((w.alloc (.cells #[.slice a 4 ca, .slice b 4 cb, .int .i64 d.o, .int .i64 d.p, .int .i64 d.f, .int .i64 d.m, .bool d.s, .bool d.t] 31)).alloc (.cells #[.int .i64 0, .int .i64 0, .int .i64 0, .int .i64 0, .int .i64 0, .int .i64 0, .int .i64 0, .int .i64 0, .int .i64 0, .int .i64 0, .int .i64 0, .int .i64 0, .bool false, .bool false] 89)) #[.int .i64 0, .int .i64 0, .int .i64 0, .int .i64 0, .int .i64 0, .int .i64 0, .int .i64 0, .int .i64 0, .int .i64 d.o, .int .i64 d.p, .int .i64 d.f, .int .i64 d.m, .bool d.s, .bool d.t] 89
    simp only [World.size_alloc] at this
    exact this
  have K0 : Kept 0 0 w W0.drew := by rw [h0]; exact kept_drew (kept_new (kept_new (kept_alloc w _) _) _)
  have r00 := R0.cell (i := 0) rfl
  have r01 := R0.cell (i := 1) rfl
  obtain ⟨W1, hc1, B1, k1⟩ := copy_at W0.drew (w.heap.size + 1 + 1) 0 4 4 ca a d.xs _ _ B0 (ha.keptS K0) (by omega) (by rw [lx]; simp)
  have K1 : Kept 0 0 w W1.drew := kept_drew (kept_over K0 k1 (by omega))
  have R1 : Blk W1 w.heap.size #[.slice a 4 ca, .slice b 4 cb, .int .i64 d.o, .int .i64 d.p, .int .i64 d.f, .int .i64 d.m, .bool d.s, .bool d.t] 31 := Blk.kept (show Blk W0.drew _ _ _ from R0) k1 (by omega)
  have r11 := R1.cell (i := 1) rfl
  obtain ⟨W2, hc2, B2, k2⟩ := copy_at W1.drew (w.heap.size + 1 + 1) 4 4 4 cb b d.ys _ _ (show Blk W1.drew _ _ _ from B1) (hb.keptS K1) (by omega) (by rw [ly, length_splice _ _ _ (by simp [lx])]; simp)
  have Z1 := Blk.kept (show Blk W0.drew _ _ _ from Z0) k1 (by omega)
  have Z2 := hide (Blk.kept (show Blk W1.drew _ _ _ from Z1) k2 (by omega))
  have K2 := hide (kept_over K1 k2 (by omega))
  rw [lx] at hc1
  rw [ly] at hc2
  have D2 : Hid (Blk W2 (w.heap.size + 1 + 1) (bkR d) 89) := hide (by
    rw [list4 lx, list4 ly] at B2
    exact B2)
  clear B0 B1 B2 k1 k2 K0 K1 R0 Z0 R1 Z1
  go_enter Tryz.func50, Tryz.ntmps50
  go_wp2_with fail
  rw [← h0]
  clear h0
  go_region
  go_wp2_with fail
  go_region
  go_wp2_with (first | (refine wpList_load_row rfl 89 (.tmp 3) rfl (w.heap.size + 1 + 1) rfl 89 (bkR d) (0, 0) _ D2.out Tryz.underlying89 rfl (bkR_info d) ?_) | (refine wpList_store_row rfl 89 (.tmp 2) (.tmp 27) rfl (w.heap.size + 1) (bkR d) rfl rfl 89 _ Z2.out (bkR_info d) rfl (bkR_one d) ?_))
  refine bodyPost_ret (v := .agg (bkR d)) ?_ rfl ⟨rfl, kept_setRow K2.out _ _ (by omega)⟩
  exact results_cell_row rfl _ _ _ _ _ (0, 0) _ rfl Z2.out.setRow Tryz.underlying89 rfl (bkR_info d)
theorem bkX {r : Pl.Rg} (h : r.xs.length = 4) {k : Nat} (hk : k < 4) (z : Int) : bkR { r with xs := r.xs.set k z } = (bkR r).setIfInBounds k (.int .i64 z) := by
  obtain ⟨xs, ys, o, p, f, m, s, t⟩ := r
  match xs, h with
  | [a, b, c, d], _ =>
    have : k = 0 ∨ k = 1 ∨ k = 2 ∨ k = 3 := by omega
    rcases this with rfl | rfl | rfl | rfl <;> rfl
theorem bkY {r : Pl.Rg} (h : r.ys.length = 4) {k : Nat} (hk : k < 4) (z : Int) : bkR { r with ys := r.ys.set k z } = (bkR r).setIfInBounds (4 + k) (.int .i64 z) := by
  obtain ⟨xs, ys, o, p, f, m, s, t⟩ := r
  match ys, h with
  | [a, b, c, d], _ =>
    have : k = 0 ∨ k = 1 ∨ k = 2 ∨ k = 3 := by omega
    rcases this with rfl | rfl | rfl | rfl <;> rfl
theorem andNat8 (x : Nat) : x &&& 18446744073709551360 = x / 256 % 72057594037927936 * 256 := by
  apply Nat.eq_of_testBit_eq
  intro i
  rw [Nat.testBit_and, show (18446744073709551360 : Nat) = (2 ^ 56 - 1) * 2 ^ 8 from by decide, Nat.testBit_mul_two_pow, Nat.testBit_two_pow_sub_one, show x / 256 % 72057594037927936 * 256 = x / 2 ^ 8 % 2 ^ 56 * 2 ^ 8 from rfl, Nat.testBit_mul_two_pow, Nat.testBit_mod_two_pow, Nat.testBit_div_two_pow]
  by_cases h : 8 ≤ i
  · have e : i - 8 + 8 = i := by omega
    simp [h, e, Bool.and_comm]
  · simp [h]
theorem andNot255 {x : Int} (h0 : 0 ≤ x) (h1 : x ≤ 65535) : bits .andNot .i64 x 255 = x / 256 * 256 := by
  show IntKind.i64.wrap ((BitVec.ofInt 64 x &&& ~~~ BitVec.ofInt 64 255).toNat : Int) = _
  rw [BitVec.toNat_and, BitVec.toNat_ofInt, show (~~~ BitVec.ofInt 64 255).toNat = 18446744073709551360 from by decide, andNat8, IntKind.wrap_i64]
  omega
theorem orComm (x y : Int) : bits .or .i64 x y = bits .or .i64 y x := by
  show IntKind.i64.wrap ((BitVec.ofInt 64 x ||| BitVec.ofInt 64 y).toNat : Int) = IntKind.i64.wrap ((BitVec.ofInt 64 y ||| BitVec.ofInt 64 x).toNat : Int)
  rw [BitVec.or_comm]
theorem and_not_255 {x v : Int} (h0 : 0 ≤ x) (h1 : x ≤ 65535) (v0 : 0 ≤ v) (v1 : v ≤ 255) : bits .or .i64 v (bits .andNot .i64 x 255) = x / 256 * 256 + v := by
  rw [andNot255 h0 h1, orComm]
  exact bits_join .i64 62 (by decide) Pl.wraps_i64 8 (x / 256 * 256) v (by omega) (by omega) (by omega) (by omega) (by omega) (by omega)
end Go.Proofs.YtblddehlkaolbaaGreatDoor

namespace Go.Proofs.YtblddehlkaolbaaGreatDoor
open Go.RowKit
set_option linter.unusedVariables false
def cor (r : Pl.Rg) (xs : List Int) (u : Value) (st ha : Bool) : Array Value := bkR r ++ (cellsOf xs ++ #[u, .bool st, .bool ha])
theorem set_left {A B : Array Value} {i : Nat} (h : i < A.size) (v : Value) : (A ++ B).setIfInBounds i v = A.setIfInBounds i v ++ B := by
  apply Array.ext_getElem?
  intro j
  simp only [Array.getElem?_setIfInBounds, Array.getElem?_append, Array.size_append, Array.size_setIfInBounds]
  by_cases e : i = j
  · subst e; simp [h]; omega
  · simp [e]
theorem set_right {A B : Array Value} (i : Nat) (v : Value) : (A ++ B).setIfInBounds (A.size + i) v = A ++ B.setIfInBounds i v := by
  apply Array.ext_getElem?
  intro j
  simp only [Array.getElem?_setIfInBounds, Array.getElem?_append, Array.size_append]
  by_cases e : A.size + i = j
  · subst e; simp; omega
  · by_cases h : j < A.size
    · simp [e, h]
    · simp [e, h, show ¬ i = j - A.size by omega]
theorem Since.mine {w a b : World} {lo hi x y g g' : Nat} (h : Since w lo hi g a g') (k : Kept x y a b) (hx : w.heap.size ≤ x) : Since w lo hi g b g' :=
  ⟨h.1, ⟨k.os.trans h.2.os, k.tape.trans h.2.tape, k.output.trans h.2.output, Nat.le_trans h.2.size k.size, fun i hi' hn => (k.block i (Nat.lt_of_lt_of_le hi' h.2.size) (by omega)).trans (h.2.block i hi' hn)⟩⟩
section
variable {r : Pl.Rg} {xs : List Int} {u : Value} {st ha : Bool}
theorem cor_size (hl : xs.length = 512) : (cor r xs u st ha).size = 529 := by
  have : (bkR r).size = 14 := rfl
  simp [cor, this, cellsOf_size, hl]
theorem cor_lo {i : Nat} (h : i < 14) : (cor r xs u st ha)[i]? = (bkR r)[i]? := Array.getElem?_append_left h
theorem cor_hi (i : Nat) : (cor r xs u st ha)[14 + i]? = (cellsOf xs ++ #[u, .bool st, .bool ha])[i]? := by
  have := Array.getElem?_append_right (xs := bkR r) (ys := cellsOf xs ++ #[u, .bool st, .bool ha]) (i := 14 + i) (Nat.le_add_right 14 i)
  rw [show 14 + i - (bkR r).size = i from Nat.add_sub_cancel_left 14 i] at this
  exact this
theorem cor_at {i : Nat} (hi : i < xs.length) : (cor r xs u st ha)[14 + i]? = some (.int .i64 (el xs i)) := by
  rw [cor_hi, Array.getElem?_append_left (by rw [cellsOf_size]; exact hi)]
  simp [cellsOf, el, hi]
theorem cor_up (hl : xs.length = 512) (i : Nat) : (cor r xs u st ha)[14 + (512 + i)]? = (#[u, .bool st, .bool ha] : Array Value)[i]? := by
  rw [cor_hi, Array.getElem?_append_right (by rw [cellsOf_size, hl]; omega), cellsOf_size, hl, Nat.add_sub_cancel_left]
theorem cor_log (hl : xs.length = 512) : (cor r xs u st ha)[526]? = some u := cor_up hl 0
theorem cor_st (hl : xs.length = 512) : (cor r xs u st ha)[527]? = some (.bool st) := cor_up hl 1
theorem cor_ha (hl : xs.length = 512) : (cor r xs u st ha)[528]? = some (.bool ha) := cor_up hl 2
theorem cells_set {i : Nat} (v : Int) : (cellsOf xs).setIfInBounds i (.int .i64 v) = cellsOf (xs.set i v) := by
  simp [cellsOf, List.map_set]
theorem cor_setB {i : Nat} {z : Int} (hi : i < xs.length) : (cor r xs u st ha).setIfInBounds (14 + i) (.int .i64 z) = cor r (xs.set i z) u st ha := by
  show (bkR r ++ _).setIfInBounds ((bkR r).size + i) _ = _
  rw [set_right, set_left (by rw [cellsOf_size]; exact hi), cells_set]
  rfl
theorem cor_setU (hl : xs.length = 512) (u' : Value) : (cor r xs u st ha).setIfInBounds 526 u' = cor r xs u' st ha := by
  show (bkR r ++ _).setIfInBounds ((bkR r).size + 512) _ = _
  have e := set_right (A := cellsOf xs) (B := #[u, .bool st, .bool ha]) 0 u'
  rw [cellsOf_size, hl] at e
  rw [set_right, show (512 : Nat) = 512 + 0 from rfl, e]
  rfl
theorem cor_setS (hl : xs.length = 512) (s' : Bool) : (cor r xs u st ha).setIfInBounds 527 (.bool s') = cor r xs u s' ha := by
  show (bkR r ++ _).setIfInBounds ((bkR r).size + 513) _ = _
  have e := set_right (A := cellsOf xs) (B := #[u, .bool st, .bool ha]) 1 (.bool s')
  rw [cellsOf_size, hl] at e
  rw [set_right, show (513 : Nat) = 512 + 1 from rfl, e]
  rfl
theorem cor_setR {r' : Pl.Rg} {i : Nat} {v : Value} (hi : i < 14) (h : bkR r' = (bkR r).setIfInBounds i v) : (cor r xs u st ha).setIfInBounds i v = cor r' xs u st ha := by
  show (bkR r ++ _).setIfInBounds i v = _
  rw [set_left hi, ← h]
  rfl
end
theorem bk_at {r : Pl.Rg} {k : Nat} (hk : k < 4) : (bkR r)[k]? = some (.int .i64 (el r.xs k)) ∧ (bkR r)[4 + k]? = some (.int .i64 (el r.ys k)) := by
  have : k = 0 ∨ k = 1 ∨ k = 2 ∨ k = 3 := by omega
  rcases this with rfl | rfl | rfl | rfl <;> exact ⟨rfl, rfl⟩
/-- the block -/
def CBk (w : World) (b g cu : Nat) (c : Pl.Mc) (h : Bool) : Prop := Blk w b (cor c.r c.bx (.slice (some ⟨g, 0, none⟩) c.bm cu) c.st h) 97
/-- the log -/
structure CLg (w : World) (lo b g cu : Nat) (bl : List Int) (bm : Nat) : Prop where
  l : w.ownsRow lo 110 5 (.slice (some ⟨g, 0, none⟩) bm cu) bm (bl.map (Value.int .i64))
  lo' : lo ≤ b
  ne : b ≠ g
def CAt (w : World) (lo b g : Nat) (c : Pl.Mc) (h : Bool) : Prop := ∃ cu : Nat, CBk w b g cu c h ∧ CLg w lo b g cu c.bl c.bm
section
variable {w w' : World} {lo b g cu : Nat} {c : Pl.Mc} {h : Bool} {bl : List Int} {bm : Nat}
theorem CLg.own (o : CLg w lo b g cu bl bm) (k : Kept b (b + 1) w w') : CLg w' lo b g cu bl bm := ⟨ownsRow_keptS o.l k (by have := o.ne; omega), o.lo', o.ne⟩
theorem CLg.any (o : CLg w lo b g cu bl bm) (k : Kept 0 0 w w') : CLg w' lo b g cu bl bm := ⟨ownsRow_keptS o.l k (by omega), o.lo', o.ne⟩
theorem CLg.lt (o : CLg w lo b g cu bl bm) : lo ≤ g ∧ g < w.heap.size := o.l.lt g rfl
theorem CAt.lt (a : CAt w lo b g c h) : lo ≤ b ∧ b < w.heap.size ∧ lo ≤ g ∧ g < w.heap.size ∧ b ≠ g := by
  obtain ⟨cu, hB, hO⟩ := a
  have := hO.lt
  exact ⟨hO.lo', Blk.lt hB, this.1, this.2, hO.ne⟩
theorem CAt.any (a : CAt w lo b g c h) (k : Kept 0 0 w w') : CAt w' lo b g c h := by
  obtain ⟨cu, hB, hO⟩ := a
  exact ⟨cu, Blk.kept0 hB k, hO.any k⟩
theorem CAt.alloc (a : CAt w lo b g c h) (o : Obj) : CAt (w.alloc o) lo b g c h := a.any (kept_alloc w o)
theorem CAt.drew (a : CAt w lo b g c h) : CAt w.drew lo b g c h := a.any (kept_drew (Kept.refl _ _ _))
/-- another block is written -/
theorem CAt.other (a : CAt w lo b g c h) (q i : Nat) (v : Value) (h1 : q ≠ b) (h2 : q ≠ g) : CAt (w.setCell ⟨q, i, none⟩ v) lo b g c h := by
  obtain ⟨cu, hB, hO⟩ := a
  have k := kept_set (Kept.refl q (q + 1) w) q i v (.inl (by omega))
  exact ⟨cu, Blk.kept hB k (by omega), ⟨ownsRow_keptS hO.l k (by omega), hO.lo', hO.ne⟩⟩
theorem CAt.kept {x y : Nat} (a : CAt w lo b g c h) (k : Kept x y w w') (h1 : ¬ (x ≤ b ∧ b < y)) (h2 : ¬ (x ≤ g ∧ g < y)) : CAt w' lo b g c h := by
  obtain ⟨cu, hB, hO⟩ := a
  exact ⟨cu, Blk.kept hB k h1, ⟨ownsRow_keptS hO.l k h2, hO.lo', hO.ne⟩⟩
/-- registers written -/
theorem CAt.reg {r' : Pl.Rg} (a : CAt w lo b g c h) {i : Nat} {v : Value} (hi : i < 14) (e : bkR r' = (bkR c.r).setIfInBounds i v) : CAt (w.setCell ⟨b, i, none⟩ v) lo b g (c.setR r') h := by
  obtain ⟨cu, hB, hO⟩ := a
  refine ⟨cu, ?_, hO.own (kept_one w b i v)⟩
  have := Blk.set hB i v
  rw [cor_setR hi e] at this
  exact this
theorem CAt.setX (a : CAt w lo b g c h) (l4 : c.r.xs.length = 4) {k : Nat} (hk : k < 4) (v : Int) : CAt (w.setCell ⟨b, k, none⟩ (.int .i64 v)) lo b g (c.setR { c.r with xs := c.r.xs.set k v }) h := a.reg (by omega) (bkX l4 hk v)
theorem CAt.setY (a : CAt w lo b g c h) (l4 : c.r.ys.length = 4) {k : Nat} (hk : k < 4) (v : Int) : CAt (w.setCell ⟨b, 4 + k, none⟩ (.int .i64 v)) lo b g (c.setA k v) h := a.reg (r' := { c.r with ys := c.r.ys.set k v }) (by omega) (bkY l4 hk v)
theorem CAt.setP (a : CAt w lo b g c h) (v : Int) : CAt (w.setCell ⟨b, 9, none⟩ (.int .i64 v)) lo b g (c.setP v) h := a.reg (r' := { c.r with p := v }) (by omega) rfl
theorem CAt.setF (a : CAt w lo b g c h) (v : Int) : CAt (w.setCell ⟨b, 10, none⟩ (.int .i64 v)) lo b g (c.setF v) h := a.reg (r' := { c.r with f := v }) (by omega) rfl
theorem CAt.setS (a : CAt w lo b g c h) (l : c.bx.length = 512) (v : Bool) : CAt (w.setCell ⟨b, 527, none⟩ (.bool v)) lo b g { c with st := v } h := by
  obtain ⟨cu, hB, hO⟩ := a
  refine ⟨cu, ?_, hO.own (kept_one w b 527 (.bool v))⟩
  have := Blk.set hB 527 (.bool v)
  rw [cor_setS l] at this
  exact this
/-- its cells -/
theorem CAt.cX (a : CAt w lo b g c h) {k : Nat} (hk : k < 4) : w.cell? ⟨b, k, none⟩ = some (.int .i64 (el c.r.xs k)) := by
  obtain ⟨cu, hB, hO⟩ := a
  exact Blk.cell hB ((cor_lo (by omega)).trans (bk_at hk).1)
theorem CAt.cY (a : CAt w lo b g c h) {k : Nat} (hk : k < 4) : w.cell? ⟨b, 4 + k, none⟩ = some (.int .i64 (el c.r.ys k)) := by
  obtain ⟨cu, hB, hO⟩ := a
  exact Blk.cell hB ((cor_lo (by omega)).trans (bk_at hk).2)
theorem CAt.cR (a : CAt w lo b g c h) {i : Nat} {v : Value} (hi : i < 14) (e : (bkR c.r)[i]? = some v) : w.cell? ⟨b, i, none⟩ = some v := by
  obtain ⟨cu, hB, hO⟩ := a
  exact Blk.cell hB ((cor_lo hi).trans e)
theorem CAt.cO (a : CAt w lo b g c h) : w.cell? ⟨b, 8, none⟩ = some (.int .i64 c.r.o) := a.cR (by omega) rfl
theorem CAt.cP (a : CAt w lo b g c h) : w.cell? ⟨b, 9, none⟩ = some (.int .i64 c.r.p) := a.cR (by omega) rfl
theorem CAt.cF (a : CAt w lo b g c h) : w.cell? ⟨b, 10, none⟩ = some (.int .i64 c.r.f) := a.cR (by omega) rfl
theorem CAt.cM (a : CAt w lo b g c h) : w.cell? ⟨b, 11, none⟩ = some (.int .i64 c.r.m) := a.cR (by omega) rfl
theorem CAt.cS (a : CAt w lo b g c h) : w.cell? ⟨b, 12, none⟩ = some (.bool c.r.s) := a.cR (by omega) rfl
theorem CAt.cT (a : CAt w lo b g c h) : w.cell? ⟨b, 13, none⟩ = some (.bool c.r.t) := a.cR (by omega) rfl
theorem CAt.cSt (a : CAt w lo b g c h) (l : c.bx.length = 512) : w.cell? ⟨b, 527, none⟩ = some (.bool c.st) := by
  obtain ⟨cu, hB, hO⟩ := a
  exact Blk.cell hB (cor_st l)
theorem CAt.cH (a : CAt w lo b g c h) (l : c.bx.length = 512) : w.cell? ⟨b, 528, none⟩ = some (.bool h) := by
  obtain ⟨cu, hB, hO⟩ := a
  exact Blk.cell hB (cor_ha l)
theorem CAt.fz (a : CAt w lo b g c h) (i : Nat) : w.frozen? ⟨b, i, none⟩ = false := by
  obtain ⟨cu, hB, hO⟩ := a
  exact Blk.frozen hB i
end
end Go.Proofs.YtblddehlkaolbaaGreatDoor

namespace Go.Proofs.YtblddehlkaolbaaGreatDoor
open Go.RowKit
set_option linter.unusedVariables false
set_option maxHeartbeats 1000000 in
theorem cPut (w : World) (lo b g : Nat) (c : Pl.Mc) (h : Bool) (z k v : Int) (hC : CAt w lo b g c h) (hg : Pl.Good c.r) (k0 : 0 ≤ k) (k3 : k ≤ 3) (hz : z = 1 ∨ z = 2) (hv : Pl.okv z v = true) :
    Calls Tryz.prog 173 #[.pointer (some ⟨b, 0, none⟩), .int .i64 z, .int .i64 k, .int .i64 v] w fun e w' => e = .returned (.tuple #[]) ∧ CAt w' lo b g (c.put z k v) h ∧ Kept b (b + 1) w w' := by
  obtain ⟨n, rfl⟩ : ∃ n : Nat, k = (n : Int) := ⟨k.toNat, by omega⟩
  have hn : n < 4 := by omega
  have ht := Pl.top_ok hv
  have HC := hide hC
  have L4 := hide hg.d4
  have q0 := hC.cX hn
  have f0 := hC.fz n
  obtain ⟨x0, x1⟩ := hg.dw n hn
  have hk := kept_one w b n
  have HK := hide hk
  clear hC hg hk
  rcases hz with rfl | rfl
  · have hb := and_not_255 x0 x1 (v := v) (by omega) (by omega)
    clear hv ht
    go_enter Tryz.func173, Tryz.ntmps173
    go_wp2_with fail
    go_end0
    exact ⟨rfl, HC.out.setX L4.out hn _, HK.out _⟩
  · clear hv ht
    go_enter Tryz.func173, Tryz.ntmps173
    go_wp2_with fail
    go_end0
    exact ⟨rfl, HC.out.setX L4.out hn _, HK.out _⟩
set_option maxHeartbeats 4000000 in
theorem cStat (w : World) (lo b g : Nat) (c : Pl.Mc) (h : Bool) (n : Int) (hC : CAt w lo b g c h) (hg : Pl.Good c.r) (h0 : 0 ≤ n) (h1 : n ≤ 1023) :
    Calls Tryz.prog 184 #[.pointer (some ⟨b, 0, none⟩), .int .i64 n] w fun e w' => e = .returned (.tuple #[]) ∧ CAt w' lo b g (c.setR (Pl.withR c.r n)) h ∧ Kept b (b + 1) w w' := by
  have e1 := st256 h0 h1
  have e2 := st512 h0 h1
  have e3 := st31 h0 h1
  have e4 := st7 h0 h1
  have HC := hide hC
  have h4 := hide hg.a4
  have c7 : w.cell? ⟨b, 7, none⟩ = some (.int .i64 (el c.r.ys 3)) := hC.cY (k := 3) (by omega)
  have c8 := hC.cO
  have c10 := hC.cF
  have c11 := hC.cM
  have c12 := hC.cS
  have c13 := hC.cT
  have fz := hC.fz
  clear hC hg
  by_cases hs : Pl.stSuper n = c.r.s
  · have q1 : (Pl.stSuper n == c.r.s) = true := by simp [hs]
    have E : Hid (Pl.withR c.r n = { c.r with s := Pl.stSuper n, t := Pl.stTrace n, m := n / 32 % 8, f := n % 32 }) := hide (by unfold Pl.withR; rw [if_pos hs])
    clear hs c7 c8
    go_enter Tryz.func184, Tryz.ntmps184
    go_wp2_with fail
    go_end0
    refine ⟨rfl, ?_, (((kept_one _ _ _ _).one _ _).one _ _).one _ _⟩
    rw [E.out]
    exact (((HC.out.reg (r' := { c.r with s := Pl.stSuper n }) (i := 12) (v := .bool (Pl.stSuper n)) (by omega) rfl).reg (r' := { c.r with s := Pl.stSuper n, t := Pl.stTrace n }) (i := 13) (v := .bool (Pl.stTrace n)) (by omega) rfl).reg (r' := { c.r with s := Pl.stSuper n, t := Pl.stTrace n, m := n / 32 % 8 }) (i := 11) (v := .int .i64 (n / 32 % 8)) (by omega) rfl).setF (n % 32)
  · have q1 : (Pl.stSuper n == c.r.s) = false := by simpa using hs
    have E : Hid (Pl.withR c.r n = { c.r with ys := c.r.ys.set 3 c.r.o, o := el c.r.ys 3, s := Pl.stSuper n, t := Pl.stTrace n, m := n / 32 % 8, f := n % 32 }) := hide (by unfold Pl.withR; rw [if_neg hs])
    clear hs
    go_enter Tryz.func184, Tryz.ntmps184
    go_wp2_with fail
    go_region
    go_wp2_with fail
    go_end0
    refine ⟨rfl, ?_, kept_drew ((((((kept_one _ _ _ _).one _ _).one _ _).one _ _).one _ _).one _ _)⟩
    obtain ⟨Y, hY⟩ : ∃ Y, Y = c.r.ys.set 3 c.r.o := ⟨_, rfl⟩
    have a1 : CAt (w.setCell ⟨b, 7, none⟩ (.int .i64 c.r.o)) lo b g (c.setR { c.r with ys := Y }) h := by rw [hY]; exact HC.out.setY h4.out (k := 3) (by omega) c.r.o
    rw [E.out, ← hY]
    clear hY
    have a2 := a1.reg (r' := { c.r with ys := Y, o := el c.r.ys 3 }) (i := 8) (v := .int .i64 (el c.r.ys 3)) (by omega) rfl
    have a3 := a2.reg (r' := { c.r with ys := Y, o := el c.r.ys 3, s := Pl.stSuper n }) (i := 12) (v := .bool (Pl.stSuper n)) (by omega) rfl
    have a4 := a3.reg (r' := { c.r with ys := Y, o := el c.r.ys 3, s := Pl.stSuper n, t := Pl.stTrace n }) (i := 13) (v := .bool (Pl.stTrace n)) (by omega) rfl
    have a5 := a4.reg (r' := { c.r with ys := Y, o := el c.r.ys 3, s := Pl.stSuper n, t := Pl.stTrace n, m := n / 32 % 8 }) (i := 11) (v := .int .i64 (n / 32 % 8)) (by omega) rfl
    have a6 := a5.reg (r' := { c.r with ys := Y, o := el c.r.ys 3, s := Pl.stSuper n, t := Pl.stTrace n, m := n / 32 % 8, f := n % 32 }) (i := 10) (v := .int .i64 (n % 32)) (by omega) rfl
    exact a6.drew
end Go.Proofs.YtblddehlkaolbaaGreatDoor

