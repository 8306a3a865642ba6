/- What the program's GoodDevice and LevelOf answer, for every device. -/
import Derived.Test.YtlocilcnmbmikaaImplBytes
import Derived.Test.YtlocilcnmbmikaaSpecDev6
namespace Go.Proofs.Ytlocilcnmbmikaa
open Go.RowKit
set_option linter.unusedVariables false

/-- the numbers of a device that came in are ints -/
structure Pl.Wf (d : Pl.Dev) : Prop where
  e : (Lit.int .i64 d.e).wf = true
  l : (Lit.int .i64 d.l).wf = true
  t : (Lit.int .i64 d.t).wf = true
theorem wf_int {v : Int} (h : (Lit.int .i64 v).wf = true) : -9223372036854775808 ≤ v ∧ v ≤ 9223372036854775807 := by
  simp [Lit.wf, IntKind.min, IntKind.max, IntKind.signed, IntKind.bits] at h
  omega
def Pl.rowOk (xs : List Int) (room : Int) : Bool := decide ((xs.length : Int) ≤ room) && Pl.bytesOk xs
theorem isRow (w : World) (a : Option Addr) (ca : Nat) (xs : List Int) (room : Int) (ha : Came w a xs) (lx : xs.length ≤ 2000000) :
    Calls Try.prog 42 #[.slice a xs.length ca, .int .i64 room] w fun e w' => e = .returned (.bool (Pl.rowOk xs room)) ∧ w' = w := by
  cases h1 : decide ((xs.length : Int) ≤ room)
  · go_enter Try.func42, Try.ntmps42
    go_wp2
    go_ret
    exact ⟨rB (by unfold Pl.rowOk; rw [h1, Bool.false_and]), rfl⟩
  · go_enter Try.func42, Try.ntmps42
    go_wp2_with (go_at_call 57; refine (areBytes _ a ca xs ha lx).mono ?_; rintro e w' ⟨rfl, hw⟩; have hw2 := hw.symm; clear hw; subst hw2)
    go_ret
    exact ⟨rB (by unfold Pl.rowOk; rw [h1, Bool.true_and]), rfl⟩
set_option maxHeartbeats 4000000 in
theorem implGoodDevice (w : World) (d : Pl.Dev) (a b : Option Addr) (ca cb : Nat) (ha : Came w a d.xs) (hb : Came w b d.ys) (lx : d.xs.length ≤ 2000000) (ly : d.ys.length ≤ 2000000) (wfd : Pl.Wf d) :
    Calls Try.prog 18 #[.agg #[.int .i64 d.e, .int .i64 d.l, .bool d.r, .slice a d.xs.length ca, .slice b d.ys.length cb, .int .i64 d.t]] w fun e w' => e = .returned (.bool (Pl.devOk d)) ∧ Kept 0 0 w w' := by
  have HA := hide ha
  have HB := hide hb
  have HK := hide (kept_alloc w (.cells #[.int .i64 d.e, .int .i64 d.l, .bool d.r, .slice a d.xs.length ca, .slice b d.ys.length cb, .int .i64 d.t] 24))
  have HE := hide (wf_int wfd.e)
  clear ha hb wfd
  have G : Hid (Pl.devOk d = (Pl.byteOk d.e && (decide (0 ≤ d.l) && (decide (d.l ≤ d.e) && (Pl.rowOk d.xs 4 && (Pl.rowOk d.ys 200 && (decide (0 ≤ d.t) && decide (d.t ≤ 1000)))))))) := hide (by
    unfold Pl.devOk Pl.rowOk Pl.byteOk Pl.inR
    rw [Bool.eq_iff_iff]
    simp only [Bool.and_eq_true, decide_eq_true_eq]
    constructor
    · rintro ⟨⟨a1, a2⟩, ⟨a3, a4⟩, a5, a6, a7, a8, a9, a10⟩
      exact ⟨⟨a1, by omega⟩, a3, a4, ⟨a7, a5⟩, ⟨a8, a6⟩, a9, a10⟩
    · rintro ⟨⟨a1, a2⟩, a3, a4, ⟨a7, a5⟩, ⟨a8, a6⟩, a9, a10⟩
      exact ⟨⟨a1, by omega⟩, ⟨a3, a4⟩, a5, a6, a7, a8, a9, a10⟩)
  cases h1 : Pl.byteOk d.e
  · go_enter Try.func18, Try.ntmps18
    go_wp2_with (first | (go_at_call 41; refine (isByte _ _ HE.out.1 HE.out.2).mono ?_; rintro e w' ⟨rfl, hw⟩; have hw2 := hw.symm; clear hw; subst hw2; rw [h1]))
    go_ret
    exact ⟨rB (by rw [G.out, h1]; simp), HK.out⟩
  · cases h2 : decide (0 ≤ d.l)
    · go_enter Try.func18, Try.ntmps18
      go_wp2_with (first | (go_at_call 41; refine (isByte _ _ HE.out.1 HE.out.2).mono ?_; rintro e w' ⟨rfl, hw⟩; have hw2 := hw.symm; clear hw; subst hw2; rw [h1]))
      go_ret
      exact ⟨rB (by rw [G.out, h1, h2]; simp), HK.out⟩
    · cases h3 : decide (d.l ≤ d.e)
      · go_enter Try.func18, Try.ntmps18
        go_wp2_with (first | (go_at_call 41; refine (isByte _ _ HE.out.1 HE.out.2).mono ?_; rintro e w' ⟨rfl, hw⟩; have hw2 := hw.symm; clear hw; subst hw2; rw [h1]))
        go_ret
        exact ⟨rB (by rw [G.out, h1, h2, h3]; simp), HK.out⟩
      · cases h4 : Pl.rowOk d.xs 4
        · go_enter Try.func18, Try.ntmps18
          go_wp2_with (first | (go_at_call 41; refine (isByte _ _ HE.out.1 HE.out.2).mono ?_; rintro e w' ⟨rfl, hw⟩; have hw2 := hw.symm; clear hw; subst hw2; rw [h1]) | (go_at_call 42; refine (isRow _ a ca d.xs _ (HA.out.keptS HK.out) lx).mono ?_; rintro e w' ⟨rfl, hw⟩; have hw2 := hw.symm; clear hw; subst hw2; rw [h4]; have Z4 : True := trivial))
          go_ret
          exact ⟨rB (by rw [G.out, h1, h2, h3, h4]; simp), HK.out⟩
        · cases h5 : Pl.rowOk d.ys 200
          · go_enter Try.func18, Try.ntmps18
            go_wp2_with (first | (go_at_call 41; refine (isByte _ _ HE.out.1 HE.out.2).mono ?_; rintro e w' ⟨rfl, hw⟩; have hw2 := hw.symm; clear hw; subst hw2; rw [h1]) | (go_at_call 42; have z := Z4; refine (isRow _ b cb d.ys _ (HB.out.keptS HK.out) ly).mono ?_; rintro e w' ⟨rfl, hw⟩; have hw2 := hw.symm; clear hw; subst hw2; rw [h5]) | (go_at_call 42; refine (isRow _ a ca d.xs _ (HA.out.keptS HK.out) lx).mono ?_; rintro e w' ⟨rfl, hw⟩; have hw2 := hw.symm; clear hw; subst hw2; rw [h4]; have Z4 : True := trivial))
            go_ret
            exact ⟨rB (by rw [G.out, h1, h2, h3, h4, h5]; simp), HK.out⟩
          · cases h6 : decide (0 ≤ d.t)
            · go_enter Try.func18, Try.ntmps18
              go_wp2_with (first | (go_at_call 41; refine (isByte _ _ HE.out.1 HE.out.2).mono ?_; rintro e w' ⟨rfl, hw⟩; have hw2 := hw.symm; clear hw; subst hw2; rw [h1]) | (go_at_call 42; have z := Z4; refine (isRow _ b cb d.ys _ (HB.out.keptS HK.out) ly).mono ?_; rintro e w' ⟨rfl, hw⟩; have hw2 := hw.symm; clear hw; subst hw2; rw [h5]) | (go_at_call 42; refine (isRow _ a ca d.xs _ (HA.out.keptS HK.out) lx).mono ?_; rintro e w' ⟨rfl, hw⟩; have hw2 := hw.symm; clear hw; subst hw2; rw [h4]; have Z4 : True := trivial))
              go_ret
              exact ⟨rB (by rw [G.out, h1, h2, h3, h4, h5, h6]; simp), HK.out⟩
            · cases h7 : decide (d.t ≤ 1000)
              · go_enter Try.func18, Try.ntmps18
                go_wp2_with (first | (go_at_call 41; refine (isByte _ _ HE.out.1 HE.out.2).mono ?_; rintro e w' ⟨rfl, hw⟩; have hw2 := hw.symm; clear hw; subst hw2; rw [h1]) | (go_at_call 42; have z := Z4; refine (isRow _ b cb d.ys _ (HB.out.keptS HK.out) ly).mono ?_; rintro e w' ⟨rfl, hw⟩; have hw2 := hw.symm; clear hw; subst hw2; rw [h5]) | (go_at_call 42; refine (isRow _ a ca d.xs _ (HA.out.keptS HK.out) lx).mono ?_; rintro e w' ⟨rfl, hw⟩; have hw2 := hw.symm; clear hw; subst hw2; rw [h4]; have Z4 : True := trivial))
                go_ret
                exact ⟨rB (by rw [G.out, h1, h2, h3, h4, h5, h6, h7]; simp), HK.out⟩
              · go_enter Try.func18, Try.ntmps18
                go_wp2_with (first | (go_at_call 41; refine (isByte _ _ HE.out.1 HE.out.2).mono ?_; rintro e w' ⟨rfl, hw⟩; have hw2 := hw.symm; clear hw; subst hw2; rw [h1]) | (go_at_call 42; have z := Z4; refine (isRow _ b cb d.ys _ (HB.out.keptS HK.out) ly).mono ?_; rintro e w' ⟨rfl, hw⟩; have hw2 := hw.symm; clear hw; subst hw2; rw [h5]) | (go_at_call 42; refine (isRow _ a ca d.xs _ (HA.out.keptS HK.out) lx).mono ?_; rintro e w' ⟨rfl, hw⟩; have hw2 := hw.symm; clear hw; subst hw2; rw [h4]; have Z4 : True := trivial))
                go_ret
                exact ⟨rB (by rw [G.out, h1, h2, h3, h4, h5, h6, h7]; simp), HK.out⟩

theorem implLevelOf (w : World) (d : Pl.Dev) (a b : Option Addr) (ca cb : Nat) (ha : Came w a d.xs) (hb : Came w b d.ys) (lx : d.xs.length ≤ 2000000) (ly : d.ys.length ≤ 2000000) (wfd : Pl.Wf d) :
    Calls Try.prog 32 #[.agg #[.int .i64 d.e, .int .i64 d.l, .bool d.r, .slice a d.xs.length ca, .slice b d.ys.length cb, .int .i64 d.t]] w fun e w' => e = .returned (.tuple #[.int .i64 (Pl.lvV d), .bool (Pl.devOk d)]) ∧ Kept 0 0 w w' := by
  have HA := hide ha
  have HB := hide hb
  have K0 := hide (kept_alloc w (.cells #[.int .i64 d.e, .int .i64 d.l, .bool d.r, .slice a d.xs.length ca, .slice b d.ys.length cb, .int .i64 d.t] 24))
  have B0 := hide (Blk.new w #[.int .i64 d.e, .int .i64 d.l, .bool d.r, .slice a d.xs.length ca, .slice b d.ys.length cb, .int .i64 d.t] 24)
  clear ha hb
  cases h1 : Pl.devOk d
  · go_enter Try.func32, Try.ntmps32
    go_wp2_with (go_at_call 18; refine (implGoodDevice _ d a b ca cb (HA.out.keptS K0.out) (HB.out.keptS K0.out) lx ly wfd).mono ?_; rintro e w2 ⟨rfl, k2⟩; rw [h1])
    go_ret2
    exact ⟨rIB (by simp [Pl.lvV, h1]) rfl, K0.out.trans k2⟩
  · cases h2 : d.r
    · by_cases h3 : 0 < d.xs.length
      · go_enter Try.func32, Try.ntmps32
        go_wp2_with (go_at_call 18; first | rw [← h2] | skip; refine (implGoodDevice _ d a b ca cb (HA.out.keptS K0.out) (HB.out.keptS K0.out) lx ly wfd).mono ?_; rintro e w2 ⟨rfl, k2⟩; rw [h1]; have BL := B0.out.kept0 k2; have c2 := BL.cell (i := 2) rfl; have c3 := BL.cell (i := 3) rfl; try rw [h2] at c2; clear BL)
        go_ret2
        exact ⟨rIB (by simp [Pl.lvV, Pl.level, h1, h2, h3]) rfl, K0.out.trans k2⟩
      · go_enter Try.func32, Try.ntmps32
        go_wp2_with (go_at_call 18; first | rw [← h2] | skip; refine (implGoodDevice _ d a b ca cb (HA.out.keptS K0.out) (HB.out.keptS K0.out) lx ly wfd).mono ?_; rintro e w2 ⟨rfl, k2⟩; rw [h1]; have BL := B0.out.kept0 k2; have c2 := BL.cell (i := 2) rfl; have c3 := BL.cell (i := 3) rfl; try rw [h2] at c2; clear BL)
        go_ret2
        exact ⟨rIB (by simp [Pl.lvV, Pl.level, h1, h2, h3]) rfl, K0.out.trans k2⟩
    · go_enter Try.func32, Try.ntmps32
      go_wp2_with (go_at_call 18; first | rw [← h2] | skip; refine (implGoodDevice _ d a b ca cb (HA.out.keptS K0.out) (HB.out.keptS K0.out) lx ly wfd).mono ?_; rintro e w2 ⟨rfl, k2⟩; rw [h1]; have BL := B0.out.kept0 k2; have c2 := BL.cell (i := 2) rfl; have c3 := BL.cell (i := 3) rfl; try rw [h2] at c2; clear BL)
      go_ret2
      exact ⟨rIB (by simp [Pl.lvV, Pl.level, h1, h2]) rfl, K0.out.trans k2⟩
end Go.Proofs.Ytlocilcnmbmikaa
