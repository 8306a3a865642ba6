/- What the program's functions of chapter 5 answer, for every argument. -/
import Derived.Test.YtlocilcnmbmikaaImplStepD
namespace Go.Proofs.Ytlocilcnmbmikaa
open Go.RowKit Go.Conc
set_option linter.unusedVariables false

theorem sd_read (d : Pl.Dev) (p : Int) : Pl.sdOk d 3 p 0 = Pl.prOk d p ∧ Pl.sdD d 3 p 0 = Pl.prD d p ∧ Pl.sdV d 3 p 0 = Pl.prV d p := by
  have h : Pl.sdOk d 3 p 0 = Pl.prOk d p := by simp [Pl.sdOk, Pl.prOk, Pl.stepOk]
  refine ⟨h, ?_, ?_⟩
  · unfold Pl.sdD Pl.prD; rw [h]; rfl
  · unfold Pl.sdV Pl.prV; rw [h]; rfl
theorem sd_write (d : Pl.Dev) (p v : Int) : Pl.sdOk d 4 p v = Pl.pwOk d p v ∧ Pl.sdD d 4 p v = Pl.pwD d p v := by
  have h : Pl.sdOk d 4 p v = Pl.pwOk d p v := by simp [Pl.sdOk, Pl.pwOk, Pl.stepOk]
  refine ⟨h, ?_⟩
  unfold Pl.sdD Pl.pwD; rw [h]; rfl

set_option maxHeartbeats 4000000 in
theorem implPortRead (w : World) (d : Pl.Dev) (a b : Option Addr) (ca cb : Nat) (p : Int) (ha : Came w a d.xs) (hb : Came w b d.ys) (lx : d.xs.length ≤ 2000000) (ly : d.ys.length ≤ 2000000) (wfd : Pl.Wf d) (wfp : (Lit.int .i64 p).wf = true) :
    Calls Try.prog 36 #[.agg #[.int .i64 d.e, .int .i64 d.l, .bool d.r, .slice a d.xs.length ca, .slice b d.ys.length cb, .int .i64 d.t], .int .i64 p] w fun e w' => ∃ (a' b' : Option Addr) (ca' cb' : Nat), e = .returned (.tuple #[.agg #[.int .i64 (Pl.prD d p).e, .int .i64 (Pl.prD d p).l, .bool (Pl.prD d p).r, .slice a' (Pl.prD d p).xs.length ca', .slice b' (Pl.prD d p).ys.length cb', .int .i64 (Pl.prD d p).t], .int .i64 (Pl.prV d p), .bool (Pl.prOk d p)]) ∧ DevIn w' w.heap.size (Pl.prD d p) a' b' ca' ∧ Kept 0 0 w w' := by
  have HA := hide ha
  have HB := hide hb
  have K0 := hide (kept_new (kept_alloc w (.cells #[.int .i64 d.e, .int .i64 d.l, .bool d.r, .slice a d.xs.length ca, .slice b d.ys.length cb, .int .i64 d.t] 24)) (.cells #[.int .i64 0, .int .i64 0, .bool false, .slice none 0 0, .slice none 0 0, .int .i64 0] 24))
  have P0 := ((Blk.new w #[.int .i64 d.e, .int .i64 d.l, .bool d.r, .slice a d.xs.length ca, .slice b d.ys.length cb, .int .i64 d.t] 24).alloc (.cells #[.int .i64 0, .int .i64 0, .bool false, .slice none 0 0, .slice none 0 0, .int .i64 0] 24))
  have R0 := Blk.new (w.alloc (.cells #[.int .i64 d.e, .int .i64 d.l, .bool d.r, .slice a d.xs.length ca, .slice b d.ys.length cb, .int .i64 d.t] 24)) #[.int .i64 0, .int .i64 0, .bool false, .slice none 0 0, .slice none 0 0, .int .i64 0] 24
  simp only [World.size_alloc] at R0
  replace R0 := hide R0
  obtain ⟨D, hDD⟩ : ∃ D, D = Pl.prD d p := ⟨_, rfl⟩
  obtain ⟨V, hVV⟩ : ∃ V, V = Pl.prV d p := ⟨_, rfl⟩
  obtain ⟨O, hOO⟩ : ∃ O, O = Pl.prOk d p := ⟨_, rfl⟩
  rw [← hDD, ← hVV, ← hOO]
  have HQ := hide (sd_read d p)
  rw [← hDD, ← hVV, ← hOO] at HQ
  clear ha hb hDD hVV hOO
  go_enter Try.func36, Try.ntmps36
  go_wp2_with fail
  have CN := implStepDevice ((w.alloc (.cells #[.int .i64 d.e, .int .i64 d.l, .bool d.r, .slice a d.xs.length ca, .slice b d.ys.length cb, .int .i64 d.t] 24)).alloc (.cells #[.int .i64 0, .int .i64 0, .bool false, .slice none 0 0, .slice none 0 0, .int .i64 0] 24)) d a b ca cb 3 p 0 (HA.out.keptS K0.out) (HB.out.keptS K0.out) lx ly wfd (by decide) wfp (by decide)
  rw [HQ.out.1, HQ.out.2.1, HQ.out.2.2] at CN
  refine CN.mono ?_
  clear CN
  rintro e w5 ⟨a5, b5, ca5, cb5, rfl, hD5, k5⟩
  have R5 := hide (R0.out.kept0 k5)
  have K5 := hide (K0.out.trans k5)
  have n5 := R5.out.lt
  simp only [World.size_alloc] at hD5
  have y0 := R5.out.cell (i := 0) rfl
  have yf0 := R5.out.frozen 0
  have y1 := R5.out.cell (i := 1) rfl
  have yf1 := R5.out.frozen 1
  have y2 := R5.out.cell (i := 2) rfl
  have yf2 := R5.out.frozen 2
  have y3 := R5.out.cell (i := 3) rfl
  have yf3 := R5.out.frozen 3
  have y4 := R5.out.cell (i := 4) rfl
  have yf4 := R5.out.frozen 4
  have y5 := R5.out.cell (i := 5) rfl
  have yf5 := R5.out.frozen 5
  clear k5
  go_wp2_with fail
  have hx : ∀ g, blk a5 = some g ∨ blk b5 = some g → g ≠ w.heap.size + 1 := by
    intro g hg
    rcases hg with hg | hg
    · have := hD5.1.blk_in g hg; omega
    · have := hD5.2.1.blk_in g hg; omega
  refine bodyPost_ret (v := .tuple #[.agg #[.int .i64 D.e, .int .i64 D.l, .bool D.r, .slice a5 D.xs.length ca5, .slice b5 D.ys.length cb5, .int .i64 D.t], .int .i64 V, .bool O]) ?_ rfl ⟨a5, b5, ca5, cb5, rfl, ?_, ?_⟩
  · rw [results_cell_tmp2 rfl]; go_simp
  · exact ((((((hD5.setOther _ _ _ hx).setOther _ _ _ hx).setOther _ _ _ hx).setOther _ _ _ hx).setOther _ _ _ hx).setOther _ _ _ hx).base (by omega)
  · exact (kept_set (kept_set (kept_set (kept_set (kept_set (kept_set K5.out _ _ _ (.inr (by omega))) _ _ _ (.inr (by omega))) _ _ _ (.inr (by omega))) _ _ _ (.inr (by omega))) _ _ _ (.inr (by omega))) _ _ _ (.inr (by omega)))

set_option maxHeartbeats 4000000 in
theorem implPortWrite (w : World) (d : Pl.Dev) (a b : Option Addr) (ca cb : Nat) (p v : Int) (ha : Came w a d.xs) (hb : Came w b d.ys) (lx : d.xs.length ≤ 2000000) (ly : d.ys.length ≤ 2000000) (wfd : Pl.Wf d) (wfp : (Lit.int .i64 p).wf = true) (wfv : (Lit.int .i64 v).wf = true) :
    Calls Try.prog 34 #[.agg #[.int .i64 d.e, .int .i64 d.l, .bool d.r, .slice a d.xs.length ca, .slice b d.ys.length cb, .int .i64 d.t], .int .i64 p, .int .i64 v] w fun e w' => ∃ (a' b' : Option Addr) (ca' cb' : Nat), e = .returned (.tuple #[.agg #[.int .i64 (Pl.pwD d p v).e, .int .i64 (Pl.pwD d p v).l, .bool (Pl.pwD d p v).r, .slice a' (Pl.pwD d p v).xs.length ca', .slice b' (Pl.pwD d p v).ys.length cb', .int .i64 (Pl.pwD d p v).t], .bool (Pl.pwOk d p v)]) ∧ DevIn w' w.heap.size (Pl.pwD d p v) a' b' ca' ∧ Kept 0 0 w w' := by
  have HA := hide ha
  have HB := hide hb
  have K0 := hide (kept_new (kept_alloc w (.cells #[.int .i64 d.e, .int .i64 d.l, .bool d.r, .slice a d.xs.length ca, .slice b d.ys.length cb, .int .i64 d.t] 24)) (.cells #[.int .i64 0, .int .i64 0, .bool false, .slice none 0 0, .slice none 0 0, .int .i64 0] 24))
  have P0 := ((Blk.new w #[.int .i64 d.e, .int .i64 d.l, .bool d.r, .slice a d.xs.length ca, .slice b d.ys.length cb, .int .i64 d.t] 24).alloc (.cells #[.int .i64 0, .int .i64 0, .bool false, .slice none 0 0, .slice none 0 0, .int .i64 0] 24))
  have R0 := Blk.new (w.alloc (.cells #[.int .i64 d.e, .int .i64 d.l, .bool d.r, .slice a d.xs.length ca, .slice b d.ys.length cb, .int .i64 d.t] 24)) #[.int .i64 0, .int .i64 0, .bool false, .slice none 0 0, .slice none 0 0, .int .i64 0] 24
  simp only [World.size_alloc] at R0
  replace R0 := hide R0
  obtain ⟨D, hDD⟩ : ∃ D, D = Pl.pwD d p v := ⟨_, rfl⟩
  obtain ⟨O, hOO⟩ : ∃ O, O = Pl.pwOk d p v := ⟨_, rfl⟩
  rw [← hDD, ← hOO]
  have HQ := hide (sd_write d p v)
  rw [← hDD, ← hOO] at HQ
  clear ha hb hDD hOO
  go_enter Try.func34, Try.ntmps34
  go_wp2_with fail
  have CN := implStepDevice ((w.alloc (.cells #[.int .i64 d.e, .int .i64 d.l, .bool d.r, .slice a d.xs.length ca, .slice b d.ys.length cb, .int .i64 d.t] 24)).alloc (.cells #[.int .i64 0, .int .i64 0, .bool false, .slice none 0 0, .slice none 0 0, .int .i64 0] 24)) d a b ca cb 4 p v (HA.out.keptS K0.out) (HB.out.keptS K0.out) lx ly wfd (by decide) wfp wfv
  rw [HQ.out.1, HQ.out.2] at CN
  refine CN.mono ?_
  clear CN
  rintro e w5 ⟨a5, b5, ca5, cb5, rfl, hD5, k5⟩
  have R5 := hide ((R0.out.kept0 k5).alloc (.cells #[.int .i64 D.e, .int .i64 D.l, .bool D.r, .slice a5 D.xs.length ca5, .slice b5 D.ys.length cb5, .int .i64 D.t] 24))
  have N5 := hide (Blk.new w5 #[.int .i64 D.e, .int .i64 D.l, .bool D.r, .slice a5 D.xs.length ca5, .slice b5 D.ys.length cb5, .int .i64 D.t] 24)
  have K5 := hide (kept_new (K0.out.trans k5) (.cells #[.int .i64 D.e, .int .i64 D.l, .bool D.r, .slice a5 D.xs.length ca5, .slice b5 D.ys.length cb5, .int .i64 D.t] 24))
  have D6 := hide (hD5.kept (kept_alloc w5 (.cells #[.int .i64 D.e, .int .i64 D.l, .bool D.r, .slice a5 D.xs.length ca5, .slice b5 D.ys.length cb5, .int .i64 D.t] 24)))
  have n5 := (R0.out.kept0 k5).lt
  have n6 := hD5
  simp only [World.size_alloc] at n6
  clear k5
  go_upto_region 2 with fail
  obtain ⟨Y, hY⟩ : ∃ Y : World, Y = w5.alloc (.cells #[.int .i64 D.e, .int .i64 D.l, .bool D.r, .slice a5 D.xs.length ca5, .slice b5 D.ys.length cb5, .int .i64 D.t] 24) := ⟨_, rfl⟩
  rw [← hY] at R5 N5 K5 D6 ⊢
  clear hY
  have y0 := R5.out.cell (i := 0) rfl
  have yf0 := R5.out.frozen 0
  have y1 := R5.out.cell (i := 1) rfl
  have yf1 := R5.out.frozen 1
  have y2 := R5.out.cell (i := 2) rfl
  have yf2 := R5.out.frozen 2
  have y3 := R5.out.cell (i := 3) rfl
  have yf3 := R5.out.frozen 3
  have y4 := R5.out.cell (i := 4) rfl
  have yf4 := R5.out.frozen 4
  have y5 := R5.out.cell (i := 5) rfl
  have yf5 := R5.out.frozen 5
  have m0 := N5.out.cell (i := 0) rfl
  have m1 := N5.out.cell (i := 1) rfl
  have m2 := N5.out.cell (i := 2) rfl
  have m3 := N5.out.cell (i := 3) rfl
  have m4 := N5.out.cell (i := 4) rfl
  have m5 := N5.out.cell (i := 5) rfl
  replace D6 := D6.out
  simp only [World.size_alloc] at D6
  go_wp2_with fail
  have hx : ∀ g, blk a5 = some g ∨ blk b5 = some g → g ≠ w.heap.size + 1 := by
    intro g hg
    rcases hg with hg | hg
    · have := n6.1.blk_in g hg; omega
    · have := n6.2.1.blk_in g hg; omega
  refine bodyPost_ret (v := .tuple #[.agg #[.int .i64 D.e, .int .i64 D.l, .bool D.r, .slice a5 D.xs.length ca5, .slice b5 D.ys.length cb5, .int .i64 D.t], .bool O]) ?_ rfl ⟨a5, b5, ca5, cb5, rfl, ?_, ?_⟩
  · rw [results_cell_tmp rfl]; go_simp
  · exact ((((((D6.setOther _ _ _ hx).setOther _ _ _ hx).setOther _ _ _ hx).setOther _ _ _ hx).setOther _ _ _ hx).setOther _ _ _ hx).base (by omega)
  · exact (kept_set (kept_set (kept_set (kept_set (kept_set (kept_set K5.out _ _ _ (.inr (by omega))) _ _ _ (.inr (by omega))) _ _ _ (.inr (by omega))) _ _ _ (.inr (by omega))) _ _ _ (.inr (by omega))) _ _ _ (.inr (by omega)))

end Go.Proofs.Ytlocilcnmbmikaa
