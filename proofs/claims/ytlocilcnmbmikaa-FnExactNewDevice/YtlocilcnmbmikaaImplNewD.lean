/- What the program's NewDevice answers. -/
import Derived.Test.YtlocilcnmbmikaaSpecDev1
import Derived.Conc.LoneCalls
namespace Go.Proofs.Ytlocilcnmbmikaa
open Go.RowKit Go.Conc
set_option linter.unusedVariables false

theorem implNewDevice (w : World) :
    Calls Try.prog 11 #[] w fun e w' => ∃ (a b : Option Addr) (ca cb : Nat), e = .returned (.agg #[.int .i64 Pl.devNew.e, .int .i64 Pl.devNew.l, .bool Pl.devNew.r, .slice a Pl.devNew.xs.length ca, .slice b Pl.devNew.ys.length cb, .int .i64 Pl.devNew.t]) ∧ DevIn w' w.heap.size Pl.devNew a b ca ∧ Kept 0 0 w w' := by
  have K0 := hide (kept_alloc w (.cells #[.int .i64 0, .int .i64 0, .bool false, .slice none 0 0, .slice none 0 0, .int .i64 0] 24))
  have R0 := Blk.new w #[.int .i64 0, .int .i64 0, .bool false, .slice none 0 0, .slice none 0 0, .int .i64 0] 24
  go_enter Try.func11, Try.ntmps11
  go_wp2_with fail
  refine bodyPost_ret (v := .agg #[.int .i64 8, .int .i64 8, .bool false, .slice none 0 0, .slice none 0 0, .int .i64 0]) ?_ rfl ?_
  · rw [results_one rfl]; go_simp
  · exact ⟨none, none, 0, 0, rfl, ⟨.inl ⟨rfl, rfl⟩, .inl ⟨rfl, rfl⟩, by intro g hg; simp [blk] at hg, Nat.le_refl _⟩, kept_alloc _ _⟩
end Go.Proofs.Ytlocilcnmbmikaa
