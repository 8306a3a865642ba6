/- What the model of StatusOf answers, for every argument. -/
import Derived.Test.YtikmelkobbbgnaaSpecReg1
namespace Go.Proofs.Ytikmelkobbbgnaa
open Go.RowKit
set_option linter.unusedVariables false

theorem w64 {n : Int} (h0 : -9223372036854775808 ≤ n) (h1 : n ≤ 9223372036854775807) : IntKind.i64.wrap n = n := by rw [IntKind.wrap_i64]; omega
theorem fl1_in (b : Bool) (n : Int) (h : 0 ≤ n) : 0 ≤ Pl.fl1 b n ∧ Pl.fl1 b n ≤ n := by cases b <;> simp [Pl.fl1] <;> omega

set_option maxHeartbeats 4000000 in
theorem specStatus (w : World) (r : Pl.Rg) (a b : Option Addr) (ca cb : Nat) (hg : Pl.Good r) :
    Calls Try.prog 55 #[.agg #[.slice a r.xs.length ca, .slice b r.ys.length cb, .int .i64 r.o, .int .i64 r.p, .int .i64 r.f, .int .i64 r.m, .bool r.s, .bool r.t]] w fun e w' => e = .returned (.int .i64 (Pl.status r)) ∧ Kept 0 0 w w' := by
  have HK := hide (kept_alloc w (.cells #[.slice a r.xs.length ca, .slice b r.ys.length cb, .int .i64 r.o, .int .i64 r.p, .int .i64 r.f, .int .i64 r.m, .bool r.s, .bool r.t] 24))
  have f0 := hg.f0
  have f1 := hg.f1
  have m0 := hg.m0
  have m1 := hg.m1
  clear hg
  obtain ⟨s0, s1⟩ := fl1_in r.s 256 (by decide)
  obtain ⟨t0, t1⟩ := fl1_in r.t 512 (by decide)
  have e1 : IntKind.i64.wrap (32 * r.m) = 32 * r.m := w64 (by omega) (by omega)
  have e2 : IntKind.i64.wrap (r.f + 32 * r.m) = r.f + 32 * r.m := w64 (by omega) (by omega)
  have e3 : IntKind.i64.wrap (r.f + 32 * r.m + Pl.fl1 r.s 256) = r.f + 32 * r.m + Pl.fl1 r.s 256 := w64 (by omega) (by omega)
  have e4 : IntKind.i64.wrap (r.f + 32 * r.m + Pl.fl1 r.s 256 + Pl.fl1 r.t 512) = r.f + 32 * r.m + Pl.fl1 r.s 256 + Pl.fl1 r.t 512 := w64 (by omega) (by omega)
  go_enter Try.func55, Try.ntmps55
  go_wp2_with fail
  go_quiet (first | (go_at_call 68; exact Calls.quiet_of_same (l1Flag6 _ _ _)) | fail)
  go_wp2_with fail
  go_ret
  exact ⟨rI rfl, kept_drewN HK.out _⟩

theorem specStatusOf (w : World) (r : Pl.Rg) (a b : Option Addr) (ca cb : Nat) (ha : IRow w a r.xs) (hb : IRow w b r.ys) (lx : r.xs.length ≤ 2000000) (ly : r.ys.length ≤ 2000000) :
    Calls Try.prog 25 #[.agg #[.slice a r.xs.length ca, .slice b r.ys.length cb, .int .i64 r.o, .int .i64 r.p, .int .i64 r.f, .int .i64 r.m, .bool r.s, .bool r.t]] w fun e w' => e = .returned (.tuple #[.int .i64 (Pl.soV r), .bool (Pl.rgOk r)]) ∧ Kept 0 0 w w' := by
  have HA := hide ha
  have HB := hide hb
  have K0 := hide (kept_alloc w (.cells #[.slice a r.xs.length ca, .slice b r.ys.length cb, .int .i64 r.o, .int .i64 r.p, .int .i64 r.f, .int .i64 r.m, .bool r.s, .bool r.t] 24))
  have B0 := hide (Blk.new w #[.slice a r.xs.length ca, .slice b r.ys.length cb, .int .i64 r.o, .int .i64 r.p, .int .i64 r.f, .int .i64 r.m, .bool r.s, .bool r.t] 24)
  clear ha hb
  cases h1 : Pl.rgOk r
  · go_enter Try.func25, Try.ntmps25
    go_wp2_with (go_at_call 17; refine (specGoodRegs _ r a b ca cb (HA.out.keptS K0.out) (HB.out.keptS K0.out) lx ly).mono ?_; rintro e w2 ⟨rfl, k2⟩; rw [h1])
    go_ret2
    exact ⟨rIB (by simp [Pl.soV, h1]) rfl, K0.out.trans k2⟩
  · have HG := hide (Pl.good_of h1)
    have EV : Hid (Pl.soV r = Pl.status r) := hide (by simp [Pl.soV, h1])
    go_enter Try.func25, Try.ntmps25
    go_wp2_with (first
      | (go_at_call 17; refine (specGoodRegs _ r a b ca cb (HA.out.keptS K0.out) (HB.out.keptS K0.out) lx ly).mono ?_; rintro e w2 ⟨rfl, k2⟩; rw [h1]; have BL := B0.out.kept0 k2; have c0 := BL.cell (i := 0) rfl; have c1 := BL.cell (i := 1) rfl; have c2 := BL.cell (i := 2) rfl; have c3 := BL.cell (i := 3) rfl; have c4 := BL.cell (i := 4) rfl; have c5 := BL.cell (i := 5) rfl; have c6 := BL.cell (i := 6) rfl; have c7 := BL.cell (i := 7) rfl; clear BL)
      | (go_at_call 55; refine (specStatus _ r a b ca cb HG.out).mono ?_; rintro e w3 ⟨rfl, k3⟩))
    go_ret2
    exact ⟨rIB EV.out.symm rfl, (K0.out.trans k2).trans k3⟩
end Go.Proofs.Ytikmelkobbbgnaa
