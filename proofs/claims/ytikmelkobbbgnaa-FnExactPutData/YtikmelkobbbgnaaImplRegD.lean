/- What the program's bank answers for registers, status. -/
import Derived.Test.YtikmelkobbbgnaaImplRegC
import Derived.Deep.QuietTactic
import Derived.Deep.RegionHeld3
import Derived.BigQuiet
namespace Go.Proofs.Ytikmelkobbbgnaa
open Go.RowKit
set_option linter.unusedVariables false
theorem listOf (x0 x1 x2 x3 : Int) (w : World) :
    Calls Try.prog 64 #[.agg #[.int .i64 x0, .int .i64 x1, .int .i64 x2, .int .i64 x3]] w fun e w' => ∃ g : Nat, e = .returned (.slice (some ⟨g, 0, none⟩) 4 4) ∧ w.heap.size ≤ g ∧ Blk w' g (cellsOf [x0, x1, x2, x3]) 3 ∧ Kept 0 0 w w' :=
  (listOf4 x0 x1 x2 x3 w).mono (fun e w' h => ⟨_, h.1, by omega, h.2⟩)
theorem bkS {w : World} {b : Nat} {r : Pl.Rg} {t : TypeId} (h : Blk w b (bkR r) t) : w.cell? ⟨b, 0, none⟩ = some (.int .i64 (el r.xs 0)) ∧ w.cell? ⟨b, 1, none⟩ = some (.int .i64 (el r.xs 1)) ∧ w.cell? ⟨b, 2, none⟩ = some (.int .i64 (el r.xs 2)) ∧ w.cell? ⟨b, 3, none⟩ = some (.int .i64 (el r.xs 3)) ∧ w.cell? ⟨b, 4, none⟩ = some (.int .i64 (el r.ys 0)) ∧ w.cell? ⟨b, 5, none⟩ = some (.int .i64 (el r.ys 1)) ∧ w.cell? ⟨b, 6, none⟩ = some (.int .i64 (el r.ys 2)) ∧ w.cell? ⟨b, 7, none⟩ = some (.int .i64 (el r.ys 3)) ∧ w.cell? ⟨b, 8, none⟩ = some (.int .i64 r.o) ∧ w.cell? ⟨b, 9, none⟩ = some (.int .i64 r.p) ∧ w.cell? ⟨b, 10, none⟩ = some (.int .i64 r.f) ∧ w.cell? ⟨b, 11, none⟩ = some (.int .i64 r.m) ∧ w.cell? ⟨b, 12, none⟩ = some (.bool r.s) ∧ w.cell? ⟨b, 13, none⟩ = some (.bool r.t) :=
  ⟨h.cell (i := 0) rfl, h.cell (i := 1) rfl, h.cell (i := 2) rfl, h.cell (i := 3) rfl, h.cell (i := 4) rfl, h.cell (i := 5) rfl, h.cell (i := 6) rfl, h.cell (i := 7) rfl, h.cell (i := 8) rfl, h.cell (i := 9) rfl, h.cell (i := 10) rfl, h.cell (i := 11) rfl, h.cell (i := 12) rfl, h.cell (i := 13) rfl⟩
set_option maxHeartbeats 4000000 in
theorem bankStatus (r : Pl.Rg) (w : World) (f0 : 0 ≤ r.f) (f1 : r.f ≤ 31) (m0 : 0 ≤ r.m) (m1 : r.m ≤ 7) :
    Calls Try.prog 56 #[.agg (bkR r)] w fun e w' => e = .returned (.int .i64 (Pl.status r)) ∧ Kept 0 0 w w' := by
  obtain ⟨s0, s1⟩ : 0 ≤ Pl.fl1 r.s 256 ∧ Pl.fl1 r.s 256 ≤ 256 := by cases r.s <;> simp [Pl.fl1]
  obtain ⟨t0, t1⟩ : 0 ≤ Pl.fl1 r.t 512 ∧ Pl.fl1 r.t 512 ≤ 512 := by cases r.t <;> simp [Pl.fl1]
  have w64 : ∀ {n : Int}, -9223372036854775808 ≤ n → n ≤ 9223372036854775807 → IntKind.i64.wrap n = n := fun h0 h1 => by rw [IntKind.wrap_i64]; omega
  have e1 : IntKind.i64.wrap (r.m * 32) = r.m * 32 := w64 (by omega) (by omega)
  have e2 : IntKind.i64.wrap (r.f + r.m * 32) = r.f + r.m * 32 := w64 (by omega) (by omega)
  have e3 : IntKind.i64.wrap (r.f + r.m * 32 + Pl.fl1 r.s 256) = r.f + r.m * 32 + Pl.fl1 r.s 256 := w64 (by omega) (by omega)
  have e4 : IntKind.i64.wrap (r.f + r.m * 32 + Pl.fl1 r.s 256 + Pl.fl1 r.t 512) = r.f + r.m * 32 + Pl.fl1 r.s 256 + Pl.fl1 r.t 512 := w64 (by omega) (by omega)
  clear w64
  have HK := hide (kept_alloc w (.cells (bkR r) 55))
  have E : Hid (r.f + r.m * 32 + Pl.fl1 r.s 256 + Pl.fl1 r.t 512 = Pl.status r) := hide (by unfold Pl.status; omega)
  unfold bkR
  go_enter Try.func56, Try.ntmps56
  go_wp2_with fail
  go_quiet (first | (go_at_call 69; exact Calls.quiet_of_same (flagsIf6 _ _ _)) | fail)
  go_wp2_with fail
  go_ret
  exact ⟨rI E.out, kept_drewN HK.out _⟩
theorem Bd {w : World} {b : Nat} {cs : Array Value} {t : TypeId} (h : Blk w b cs t) : Blk w.drew b cs t := h
set_option maxHeartbeats 4000000 in
theorem bankRegs (r : Pl.Rg) (w : World) (lx : r.xs.length = 4) (ly : r.ys.length = 4) :
    Calls Try.prog 33 #[.agg (bkR r)] w fun e w' => ∃ (a' b' : Option Addr) (ca' cb' : Nat), e = .returned (.agg #[.slice a' r.xs.length ca', .slice b' r.ys.length cb', .int .i64 r.o, .int .i64 r.p, .int .i64 r.f, .int .i64 r.m, .bool r.s, .bool r.t]) ∧ RegIn w' w.heap.size r a' b' ∧ Kept 0 0 w w' := by
  have LX := hide lx
  have LY := hide ly
  clear lx ly
  have B0 := hide ((Blk.new w (bkR r) 55).alloc (.cells #[.slice none 0 0, .slice none 0 0, .int .i64 0, .int .i64 0, .int .i64 0, .int .i64 0, .bool false, .bool false] 24))
  have R0 := Blk.new (w.alloc (.cells (bkR r) 55)) #[.slice none 0 0, .slice none 0 0, .int .i64 0, .int .i64 0, .int .i64 0, .int .i64 0, .bool false, .bool false] 24
  simp only [World.size_alloc] at R0
  replace R0 := hide R0
  have K0 := hide (kept_new (kept_alloc w (.cells (bkR r) 55)) (.cells #[.slice none 0 0, .slice none 0 0, .int .i64 0, .int .i64 0, .int .i64 0, .int .i64 0, .bool false, .bool false] 24))
  unfold bkR
  go_enter Try.func33, Try.ntmps33
  go_wp2_with fail
  obtain ⟨W, hW⟩ : ∃ W : World, W = (w.alloc (.cells (bkR r) 55)).alloc (.cells #[.slice none 0 0, .slice none 0 0, .int .i64 0, .int .i64 0, .int .i64 0, .int .i64 0, .bool false, .bool false] 24) := ⟨_, rfl⟩
  have hW2 : (w.alloc (.cells #[.int .i64 (el r.xs 0), .int .i64 (el r.xs 1), .int .i64 (el r.xs 2), .int .i64 (el r.xs 3), .int .i64 (el r.ys 0), .int .i64 (el r.ys 1), .int .i64 (el r.ys 2), .int .i64 (el r.ys 3), .int .i64 r.o, .int .i64 r.p, .int .i64 r.f, .int .i64 r.m, .bool r.s, .bool r.t] 55)).alloc (.cells #[.slice none 0 0, .slice none 0 0, .int .i64 0, .int .i64 0, .int .i64 0, .int .i64 0, .bool false, .bool false] 24) = W := hW.symm
  rw [← hW] at B0 R0 K0
  rw [hW2]
  clear hW hW2
  obtain ⟨c0, c1, c2, c3, c4, c5, c6, c7, c8, c9, c10, c11, c12, c13⟩ := bkS B0.out
  go_region_held3 (fun w' => w'.cell? ⟨w.heap.size, 0, none⟩ = some (.int .i64 (el r.xs 0)) ∧ w'.cell? ⟨w.heap.size, 1, none⟩ = some (.int .i64 (el r.xs 1)) ∧ w'.cell? ⟨w.heap.size, 2, none⟩ = some (.int .i64 (el r.xs 2)) ∧ w'.cell? ⟨w.heap.size, 3, none⟩ = some (.int .i64 (el r.xs 3)) ∧ w'.cell? ⟨w.heap.size, 4, none⟩ = some (.int .i64 (el r.ys 0)) ∧ w'.cell? ⟨w.heap.size, 5, none⟩ = some (.int .i64 (el r.ys 1)) ∧ w'.cell? ⟨w.heap.size, 6, none⟩ = some (.int .i64 (el r.ys 2)) ∧ w'.cell? ⟨w.heap.size, 7, none⟩ = some (.int .i64 (el r.ys 3)) ∧ w'.cell? ⟨w.heap.size, 8, none⟩ = some (.int .i64 r.o) ∧ w'.cell? ⟨w.heap.size, 9, none⟩ = some (.int .i64 r.p) ∧ w'.cell? ⟨w.heap.size, 10, none⟩ = some (.int .i64 r.f) ∧ w'.cell? ⟨w.heap.size, 11, none⟩ = some (.int .i64 r.m) ∧ w'.cell? ⟨w.heap.size, 12, none⟩ = some (.bool r.s) ∧ w'.cell? ⟨w.heap.size, 13, none⟩ = some (.bool r.t)) (first | with_reducible exact bkS B4.out | with_reducible exact bkS B3.out | with_reducible exact bkS (Bd B0.out) | exact bkS ((((((((B4.out.other _ _ _ (by omega)).other _ _ _ (by omega)).other _ _ _ (by omega)).other _ _ _ (by omega)).other _ _ _ (by omega)).other _ _ _ (by omega)).other _ _ _ (by omega)).other _ _ _ (by omega)))
    (first | (go_at_call 64; have B4 := B3; clear B4; refine (listOf _ _ _ _ _).mono ?_; rintro e w4 ⟨g', rfl, hg4, hb4, kd⟩; have B4 := hide (B3.out.kept0 kd); have R4 := hide (R3.out.kept0 kd); have q0 := R4.out.cell (i := 0) rfl; have fq0 := R4.out.frozen 0; have q1 := R4.out.cell (i := 1) rfl; have fq1 := R4.out.frozen 1; have q2 := R4.out.cell (i := 2) rfl; have fq2 := R4.out.frozen 2; have q3 := R4.out.cell (i := 3) rfl; have fq3 := R4.out.frozen 3; have q4 := R4.out.cell (i := 4) rfl; have fq4 := R4.out.frozen 4; have q5 := R4.out.cell (i := 5) rfl; have fq5 := R4.out.frozen 5; have q6 := R4.out.cell (i := 6) rfl; have fq6 := R4.out.frozen 6; have q7 := R4.out.cell (i := 7) rfl; have fq7 := R4.out.frozen 7; have G4 := hide (G3.out.kept0 kd); have H4 := hide hb4; have L4 := hide hg4; have K4 := hide (K3.out.trans kd); clear hg4 hb4 kd) | (go_at_call 64; refine (listOf _ _ _ _ _).mono ?_; rintro e w3 ⟨g, rfl, hg3, hb3, kd⟩; have k3 := undrewK kd; have B3 := hide (B0.out.kept0 k3); have R3 := hide (R0.out.kept0 k3); have G3 := hide hb3; have L3 : Hid (W.heap.size ≤ g) := hide hg3; have K3 := hide (K0.out.trans k3); clear hg3 hb3 kd k3))
  go_wp2_with fail
  have l0 := R0.out.lt
  have l3 := L3.out
  have l4 := L4.out
  have l5 := G3.out.lt
  have l6 := H4.out.lt
  have l7 := G4.out.lt
  have k0 := K0.out.size
  refine bodyPost_ret (v := .agg #[.slice (some ⟨g, 0, none⟩) 4 4, .slice (some ⟨g', 0, none⟩) 4 4, .int .i64 r.o, .int .i64 r.p, .int .i64 r.f, .int .i64 r.m, .bool r.s, .bool r.t]) ?_ rfl ⟨some ⟨g, 0, none⟩, some ⟨g', 0, none⟩, 4, 4, ?_, ⟨.inr ⟨g, rfl, by omega, ?_, ?_⟩, .inr ⟨g', rfl, by omega, ?_, ?_⟩, ?_⟩, ?_⟩
  · rw [results_one rfl]; go_simp
  · rw [LX.out, LY.out]
  · simpa using l7
  · rw [list4 LX.out]; exact own_of_blk ((((((((G4.out.other _ _ _ (by omega)).other _ _ _ (by omega)).other _ _ _ (by omega)).other _ _ _ (by omega)).other _ _ _ (by omega)).other _ _ _ (by omega)).other _ _ _ (by omega)).other _ _ _ (by omega))
  · simpa using l6
  · rw [list4 LY.out]; exact own_of_blk ((((((((H4.out.other _ _ _ (by omega)).other _ _ _ (by omega)).other _ _ _ (by omega)).other _ _ _ (by omega)).other _ _ _ (by omega)).other _ _ _ (by omega)).other _ _ _ (by omega)).other _ _ _ (by omega))
  · intro g2 h2 h3
    simp [blk] at h2 h3
    omega
  · exact (kept_set (kept_set (kept_set (kept_set (kept_set (kept_set (kept_set (kept_set K4.out _ _ _ (.inr (by omega))) _ _ _ (.inr (by omega))) _ _ _ (.inr (by omega))) _ _ _ (.inr (by omega))) _ _ _ (.inr (by omega))) _ _ _ (.inr (by omega))) _ _ _ (.inr (by omega))) _ _ _ (.inr (by omega)))
end Go.Proofs.Ytikmelkobbbgnaa
