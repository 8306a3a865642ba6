/- What the program's bank answers for registers, status. What the program does for shifts, branches, jumps and the status, of a processor that is worked on. What the program does for the status and for coming back, of a processor that is worked on. -/
import Derived.Test.YtblddehlkaolbaaGreatDoorJA23
import Derived.Deep.QuietTactic
import Derived.Deep.RegionHeld3
import Derived.BigQuiet
import Derived.Test.YtblddehlkaolbaaGreatDoorJA29
import Derived.Test.YtblddehlkaolbaaGreatDoorJA32
namespace Go.Proofs.YtblddehlkaolbaaGreatDoor
open Go.RowKit
set_option linter.unusedVariables false
theorem listOf (x0 x1 x2 x3 : Int) (w : World) :
    Calls Tryz.prog 102 #[.agg #[.int .i64 x0, .int .i64 x1, .int .i64 x2, .int .i64 x3]] w fun e w' => ∃ g : Nat, e = .returned (.slice (some ⟨g, 0, none⟩) 4 4) ∧ w.heap.size ≤ g ∧ Blk w' g (cellsOf [x0, x1, x2, x3]) 3 ∧ Kept 0 0 w w' :=
  (listOf4 x0 x1 x2 x3 w).mono (fun e w' h => ⟨_, h.1, by omega, h.2⟩)
theorem bkS {w : World} {b : Nat} {r : Pl.Rg} {t : TypeId} (h : Blk w b (bkR r) t) : w.cell? ⟨b, 0, none⟩ = some (.int .i64 (el r.xs 0)) ∧ w.cell? ⟨b, 1, none⟩ = some (.int .i64 (el r.xs 1)) ∧ w.cell? ⟨b, 2, none⟩ = some (.int .i64 (el r.xs 2)) ∧ w.cell? ⟨b, 3, none⟩ = some (.int .i64 (el r.xs 3)) ∧ w.cell? ⟨b, 4, none⟩ = some (.int .i64 (el r.ys 0)) ∧ w.cell? ⟨b, 5, none⟩ = some (.int .i64 (el r.ys 1)) ∧ w.cell? ⟨b, 6, none⟩ = some (.int .i64 (el r.ys 2)) ∧ w.cell? ⟨b, 7, none⟩ = some (.int .i64 (el r.ys 3)) ∧ w.cell? ⟨b, 8, none⟩ = some (.int .i64 r.o) ∧ w.cell? ⟨b, 9, none⟩ = some (.int .i64 r.p) ∧ w.cell? ⟨b, 10, none⟩ = some (.int .i64 r.f) ∧ w.cell? ⟨b, 11, none⟩ = some (.int .i64 r.m) ∧ w.cell? ⟨b, 12, none⟩ = some (.bool r.s) ∧ w.cell? ⟨b, 13, none⟩ = some (.bool r.t) :=
  ⟨h.cell (i := 0) rfl, h.cell (i := 1) rfl, h.cell (i := 2) rfl, h.cell (i := 3) rfl, h.cell (i := 4) rfl, h.cell (i := 5) rfl, h.cell (i := 6) rfl, h.cell (i := 7) rfl, h.cell (i := 8) rfl, h.cell (i := 9) rfl, h.cell (i := 10) rfl, h.cell (i := 11) rfl, h.cell (i := 12) rfl, h.cell (i := 13) rfl⟩
set_option maxHeartbeats 4000000 in
theorem bankStatus (r : Pl.Rg) (w : World) (f0 : 0 ≤ r.f) (f1 : r.f ≤ 31) (m0 : 0 ≤ r.m) (m1 : r.m ≤ 7) :
    Calls Tryz.prog 190 #[.agg (bkR r)] w fun e w' => e = .returned (.int .i64 (Pl.status r)) ∧ Kept 0 0 w w' := by
  obtain ⟨s0, s1⟩ : 0 ≤ Pl.fl1 r.s 256 ∧ Pl.fl1 r.s 256 ≤ 256 := by cases r.s <;> simp [Pl.fl1]
  obtain ⟨t0, t1⟩ : 0 ≤ Pl.fl1 r.t 512 ∧ Pl.fl1 r.t 512 ≤ 512 := by cases r.t <;> simp [Pl.fl1]
  have w64 : ∀ {n : Int}, -9223372036854775808 ≤ n → n ≤ 9223372036854775807 → IntKind.i64.wrap n = n := fun h0 h1 => by rw [IntKind.wrap_i64]; omega
  have e1 : IntKind.i64.wrap (r.m * 32) = r.m * 32 := w64 (by omega) (by omega)
  have e2 : IntKind.i64.wrap (r.f + r.m * 32) = r.f + r.m * 32 := w64 (by omega) (by omega)
  have e3 : IntKind.i64.wrap (r.f + r.m * 32 + Pl.fl1 r.s 256) = r.f + r.m * 32 + Pl.fl1 r.s 256 := w64 (by omega) (by omega)
  have e4 : IntKind.i64.wrap (r.f + r.m * 32 + Pl.fl1 r.s 256 + Pl.fl1 r.t 512) = r.f + r.m * 32 + Pl.fl1 r.s 256 + Pl.fl1 r.t 512 := w64 (by omega) (by omega)
  clear w64
  have HK := hide (kept_alloc w (.cells (bkR r) 89))
  have E : Hid (r.f + r.m * 32 + Pl.fl1 r.s 256 + Pl.fl1 r.t 512 = Pl.status r) := hide (by unfold Pl.status; omega)
  unfold bkR
  go_enter Tryz.func190, Tryz.ntmps190
  go_wp2_with fail
  go_quiet (first | (go_at_call 189; exact Calls.quiet_of_same (flagsIf6 _ _ _)) | fail)
  go_wp2_with fail
  go_ret
  exact ⟨rI E.out, kept_drewN HK.out _⟩
theorem Bd {w : World} {b : Nat} {cs : Array Value} {t : TypeId} (h : Blk w b cs t) : Blk w.drew b cs t := h
set_option maxHeartbeats 4000000 in
theorem bankRegs (r : Pl.Rg) (w : World) (lx : r.xs.length = 4) (ly : r.ys.length = 4) :
    Calls Tryz.prog 54 #[.agg (bkR r)] w fun e w' => ∃ (a' b' : Option Addr) (ca' cb' : Nat), e = .returned (.agg #[.slice a' r.xs.length ca', .slice b' r.ys.length cb', .int .i64 r.o, .int .i64 r.p, .int .i64 r.f, .int .i64 r.m, .bool r.s, .bool r.t]) ∧ RegIn w' w.heap.size r a' b' ∧ Kept 0 0 w w' := by
  have LX := hide lx
  have LY := hide ly
  clear lx ly
  have B0 := hide ((Blk.new w (bkR r) 89).alloc (.cells #[.slice none 0 0, .slice none 0 0, .int .i64 0, .int .i64 0, .int .i64 0, .int .i64 0, .bool false, .bool false] 31))
  have R0 := Blk.new (w.alloc (.cells (bkR r) 89)) #[.slice none 0 0, .slice none 0 0, .int .i64 0, .int .i64 0, .int .i64 0, .int .i64 0, .bool false, .bool false] 31
  simp only [World.size_alloc] at R0
  replace R0 := hide R0
  have K0 := hide (kept_new (kept_alloc w (.cells (bkR r) 89)) (.cells #[.slice none 0 0, .slice none 0 0, .int .i64 0, .int .i64 0, .int .i64 0, .int .i64 0, .bool false, .bool false] 31))
  unfold bkR
  go_enter Tryz.func54, Tryz.ntmps54
  go_wp2_with fail
  obtain ⟨W, hW⟩ : ∃ W : World, W = (w.alloc (.cells (bkR r) 89)).alloc (.cells #[.slice none 0 0, .slice none 0 0, .int .i64 0, .int .i64 0, .int .i64 0, .int .i64 0, .bool false, .bool false] 31) := ⟨_, rfl⟩
  have hW2 : (w.alloc (.cells #[.int .i64 (el r.xs 0), .int .i64 (el r.xs 1), .int .i64 (el r.xs 2), .int .i64 (el r.xs 3), .int .i64 (el r.ys 0), .int .i64 (el r.ys 1), .int .i64 (el r.ys 2), .int .i64 (el r.ys 3), .int .i64 r.o, .int .i64 r.p, .int .i64 r.f, .int .i64 r.m, .bool r.s, .bool r.t] 89)).alloc (.cells #[.slice none 0 0, .slice none 0 0, .int .i64 0, .int .i64 0, .int .i64 0, .int .i64 0, .bool false, .bool false] 31) = W := hW.symm
  rw [← hW] at B0 R0 K0
  rw [hW2]
  clear hW hW2
  obtain ⟨c0, c1, c2, c3, c4, c5, c6, c7, c8, c9, c10, c11, c12, c13⟩ := bkS B0.out
  go_region_held3 (fun w' => w'.cell? ⟨w.heap.size, 0, none⟩ = some (.int .i64 (el r.xs 0)) ∧ w'.cell? ⟨w.heap.size, 1, none⟩ = some (.int .i64 (el r.xs 1)) ∧ w'.cell? ⟨w.heap.size, 2, none⟩ = some (.int .i64 (el r.xs 2)) ∧ w'.cell? ⟨w.heap.size, 3, none⟩ = some (.int .i64 (el r.xs 3)) ∧ w'.cell? ⟨w.heap.size, 4, none⟩ = some (.int .i64 (el r.ys 0)) ∧ w'.cell? ⟨w.heap.size, 5, none⟩ = some (.int .i64 (el r.ys 1)) ∧ w'.cell? ⟨w.heap.size, 6, none⟩ = some (.int .i64 (el r.ys 2)) ∧ w'.cell? ⟨w.heap.size, 7, none⟩ = some (.int .i64 (el r.ys 3)) ∧ w'.cell? ⟨w.heap.size, 8, none⟩ = some (.int .i64 r.o) ∧ w'.cell? ⟨w.heap.size, 9, none⟩ = some (.int .i64 r.p) ∧ w'.cell? ⟨w.heap.size, 10, none⟩ = some (.int .i64 r.f) ∧ w'.cell? ⟨w.heap.size, 11, none⟩ = some (.int .i64 r.m) ∧ w'.cell? ⟨w.heap.size, 12, none⟩ = some (.bool r.s) ∧ w'.cell? ⟨w.heap.size, 13, none⟩ = some (.bool r.t)) (first | with_reducible exact bkS B4.out | with_reducible exact bkS B3.out | with_reducible exact bkS (Bd B0.out) | exact bkS ((((((((B4.out.other _ _ _ (by omega)).other _ _ _ (by omega)).other _ _ _ (by omega)).other _ _ _ (by omega)).other _ _ _ (by omega)).other _ _ _ (by omega)).other _ _ _ (by omega)).other _ _ _ (by omega)))
    (first | (go_at_call 102; have B4 := B3; clear B4; refine (listOf _ _ _ _ _).mono ?_; rintro e w4 ⟨g', rfl, hg4, hb4, kd⟩; have B4 := hide (B3.out.kept0 kd); have R4 := hide (R3.out.kept0 kd); have q0 := R4.out.cell (i := 0) rfl; have fq0 := R4.out.frozen 0; have q1 := R4.out.cell (i := 1) rfl; have fq1 := R4.out.frozen 1; have q2 := R4.out.cell (i := 2) rfl; have fq2 := R4.out.frozen 2; have q3 := R4.out.cell (i := 3) rfl; have fq3 := R4.out.frozen 3; have q4 := R4.out.cell (i := 4) rfl; have fq4 := R4.out.frozen 4; have q5 := R4.out.cell (i := 5) rfl; have fq5 := R4.out.frozen 5; have q6 := R4.out.cell (i := 6) rfl; have fq6 := R4.out.frozen 6; have q7 := R4.out.cell (i := 7) rfl; have fq7 := R4.out.frozen 7; have G4 := hide (G3.out.kept0 kd); have H4 := hide hb4; have L4 := hide hg4; have K4 := hide (K3.out.trans kd); clear hg4 hb4 kd) | (go_at_call 102; refine (listOf _ _ _ _ _).mono ?_; rintro e w3 ⟨g, rfl, hg3, hb3, kd⟩; have k3 := undrewK kd; have B3 := hide (B0.out.kept0 k3); have R3 := hide (R0.out.kept0 k3); have G3 := hide hb3; have L3 : Hid (W.heap.size ≤ g) := hide hg3; have K3 := hide (K0.out.trans k3); clear hg3 hb3 kd k3))
  go_wp2_with fail
  have l0 := R0.out.lt
  have l3 := L3.out
  have l4 := L4.out
  have l5 := G3.out.lt
  have l6 := H4.out.lt
  have l7 := G4.out.lt
  have k0 := K0.out.size
  refine bodyPost_ret (v := .agg #[.slice (some ⟨g, 0, none⟩) 4 4, .slice (some ⟨g', 0, none⟩) 4 4, .int .i64 r.o, .int .i64 r.p, .int .i64 r.f, .int .i64 r.m, .bool r.s, .bool r.t]) ?_ rfl ⟨some ⟨g, 0, none⟩, some ⟨g', 0, none⟩, 4, 4, ?_, ⟨.inr ⟨g, rfl, by omega, ?_, ?_⟩, .inr ⟨g', rfl, by omega, ?_, ?_⟩, ?_⟩, ?_⟩
  · rw [results_one rfl]; go_simp
  · rw [LX.out, LY.out]
  · simpa using l7
  · rw [list4 LX.out]; exact own_of_blk ((((((((G4.out.other _ _ _ (by omega)).other _ _ _ (by omega)).other _ _ _ (by omega)).other _ _ _ (by omega)).other _ _ _ (by omega)).other _ _ _ (by omega)).other _ _ _ (by omega)).other _ _ _ (by omega))
  · simpa using l6
  · rw [list4 LY.out]; exact own_of_blk ((((((((H4.out.other _ _ _ (by omega)).other _ _ _ (by omega)).other _ _ _ (by omega)).other _ _ _ (by omega)).other _ _ _ (by omega)).other _ _ _ (by omega)).other _ _ _ (by omega)).other _ _ _ (by omega))
  · intro g2 h2 h3
    simp [blk] at h2 h3
    omega
  · exact (kept_set (kept_set (kept_set (kept_set (kept_set (kept_set (kept_set (kept_set K4.out _ _ _ (.inr (by omega))) _ _ _ (.inr (by omega))) _ _ _ (.inr (by omega))) _ _ _ (.inr (by omega))) _ _ _ (.inr (by omega))) _ _ _ (.inr (by omega))) _ _ _ (.inr (by omega))) _ _ _ (.inr (by omega)))
end Go.Proofs.YtblddehlkaolbaaGreatDoor

namespace Go.Proofs.YtblddehlkaolbaaGreatDoor
open Go.RowKit
set_option linter.unusedVariables false
namespace Pl
theorem by_ok {c : Mc} (h : GM c) {z q k s : Int} (hz : z = 1 ∨ z = 2) (hq : okv z q = true) (s0 : 0 ≤ s) (s1 : s ≤ 7) (k0 : 0 ≤ k) (k1 : k ≤ 3) : okv z (byVal s z c.r.f q (k + 1)) = true := by
  have g := fit_of hq h.g.f0 h.g.f1 s s0 s1
  have ft := (goodK_ok g).2.2.2.2.2
  have ob : byOk s z c.r.f q (k + 1) = true := by unfold byOk cnt; rw [g]; simp; omega
  have vb := st_fit (k := s) ft (k + 1).toNat
  unfold byVal
  rw [if_pos ob]
  obtain ⟨v1, v2, v3, _⟩ := vb
  unfold okv; simp only [Bool.and_eq_true, Bool.or_eq_true, decide_eq_true_eq]; exact ⟨v1, v2, v3⟩
end Pl
set_option maxRecDepth 100000 in
set_option maxHeartbeats 8000000 in
theorem cShift (w : World) (lo b g : Nat) (c : Pl.Mc) (h : Bool) (op z r m k e s : Int) (hC : CAt w lo b g c h) (G : Pl.GM c) (B : Pl.InB ⟨op, z, r, m, k, e, s⟩) :
    Calls Tryz.prog 145 #[.pointer (some ⟨b, 0, none⟩), .agg #[.int .i64 op, .int .i64 z, .int .i64 r, .int .i64 m, .int .i64 k, .int .i64 e, .int .i64 s]] w fun e' w' => e' = .returned (.tuple #[]) ∧ CAt w' lo b g ((c.put z r (Pl.byVal s z c.r.f (c.low z r) (k + 1))).setF (Pl.byFl s z c.r.f (c.low z r) (k + 1))) h ∧ Kept b (b + 1) w w' := by
  obtain ⟨l0, l1, l2, l3, l4⟩ := hC.lt
  have HG := hide G
  have HB := hide B
  have K0 := hide (kept_alloc w (.cells #[.int .i64 op, .int .i64 z, .int .i64 r, .int .i64 m, .int .i64 k, .int .i64 e, .int .i64 s] 79))
  have C0 := hide (hC.alloc (.cells #[.int .i64 op, .int .i64 z, .int .i64 r, .int .i64 m, .int .i64 k, .int .i64 e, .int .i64 s] 79))
  have A0 := hide (Blk.new w #[.int .i64 op, .int .i64 z, .int .i64 r, .int .i64 m, .int .i64 k, .int .i64 e, .int .i64 s] 79)
  obtain ⟨X, hX⟩ : ∃ X : World, w.alloc (.cells #[.int .i64 op, .int .i64 z, .int .i64 r, .int .i64 m, .int .i64 k, .int .i64 e, .int .i64 s] 79) = X := ⟨_, rfl⟩
  rw [hX] at K0 C0 A0
  have sX : w.heap.size < X.heap.size := A0.out.lt
  have p := A0.out.all
  clear hC G B
  have OQ : Pl.okv z (c.low z r) = true := Pl.low_in HG.out HB.out.z HB.out.r0 HB.out.r1
  have OV := hide (Pl.by_ok (s := s) (k := k) HG.out HB.out.z OQ HB.out.s0 HB.out.s1 HB.out.k0 HB.out.k1)
  obtain ⟨Q, hQ⟩ : ∃ Q, Q = c.low z r := ⟨_, rfl⟩
  rw [← hQ] at OV OQ ⊢
  have tq := Pl.top_ok OQ
  have kb0 : 0 ≤ k := HB.out.k0
  have kb1 : k ≤ 3 := HB.out.k1
  have ew : IntKind.i64.wrap (k + 1) = k + 1 := by rw [IntKind.wrap_i64]; omega
  obtain ⟨V, hV⟩ : ∃ V, V = Pl.byVal s z c.r.f Q (k + 1) := ⟨_, rfl⟩
  obtain ⟨F, hF⟩ : ∃ F, F = Pl.byFl s z c.r.f Q (k + 1) := ⟨_, rfl⟩
  rw [← hV] at OV ⊢
  rw [← hF]
  have HQ := hide hQ
  have HV := hide hV
  have HF := hide hF
  have W6 : W64 Q := ⟨by omega, by omega⟩
  clear hQ hV hF OQ tq
  go_enter Tryz.func145, Tryz.ntmps145
  go_wp2_with fail
  clear hX p
  obtain ⟨u0, u1, u2, u3, u4, u5, u6⟩ := A0.out.c7
  have u10 := C0.out.cF
  go_region_held3 (fun w' => w'.cell? ⟨w.heap.size, 0, none⟩ = some (.int .i64 op) ∧ w'.cell? ⟨w.heap.size, 1, none⟩ = some (.int .i64 z) ∧ w'.cell? ⟨w.heap.size, 2, none⟩ = some (.int .i64 r) ∧ w'.cell? ⟨w.heap.size, 3, none⟩ = some (.int .i64 m) ∧ w'.cell? ⟨w.heap.size, 4, none⟩ = some (.int .i64 k) ∧ w'.cell? ⟨w.heap.size, 5, none⟩ = some (.int .i64 e) ∧ w'.cell? ⟨w.heap.size, 6, none⟩ = some (.int .i64 s) ∧ w'.cell? ⟨b, 10, none⟩ = some (.int .i64 c.r.f)) (first | with_reducible exact and7 A2.out.c7 C2.out.cF | with_reducible exact and7 A1.out.c7 C1.out.cF | exact and7 (show Blk _ _ _ _ from A0.out).c7 C0.out.drew.cF)
    (first | (go_at_call 180; have z9 := C1; refine (shiftBy s z c.r.f Q (k + 1) _ W6).mono ?_; rintro e9 W2 ⟨rfl, b2⟩; rw [← HV.out, ← HF.out]; have k2 := kept_below b2; have C2 := hide (C1.out.any k2); have A2 := hide (A1.out.kept0 k2); have K2 := hide (K1.out.trans k2); clear b2 k2) | (go_at_call 172; refine (cDataK _ lo b g c h z r C0.out.drew HB.out.z HB.out.r0 HB.out.r1).mono ?_; rintro e9 W1 ⟨rfl, kd⟩; rw [← HQ.out]; have k1 := undrewK kd; have C1 := hide (C0.out.any k1); have A1 := hide (A0.out.kept0 k1); have K1 := hide (K0.out.trans k1); clear kd k1))
  clear u0 u1 u2 u3 u4 u5 u6 u10
  go_wp2_with fail
  have u1 := A2.out.cell (i := 1) rfl
  have u2 := A2.out.cell (i := 2) rfl
  go_region_held3 (fun w' => w'.cell? ⟨w.heap.size, 1, none⟩ = some (.int .i64 z) ∧ w'.cell? ⟨w.heap.size, 2, none⟩ = some (.int .i64 r)) (first | with_reducible exact ⟨A3.out.cell (i := 1) rfl, A3.out.cell (i := 2) rfl⟩ | exact ⟨(show Blk _ _ _ _ from A2.out).cell (i := 1) rfl, (show Blk _ _ _ _ from A2.out).cell (i := 2) rfl⟩)
    (first | (go_at_call 173; refine (cPut _ lo b g c h z r V C2.out.drew HG.out.g HB.out.r0 HB.out.r1 HB.out.z OV.out).mono ?_; rintro e9 W3 ⟨rfl, hc3, kd⟩; have k3 := undrewK kd; have C3 := hide hc3; have A3 := hide (A2.out.kept k3 (by omega)); have K3 := hide (K2.out.any.trans k3); clear hc3 kd k3))
  have cf := C3.out.cF
  have cz := C3.out.fz
  go_wp2_with fail
  go_end0
  exact ⟨rfl, C3.out.setF F, kept_set K3.out _ _ _ (.inl ⟨by omega, by omega⟩)⟩
theorem condHoldsI (k j : Int) (k0 : 0 ≤ k) (k1 : k < 16) (j0 : 0 ≤ j) (j1 : j < 32) (w : World) : Calls Tryz.prog 181 #[.int .i64 k, .int .i64 j] w fun e w' => e = .returned (.bool (Pl.tst k j)) ∧ Kept 0 0 w w' := by
  obtain ⟨n, rfl⟩ : ∃ n : Nat, k = (n : Int) := ⟨k.toNat, by omega⟩
  obtain ⟨m, rfl⟩ : ∃ m : Nat, j = (m : Int) := ⟨j.toNat, by omega⟩
  exact condHolds n m (by omega) (by omega) w
set_option maxRecDepth 100000 in
set_option maxHeartbeats 8000000 in
theorem cBranch (w : World) (lo b g : Nat) (c : Pl.Mc) (h : Bool) (op z r m k e s : Int) (hC : CAt w lo b g c h) (G : Pl.GM c) (B : Pl.InB ⟨op, z, r, m, k, e, s⟩) (hr : r ≤ 1) :
    Calls Tryz.prog 146 #[.pointer (some ⟨b, 0, none⟩), .agg #[.int .i64 op, .int .i64 z, .int .i64 r, .int .i64 m, .int .i64 k, .int .i64 e, .int .i64 s]] w fun e' w' => e' = .returned (.tuple #[]) ∧ CAt w' lo b g (bif Pl.tst (s + 8 * r) c.r.f then c.setP ((c.r.p - 2 + e) % 65536) else c) h ∧ Kept b (b + 1) w w' := by
  obtain ⟨l0, l1, l2, l3, l4⟩ := hC.lt
  have HG := hide G
  have HB := hide B
  have K0 := hide (kept_alloc w (.cells #[.int .i64 op, .int .i64 z, .int .i64 r, .int .i64 m, .int .i64 k, .int .i64 e, .int .i64 s] 79))
  have C0 := hide (hC.alloc (.cells #[.int .i64 op, .int .i64 z, .int .i64 r, .int .i64 m, .int .i64 k, .int .i64 e, .int .i64 s] 79))
  have A0 := hide (Blk.new w #[.int .i64 op, .int .i64 z, .int .i64 r, .int .i64 m, .int .i64 k, .int .i64 e, .int .i64 s] 79)
  obtain ⟨X, hX⟩ : ∃ X : World, w.alloc (.cells #[.int .i64 op, .int .i64 z, .int .i64 r, .int .i64 m, .int .i64 k, .int .i64 e, .int .i64 s] 79) = X := ⟨_, rfl⟩
  rw [hX] at K0 C0 A0
  have sX : w.heap.size < X.heap.size := A0.out.lt
  have p := A0.out.all
  clear hC G B
  have r0 : 0 ≤ r := HB.out.r0
  have s0 : 0 ≤ s := HB.out.s0
  have s1 : s ≤ 7 := HB.out.s1
  have e0 : 0 ≤ e := HB.out.e0
  have e1 : e ≤ 65535 := HB.out.e1
  have f0 := HG.out.g.f0
  have f1 := HG.out.g.f1
  have p0 := HG.out.p0
  have p1 := HG.out.p1
  have ew1 : IntKind.i64.wrap (8 * r) = 8 * r := by rw [IntKind.wrap_i64]; omega
  have ew2 : IntKind.i64.wrap (s + 8 * r) = s + 8 * r := by rw [IntKind.wrap_i64]; omega
  have ew3 : IntKind.i64.wrap (c.r.p - 2) = c.r.p - 2 := by rw [IntKind.wrap_i64]; omega
  have ew4 : IntKind.i64.wrap (c.r.p - 2 + e) = c.r.p - 2 + e := by rw [IntKind.wrap_i64]; omega
  go_enter Tryz.func146, Tryz.ntmps146
  go_wp2_with fail
  clear hX p
  obtain ⟨u0, u1, u2, u3, u4, u5, u6⟩ := A0.out.c7
  have u10 := C0.out.cF
  go_region_held3 (fun w' => w'.cell? ⟨w.heap.size, 0, none⟩ = some (.int .i64 op) ∧ w'.cell? ⟨w.heap.size, 1, none⟩ = some (.int .i64 z) ∧ w'.cell? ⟨w.heap.size, 2, none⟩ = some (.int .i64 r) ∧ w'.cell? ⟨w.heap.size, 3, none⟩ = some (.int .i64 m) ∧ w'.cell? ⟨w.heap.size, 4, none⟩ = some (.int .i64 k) ∧ w'.cell? ⟨w.heap.size, 5, none⟩ = some (.int .i64 e) ∧ w'.cell? ⟨w.heap.size, 6, none⟩ = some (.int .i64 s) ∧ w'.cell? ⟨b, 10, none⟩ = some (.int .i64 c.r.f)) (first | with_reducible exact and7 A1.out.c7 C1.out.cF | exact and7 (show Blk _ _ _ _ from A0.out).c7 C0.out.drew.cF)
    (first | (go_at_call 181; refine (condHoldsI _ _ (by omega) (by omega) f0 (by omega) _).mono ?_; rintro e9 W1 ⟨rfl, kd⟩; have k1 := undrewK kd; have C1 := hide (C0.out.any k1); have A1 := hide (A0.out.kept0 k1); have K1 := hide (K0.out.trans k1); clear kd k1))
  clear u0 u1 u2 u3 u4 u5 u6 u10
  have q9 := C1.out.cP
  have qz := C1.out.fz
  have q5 := A1.out.cell (i := 5) rfl
  cases ht : Pl.tst (s + 8 * r) c.r.f
  · go_wp2_with fail
    go_end0
    exact ⟨rfl, by rw [ht]; exact C1.out, K1.out.any⟩
  · go_wp2_with fail
    go_region_with (first | (go_at_call 95; refine (wrapWord _ _).mono ?_; rintro e9 w' ⟨rfl, hw⟩; have hw2 := hw.symm; clear hw; subst hw2))
    all_goals
      go_end0
      exact ⟨rfl, by rw [ht]; exact (C1.out.setP _).drew, kept_drew (kept_set K1.out.any _ _ _ (.inl ⟨by omega, by omega⟩))⟩
theorem CAt.all14 {w : World} {lo b g : Nat} {c : Pl.Mc} {h : Bool} (a : CAt w lo b g c h) : w.cell? ⟨b, 0, none⟩ = some (.int .i64 (el c.r.xs 0)) ∧ w.cell? ⟨b, 1, none⟩ = some (.int .i64 (el c.r.xs 1)) ∧ w.cell? ⟨b, 2, none⟩ = some (.int .i64 (el c.r.xs 2)) ∧ w.cell? ⟨b, 3, none⟩ = some (.int .i64 (el c.r.xs 3)) ∧ w.cell? ⟨b, 4, none⟩ = some (.int .i64 (el c.r.ys 0)) ∧ w.cell? ⟨b, 5, none⟩ = some (.int .i64 (el c.r.ys 1)) ∧ w.cell? ⟨b, 6, none⟩ = some (.int .i64 (el c.r.ys 2)) ∧ w.cell? ⟨b, 7, none⟩ = some (.int .i64 (el c.r.ys 3)) ∧ w.cell? ⟨b, 8, none⟩ = some (.int .i64 c.r.o) ∧ w.cell? ⟨b, 9, none⟩ = some (.int .i64 c.r.p) ∧ w.cell? ⟨b, 10, none⟩ = some (.int .i64 c.r.f) ∧ w.cell? ⟨b, 11, none⟩ = some (.int .i64 c.r.m) ∧ w.cell? ⟨b, 12, none⟩ = some (.bool c.r.s) ∧ w.cell? ⟨b, 13, none⟩ = some (.bool c.r.t) :=
  ⟨a.cX (by omega), a.cX (by omega), a.cX (by omega), a.cX (by omega), a.cY (k := 0) (by omega), a.cY (k := 1) (by omega), a.cY (k := 2) (by omega), a.cY (k := 3) (by omega), a.cO, a.cP, a.cF, a.cM, a.cS, a.cT⟩
theorem slotAddr (T : TypeId) (U : Value) (z a : Int) (w : World) : (Instr.field 162 (.agg #[.iface T U, .int .i64 z, .int .i64 a]) 2).run Tryz.prog w = .ok (.int .i64 a) w := by kernel_rfl
/-- what jump leaves -/
def Pl.Mc.jp (c : Pl.Mc) (x : Pl.In) : Pl.Mc := bif x.s == 1 then (bif ((c.slot x.z x.m x.k x.e).push c.r.p).fine then ((c.slot x.z x.m x.k x.e).push c.r.p).setP (c.readA x.z x.m x.k x.e) else (c.slot x.z x.m x.k x.e).push c.r.p) else (c.slot x.z x.m x.k x.e).setP (c.readA x.z x.m x.k x.e)
theorem Pl.slot_p (c : Pl.Mc) (z m k e : Int) : (c.slot z m k e).r.p = c.r.p := by
  unfold Pl.Mc.slot
  cases Pl.Mc.inReg m
  · exact Pl.placeR_p c.r z m k e
  · rfl
theorem Pl.push_f (c : Pl.Mc) (v : Int) : (c.push v).f = Pl.Mc.accF c.f 2 2 c.spA := by
  unfold Pl.Mc.push
  cases (c.acc 2 2 c.spA v).fine <;> rfl
theorem Pl.push_no {c E : Pl.Mc} {v : Int} (hf : c.f = Pl.ftNo) (hE : E = c.push v) (h : (E.f.v != 0) = false) : E.f = Pl.ftNo := by
  rw [hE, Pl.push_f, hf] at h ⊢
  exact (Pl.accF_no h).2
set_option maxRecDepth 100000 in
set_option maxHeartbeats 8000000 in
theorem cJump0 (w : World) (lo b g : Nat) (c : Pl.Mc) (h : Bool) (op z r m k e : Int) (hC : CAt w lo b g c h) (G : Pl.GM c) (hf : c.f = Pl.ftNo) (B : Pl.InB ⟨op, z, r, m, k, e, 0⟩) :
    Calls Tryz.prog 147 #[.pointer (some ⟨b, 0, none⟩), .agg #[.int .i64 op, .int .i64 z, .int .i64 r, .int .i64 m, .int .i64 k, .int .i64 e, .int .i64 0]] w fun e' w' => ∃ g', e' = .returned (.agg (ftC (c.jp ⟨op, z, r, m, k, e, 0⟩).f)) ∧ CAt w' lo b g' (c.jp ⟨op, z, r, m, k, e, 0⟩) h ∧ Since w b (b + 1) g w' g' := by
  have HB := hide B
  clear B
  obtain ⟨l0, l1, l2, l3, l4⟩ := hC.lt
  have HG := hide G
  have K0 := hide (kept_new (kept_alloc w (.cells #[.int .i64 op, .int .i64 z, .int .i64 r, .int .i64 m, .int .i64 k, .int .i64 e, .int .i64 0] 79)) (.cells #[.int .i64 0, .int .i64 0, .int .i64 0, .int .i64 0, .bool false] 38))
  have C0 := hide ((hC.alloc (.cells #[.int .i64 op, .int .i64 z, .int .i64 r, .int .i64 m, .int .i64 k, .int .i64 e, .int .i64 0] 79)).alloc (.cells #[.int .i64 0, .int .i64 0, .int .i64 0, .int .i64 0, .bool false] 38))
  have A0 := hide ((Blk.new w #[.int .i64 op, .int .i64 z, .int .i64 r, .int .i64 m, .int .i64 k, .int .i64 e, .int .i64 0] 79).alloc (.cells #[.int .i64 0, .int .i64 0, .int .i64 0, .int .i64 0, .bool false] 38))
  have R0 := Blk.new (w.alloc (.cells #[.int .i64 op, .int .i64 z, .int .i64 r, .int .i64 m, .int .i64 k, .int .i64 e, .int .i64 0] 79)) #[.int .i64 0, .int .i64 0, .int .i64 0, .int .i64 0, .bool false] 38
  simp only [World.size_alloc] at R0
  replace R0 := hide R0
  obtain ⟨X, hX⟩ : ∃ X : World, (w.alloc (.cells #[.int .i64 op, .int .i64 z, .int .i64 r, .int .i64 m, .int .i64 k, .int .i64 e, .int .i64 0] 79)).alloc (.cells #[.int .i64 0, .int .i64 0, .int .i64 0, .int .i64 0, .bool false] 38) = X := ⟨_, rfl⟩
  rw [hX] at K0 C0 A0 R0
  have sX : w.heap.size + 1 < X.heap.size := R0.out.lt
  have p := A0.out.all
  clear hC G
  obtain ⟨D, hD⟩ : ∃ D, D = c.slot z m k e := ⟨_, rfl⟩
  have GD : Hid (Pl.GM D) := hide (by rw [hD]; exact HG.out.slot HB.out.k0 HB.out.k1)
  have DF : Hid (D.f = Pl.ftNo) := hide (by rw [hD]; unfold Pl.Mc.slot; cases Pl.Mc.inReg m <;> exact hf)
  have DP : Hid (D.r.p = c.r.p) := hide (by rw [hD]; exact Pl.slot_p c z m k e)
  obtain ⟨a, ha⟩ : ∃ a, a = c.readA z m k e := ⟨_, rfl⟩
  have HA := hide ha
  obtain ⟨T, U, hW⟩ := wayV_if m k e
  have HW := hide hW
  have HD := hide hD
  have sa := slotAddr T U z a
  have ET : Hid (c.jp ⟨op, z, r, m, k, e, 0⟩ = D.setP a) := hide (by rw [hD, ha]; rfl)
  clear ha hW hD
  have rr := fun W (R : Blk W (w.heap.size + 1) #[.int .i64 0, .int .i64 0, .int .i64 0, .int .i64 0, .bool false] 38) => (R.other b 9 (.int .i64 a) (by omega)).all
  have rz := fun W (R : Blk W (w.heap.size + 1) #[.int .i64 0, .int .i64 0, .int .i64 0, .int .i64 0, .bool false] 38) => (R.other b 9 (.int .i64 a) (by omega)).fz
  go_enter Tryz.func147, Tryz.ntmps147
  go_wp2_with (go_at_call 144; refine (cSlot _ lo b g c h ⟨op, z, r, m, k, e, 0⟩ C0.out HG.out HB.out).mono ?_; rintro e9 W1 ⟨rfl, hc, hk⟩; rw [← HA.out, HW.out]; rw [← HD.out] at hc; have C1 := hide hc; have A1 := hide (A0.out.kept hk (by omega)); have R1 := hide (R0.out.kept hk (by omega)); have S1 := hide (((Since.refl w b (b + 1) g).any K0.out).keptS hk (Nat.le_refl _) (Nat.le_refl _)); have p1 := A1.out.all; have r1 := R1.out.all; have rf1 := R1.out.fz; have q9 : W1.cell? ⟨b, 9, none⟩ = some (.int .i64 c.r.p) := (by have q := hc.cP; rw [DP.out] at q; exact q); have qz := hc.fz; have r2 := rr _ R1.out; have rz2 := rz _ R1.out; clear hc hk)
  have KR := (((((kept_one (W1.setCell ⟨b, 9, none⟩ (.int .i64 a)) (w.heap.size + 1) 0 (.int .i64 0)).one 1 (.int .i64 0)).one 2 (.int .i64 0)).one 3 (.int .i64 0)).one 4 (.bool false))
  refine bodyPost_ret (v := .agg #[.int .i64 0, .int .i64 0, .int .i64 0, .int .i64 0, .bool false]) ?_ rfl ⟨g, ?_, ?_, (S1.out.set b 9 (.int .i64 a) (.inl (by omega))).mine KR (by omega)⟩
  · rw [results_one rfl]; go_simp
  · rw [ET.out, show (D.setP a).f = Pl.ftNo from DF.out]; rfl
  · rw [ET.out]; exact ((C1.out.setP a).kept KR (by omega) (by omega))
set_option maxRecDepth 100000 in
set_option maxHeartbeats 8000000 in
theorem cJump1 (w : World) (lo b g : Nat) (c : Pl.Mc) (h : Bool) (op z r m k e : Int) (hC : CAt w lo b g c h) (G : Pl.GM c) (hf : c.f = Pl.ftNo) (B : Pl.InB ⟨op, z, r, m, k, e, 1⟩) :
    Calls Tryz.prog 147 #[.pointer (some ⟨b, 0, none⟩), .agg #[.int .i64 op, .int .i64 z, .int .i64 r, .int .i64 m, .int .i64 k, .int .i64 e, .int .i64 1]] w fun e' w' => ∃ g', e' = .returned (.agg (ftC (c.jp ⟨op, z, r, m, k, e, 1⟩).f)) ∧ CAt w' lo b g' (c.jp ⟨op, z, r, m, k, e, 1⟩) h ∧ Since w b (b + 1) g w' g' := by
  have HB := hide B
  clear B
  obtain ⟨l0, l1, l2, l3, l4⟩ := hC.lt
  have HG := hide G
  have K0 := hide (kept_new (kept_alloc w (.cells #[.int .i64 op, .int .i64 z, .int .i64 r, .int .i64 m, .int .i64 k, .int .i64 e, .int .i64 1] 79)) (.cells #[.int .i64 0, .int .i64 0, .int .i64 0, .int .i64 0, .bool false] 38))
  have C0 := hide ((hC.alloc (.cells #[.int .i64 op, .int .i64 z, .int .i64 r, .int .i64 m, .int .i64 k, .int .i64 e, .int .i64 1] 79)).alloc (.cells #[.int .i64 0, .int .i64 0, .int .i64 0, .int .i64 0, .bool false] 38))
  have A0 := hide ((Blk.new w #[.int .i64 op, .int .i64 z, .int .i64 r, .int .i64 m, .int .i64 k, .int .i64 e, .int .i64 1] 79).alloc (.cells #[.int .i64 0, .int .i64 0, .int .i64 0, .int .i64 0, .bool false] 38))
  have R0 := Blk.new (w.alloc (.cells #[.int .i64 op, .int .i64 z, .int .i64 r, .int .i64 m, .int .i64 k, .int .i64 e, .int .i64 1] 79)) #[.int .i64 0, .int .i64 0, .int .i64 0, .int .i64 0, .bool false] 38
  simp only [World.size_alloc] at R0
  replace R0 := hide R0
  obtain ⟨X, hX⟩ : ∃ X : World, (w.alloc (.cells #[.int .i64 op, .int .i64 z, .int .i64 r, .int .i64 m, .int .i64 k, .int .i64 e, .int .i64 1] 79)).alloc (.cells #[.int .i64 0, .int .i64 0, .int .i64 0, .int .i64 0, .bool false] 38) = X := ⟨_, rfl⟩
  rw [hX] at K0 C0 A0 R0
  have sX : w.heap.size + 1 < X.heap.size := R0.out.lt
  have p := A0.out.all
  clear hC G
  obtain ⟨D, hD⟩ : ∃ D, D = c.slot z m k e := ⟨_, rfl⟩
  have GD : Hid (Pl.GM D) := hide (by rw [hD]; exact HG.out.slot HB.out.k0 HB.out.k1)
  have DF : Hid (D.f = Pl.ftNo) := hide (by rw [hD]; unfold Pl.Mc.slot; cases Pl.Mc.inReg m <;> exact hf)
  have DP : Hid (D.r.p = c.r.p) := hide (by rw [hD]; exact Pl.slot_p c z m k e)
  obtain ⟨a, ha⟩ : ∃ a, a = c.readA z m k e := ⟨_, rfl⟩
  have HA := hide ha
  obtain ⟨T, U, hW⟩ := wayV_if m k e
  have HW := hide hW
  have HD := hide hD
  have sa := slotAddr T U z a
  obtain ⟨E, hE⟩ : ∃ E, E = D.push c.r.p := ⟨_, rfl⟩
  obtain ⟨F, hF⟩ : ∃ F, F = E.f := ⟨_, rfl⟩
  have ET : Hid (c.jp ⟨op, z, r, m, k, e, 1⟩ = bif !(F.v != 0) then E.setP a else E) := hide (by
    show (bif ((c.slot z m k e).push c.r.p).fine then ((c.slot z m k e).push c.r.p).setP (c.readA z m k e) else (c.slot z m k e).push c.r.p) = _
    rw [← hD, ← ha, ← hE, hF]; unfold Pl.Mc.fine; simp [bne])
  have HE := hide hE
  have HF := hide hF
  have HP0 := hide HG.out.p0
  have HP1 := hide HG.out.p1
  clear ha hW hD hE hF
  go_enter Tryz.func147, Tryz.ntmps147
  go_wp2_with (first | (go_at_call 182; have z9 := C1; refine (cPush _ lo b g D h c.r.p C1.out GD.out DF.out HP0.out HP1.out).mono ?_; rintro e9 W2 ⟨g', rfl, hc, hs⟩; rw [← HE.out] at hc ⊢; rw [← HF.out]; unfold ftC; have C2 := hide (hc.alloc (.cells #[.int .i64 F.v, .int .i64 F.pc, .int .i64 F.ad, .int .i64 F.wo, .bool F.wr] 38)); have A2 := hide ((hs.blk A1.out (by omega) (by omega)).alloc (.cells #[.int .i64 F.v, .int .i64 F.pc, .int .i64 F.ad, .int .i64 F.wo, .bool F.wr] 38)); have R2 := hide ((hs.blk R1.out (by omega) (by omega)).alloc (.cells #[.int .i64 F.v, .int .i64 F.pc, .int .i64 F.ad, .int .i64 F.wo, .bool F.wr] 38)); have S2 := hide ((S1.out.trans hs).alloc (.cells #[.int .i64 F.v, .int .i64 F.pc, .int .i64 F.ad, .int .i64 F.wo, .bool F.wr] 38)); have L2 := hide (Blk.new W2 #[.int .i64 F.v, .int .i64 F.pc, .int .i64 F.ad, .int .i64 F.wo, .bool F.wr] 38); have z2 := hs.size; have n2 := hs.ne (b := w.heap.size + 1) R1.out.lt (by omega); clear hc hs) | (go_at_call 144; refine (cSlot _ lo b g c h ⟨op, z, r, m, k, e, 1⟩ C0.out HG.out HB.out).mono ?_; rintro e9 W1 ⟨rfl, hc, hk⟩; rw [← HA.out, HW.out]; rw [← HD.out] at hc; have C1 := hide hc; have A1 := hide (A0.out.kept hk (by omega)); have R1 := hide (R0.out.kept hk (by omega)); have S1 := hide (((Since.refl w b (b + 1) g).any K0.out).keptS hk (Nat.le_refl _) (Nat.le_refl _)); have p1 := A1.out.all; have r1 := R1.out.all; have rf1 := R1.out.fz; have q9 : W1.cell? ⟨b, 9, none⟩ = some (.int .i64 c.r.p) := (by have q := hc.cP; rw [DP.out] at q; exact q); have qz := hc.fz; clear hc hk))
  refine (isFault F _).mono ?_
  rintro e9 W4 ⟨rfl, kf⟩
  have C4 := hide (C2.out.any kf)
  have A4 := hide (A2.out.kept0 kf)
  have R4 := hide (R2.out.kept0 kf)
  have L4 := hide (L2.out.kept0 kf)
  have S4 := hide (S2.out.any kf)
  have p4 := A4.out.all
  have q4 := L4.out.all
  have r4 := R4.out.all
  have rf4 := R4.out.fz
  clear kf
  have qa := C4.out.cP
  have qb := C4.out.fz
  have r5 := (R4.out.other b 9 (.int .i64 a) (by omega)).all
  have rf5 := (R4.out.other b 9 (.int .i64 a) (by omega)).fz
  clear hX p p1 q9 qz r1 rf1
  cases hv : (F.v != 0)
  · have E1 : Hid (c.jp ⟨op, z, r, m, k, e, 1⟩ = E.setP a) := hide (by rw [ET.out, hv]; rfl)
    have EF : Hid (E.f = Pl.ftNo) := hide (Pl.push_no DF.out HE.out (by rw [← HF.out]; exact hv))
    go_wp2_with fail
    have KR := (((((kept_one (W4.setCell ⟨b, 9, none⟩ (.int .i64 a)) (w.heap.size + 1) 0 (.int .i64 0)).one 1 (.int .i64 0)).one 2 (.int .i64 0)).one 3 (.int .i64 0)).one 4 (.bool false))
    refine bodyPost_ret (v := .agg #[.int .i64 0, .int .i64 0, .int .i64 0, .int .i64 0, .bool false]) ?_ rfl ⟨g', ?_, ?_, (S4.out.set b 9 (.int .i64 a) (.inl (by omega))).mine KR (by omega)⟩
    · rw [results_one rfl]; go_simp
    · rw [E1.out, show (E.setP a).f = Pl.ftNo from EF.out]; rfl
    · rw [E1.out]; exact ((C4.out.setP a).kept KR (by omega) (by omega))
  · have E1 : Hid (c.jp ⟨op, z, r, m, k, e, 1⟩ = E) := hide (by rw [ET.out, hv]; rfl)
    go_wp2_with fail
    have KR := (((((kept_one W4 (w.heap.size + 1) 0 (.int .i64 F.v)).one 1 (.int .i64 F.pc)).one 2 (.int .i64 F.ad)).one 3 (.int .i64 F.wo)).one 4 (.bool F.wr))
    refine bodyPost_ret (v := .agg #[.int .i64 F.v, .int .i64 F.pc, .int .i64 F.ad, .int .i64 F.wo, .bool F.wr]) ?_ rfl ⟨g', ?_, ?_, (S4.out).mine KR (by omega)⟩
    · rw [results_one rfl]; go_simp
    · rw [E1.out, ← HF.out]; rfl
    · rw [E1.out]; exact ((C4.out).kept KR (by omega) (by omega))
end Go.Proofs.YtblddehlkaolbaaGreatDoor

namespace Go.Proofs.YtblddehlkaolbaaGreatDoor
open Go.RowKit
set_option linter.unusedVariables false
namespace Pl
theorem with_status {r : Rg} (h : Good r) {r' : Rg} (h0 : r'.s = r.s) (h1 : r'.t = r.t) (h2 : r'.m = r.m) (h3 : r'.f = r.f) : withR r' (status r) = r' := by
  have a := h.f0; have b := h.f1; have c := h.m0; have d := h.m1
  have e1 : stSuper (status r) = r.s := by unfold stSuper status fl1; cases r.s <;> cases r.t <;> simp <;> omega
  have e2 : stTrace (status r) = r.t := by unfold stTrace status fl1; cases r.s <;> cases r.t <;> simp <;> omega
  have e3 : status r / 32 % 8 = r.m := by unfold status fl1; cases r.s <;> cases r.t <;> simp <;> omega
  have e4 : status r % 32 = r.f := by unfold status fl1; cases r.s <;> cases r.t <;> simp <;> omega
  unfold withR
  rw [e1, e2, e3, e4, if_pos h0.symm]
  obtain ⟨xs, ys, o, p, f, m, s, t⟩ := r'
  simp only at h0 h1 h2 h3
  rw [h0, h1, h2, h3]
theorem pop_f (c : Mc) : c.pop.f = Mc.accF c.f 1 2 (el c.r.ys 3) := by
  unfold Mc.pop
  cases (c.acc 1 2 (el c.r.ys 3) 0).fine <;> rfl
theorem pop_no {c E : Mc} (hf : c.f = ftNo) (hE : E = c.pop) (h : (E.f.v != 0) = false) : E.f = ftNo := by
  rw [hE, pop_f, hf] at h ⊢
  exact (accF_no h).2
/-- what comeBack leaves -/
def Mc.cb0 (c : Mc) : Mc := bif c.pop.fine then (c.pop.setP c.popV).setR (withR (c.pop.setP c.popV).r (status c.r)) else c.pop.setP c.popV
def Mc.cb1 (c : Mc) : Mc := bif c.pop.fine then (bif c.pop.pop.fine then (c.pop.pop.setP c.pop.popV).setR (withR (c.pop.pop.setP c.pop.popV).r (c.popV % 1024)) else c.pop.pop.setP c.pop.popV) else c.pop
end Pl
set_option maxRecDepth 100000 in
set_option maxHeartbeats 8000000 in
theorem cMove0 (w : World) (lo b g : Nat) (c : Pl.Mc) (h : Bool) (op z r m k e : Int) (hC : CAt w lo b g c h) (G : Pl.GM c) (B : Pl.InB ⟨op, z, r, m, k, e, 0⟩) (he : e ≤ 1023) :
    Calls Tryz.prog 150 #[.pointer (some ⟨b, 0, none⟩), .agg #[.int .i64 op, .int .i64 z, .int .i64 r, .int .i64 m, .int .i64 k, .int .i64 e, .int .i64 0]] w fun e' w' => e' = .returned (.tuple #[]) ∧ CAt w' lo b g (c.setR (Pl.withR c.r e)) h ∧ Kept b (b + 1) w w' := by
  obtain ⟨l0, l1, l2, l3, l4⟩ := hC.lt
  have HG := hide G
  have HB := hide B
  have K0 := hide (kept_alloc w (.cells #[.int .i64 op, .int .i64 z, .int .i64 r, .int .i64 m, .int .i64 k, .int .i64 e, .int .i64 0] 79))
  have C0 := hide (hC.alloc (.cells #[.int .i64 op, .int .i64 z, .int .i64 r, .int .i64 m, .int .i64 k, .int .i64 e, .int .i64 0] 79))
  have A0 := hide (Blk.new w #[.int .i64 op, .int .i64 z, .int .i64 r, .int .i64 m, .int .i64 k, .int .i64 e, .int .i64 0] 79)
  obtain ⟨X, hX⟩ : ∃ X : World, w.alloc (.cells #[.int .i64 op, .int .i64 z, .int .i64 r, .int .i64 m, .int .i64 k, .int .i64 e, .int .i64 0] 79) = X := ⟨_, rfl⟩
  rw [hX] at K0 C0 A0
  have sX : w.heap.size < X.heap.size := A0.out.lt
  have p := A0.out.all
  clear hC G B
  have e0 : 0 ≤ e := HB.out.e0
  go_enter Tryz.func150, Tryz.ntmps150
  go_wp2_with fail
  clear hX p
  have u5 := A0.out.cell (i := 5) rfl
  go_region_held3 (fun w' => w'.cell? ⟨w.heap.size, 5, none⟩ = some (.int .i64 e)) (first | with_reducible exact A1.out.cell (i := 5) rfl | exact (show Blk _ _ _ _ from A0.out).cell (i := 5) rfl)
    (first | (go_at_call 184; refine (cStat _ lo b g c h e C0.out.drew HG.out.g e0 he).mono ?_; rintro e9 W1 ⟨rfl, hc, kd⟩; have k1 := undrewK kd; have C1 := hide hc; have A1 := hide (A0.out.kept k1 (by omega)); have K1 := hide (K0.out.any.trans k1); clear hc kd k1))
  go_wp2_with fail
  first | go_end0 | refine bodyPost_ret (results_none rfl _ _ _) rfl ?_
  exact ⟨rfl, C1.out, K1.out⟩
set_option maxRecDepth 100000 in
set_option maxHeartbeats 8000000 in
theorem cMove1 (w : World) (lo b g : Nat) (c : Pl.Mc) (h : Bool) (op z r m k e : Int) (hC : CAt w lo b g c h) (G : Pl.GM c) (B : Pl.InB ⟨op, z, r, m, k, e, 1⟩) :
    Calls Tryz.prog 150 #[.pointer (some ⟨b, 0, none⟩), .agg #[.int .i64 op, .int .i64 z, .int .i64 r, .int .i64 m, .int .i64 k, .int .i64 e, .int .i64 1]] w fun e' w' => e' = .returned (.tuple #[]) ∧ CAt w' lo b g (c.setR { c.r with xs := c.r.xs.set r.toNat (Pl.status c.r) }) h ∧ Kept b (b + 1) w w' := by
  obtain ⟨l0, l1, l2, l3, l4⟩ := hC.lt
  have HG := hide G
  have HB := hide B
  have K0 := hide (kept_alloc w (.cells #[.int .i64 op, .int .i64 z, .int .i64 r, .int .i64 m, .int .i64 k, .int .i64 e, .int .i64 1] 79))
  have C0 := hide (hC.alloc (.cells #[.int .i64 op, .int .i64 z, .int .i64 r, .int .i64 m, .int .i64 k, .int .i64 e, .int .i64 1] 79))
  have A0 := hide (Blk.new w #[.int .i64 op, .int .i64 z, .int .i64 r, .int .i64 m, .int .i64 k, .int .i64 e, .int .i64 1] 79)
  obtain ⟨X, hX⟩ : ∃ X : World, w.alloc (.cells #[.int .i64 op, .int .i64 z, .int .i64 r, .int .i64 m, .int .i64 k, .int .i64 e, .int .i64 1] 79) = X := ⟨_, rfl⟩
  rw [hX] at K0 C0 A0
  have sX : w.heap.size < X.heap.size := A0.out.lt
  have p := A0.out.all
  clear hC G B
  obtain ⟨n, rfl⟩ : ∃ n : Nat, r = (n : Int) := ⟨r.toNat, by have : 0 ≤ r := HB.out.r0; omega⟩
  have hn : n < 4 := by have : (n : Int) ≤ 3 := HB.out.r1; omega
  have i0 : (0 : Int) ≤ (n : Int) := by omega
  have i1 : (n : Int) < 4 := by omega
  go_enter Tryz.func150, Tryz.ntmps150
  go_wp2_with fail
  clear hX p
  have u2 := A0.out.cell (i := 2) rfl
  obtain ⟨v0, v1, v2, v3, v4, v5, v6, v7, v8, v9, v10, v11, v12, v13⟩ := C0.out.all14
  go_region_with (first | (go_at_call 190; refine (bankStatus c.r _ HG.out.g.f0 HG.out.g.f1 HG.out.g.m0 HG.out.g.m1).mono ?_; rintro e9 W1 ⟨rfl, kd⟩; have k1 := undrewK kd; have C1 := hide (C0.out.any k1); have K1 := hide (K0.out.trans k1); have q1 := C1.out.cX hn; have qz := C1.out.fz; have u2' := (A0.out.kept0 k1).cell (i := 2) rfl; clear kd k1))
  all_goals
    go_wp2_with fail
    first | go_end0 | refine bodyPost_ret (results_none rfl _ _ _) rfl ?_
    exact ⟨rfl, C1.out.setX HG.out.g.d4 hn _, kept_set K1.out.any _ _ _ (.inl ⟨by omega, by omega⟩)⟩
set_option maxRecDepth 100000 in
set_option maxHeartbeats 8000000 in
theorem cBack0 (w : World) (lo b g : Nat) (c : Pl.Mc) (h : Bool) (op z r m k e : Int) (hC : CAt w lo b g c h) (G : Pl.GM c) (hf : c.f = Pl.ftNo) :
    Calls Tryz.prog 183 #[.pointer (some ⟨b, 0, none⟩), .agg #[.int .i64 op, .int .i64 z, .int .i64 r, .int .i64 m, .int .i64 k, .int .i64 e, .int .i64 0]] w fun e' w' => ∃ g', e' = .returned (.agg (ftC c.cb0.f)) ∧ CAt w' lo b g' (c.cb0) h ∧ Since w b (b + 1) g w' g' := by
  obtain ⟨l0, l1, l2, l3, l4⟩ := hC.lt
  have HG := hide G
  have K0 := hide (kept_new (kept_alloc w (.cells #[.int .i64 op, .int .i64 z, .int .i64 r, .int .i64 m, .int .i64 k, .int .i64 e, .int .i64 0] 79)) (.cells #[.int .i64 0, .int .i64 0, .int .i64 0, .int .i64 0, .bool false] 38))
  have C0 := hide ((hC.alloc (.cells #[.int .i64 op, .int .i64 z, .int .i64 r, .int .i64 m, .int .i64 k, .int .i64 e, .int .i64 0] 79)).alloc (.cells #[.int .i64 0, .int .i64 0, .int .i64 0, .int .i64 0, .bool false] 38))
  have A0 := hide ((Blk.new w #[.int .i64 op, .int .i64 z, .int .i64 r, .int .i64 m, .int .i64 k, .int .i64 e, .int .i64 0] 79).alloc (.cells #[.int .i64 0, .int .i64 0, .int .i64 0, .int .i64 0, .bool false] 38))
  have R0 := Blk.new (w.alloc (.cells #[.int .i64 op, .int .i64 z, .int .i64 r, .int .i64 m, .int .i64 k, .int .i64 e, .int .i64 0] 79)) #[.int .i64 0, .int .i64 0, .int .i64 0, .int .i64 0, .bool false] 38
  simp only [World.size_alloc] at R0
  replace R0 := hide R0
  obtain ⟨X, hX⟩ : ∃ X : World, (w.alloc (.cells #[.int .i64 op, .int .i64 z, .int .i64 r, .int .i64 m, .int .i64 k, .int .i64 e, .int .i64 0] 79)).alloc (.cells #[.int .i64 0, .int .i64 0, .int .i64 0, .int .i64 0, .bool false] 38) = X := ⟨_, rfl⟩
  rw [hX] at K0 C0 A0 R0
  have sX : w.heap.size + 1 < X.heap.size := R0.out.lt
  have p := A0.out.all
  clear hC G
  obtain ⟨ST, hST⟩ : ∃ x, x = Pl.status c.r := ⟨_, rfl⟩
  have st := Pl.status_in HG.out.g
  rw [← hST] at st
  obtain ⟨st0, st1⟩ := st
  obtain ⟨E, hE⟩ : ∃ E, E = c.pop := ⟨_, rfl⟩
  obtain ⟨V, hV⟩ : ∃ V, V = c.popV := ⟨_, rfl⟩
  obtain ⟨F, hF⟩ : ∃ F, F = E.f := ⟨_, rfl⟩
  have vb := Pl.popV_in HG.out
  rw [← hV] at vb
  have GE : Hid (Pl.GM (E.setP V)) := hide (by have q := HG.out.pop; rw [← hE] at q; exact q.setP vb.1 vb.2)
  have ET : Hid (c.cb0 = bif !(F.v != 0) then (E.setP V).setR (Pl.withR (E.setP V).r ST) else E.setP V) := hide (by
    unfold Pl.Mc.cb0
    rw [← hE, ← hV, ← hST, hF]; unfold Pl.Mc.fine; simp [bne])
  have HS := hide hST
  have HE := hide hE
  have HV := hide hV
  have HF := hide hF
  have er : ST % 1024 = ST := by omega
  have er2 : ST.tmod 1024 = ST := by rw [Int.tmod_eq_emod_of_nonneg st0]; exact er
  clear hST hE hV hF vb
  obtain ⟨v0, v1, v2, v3, v4, v5, v6, v7, v8, v9, v10, v11, v12, v13⟩ := C0.out.all14
  go_enter Tryz.func183, Tryz.ntmps183
  go_wp2_with (first | (go_at_call 215; have z9 := C1; refine (cPop _ lo b g c h C1.out HG.out hf).mono ?_; rintro e9 W2 ⟨g', rfl, hc, hs⟩; rw [← HE.out] at hc ⊢; rw [← HV.out, ← HF.out]; unfold ftC; have C2 := hide hc; have A2 := hide (hs.blk A1.out (by omega) (by omega)); have R2 := hide (hs.blk R1.out (by omega) (by omega)); have L2 := hide (hs.blk L1.out (by omega) (by omega)); have S2 := hide (((Since.refl w b (b + 1) g).any K1.out).trans hs); have z2 := hs.size; have n2 := hs.ne (b := w.heap.size + 1) R1.out.lt (by omega); have m2 := hs.ne (b := W1.heap.size) L1.out.lt (by omega); have o2 := hs.ne (b := w.heap.size) A1.out.lt (by omega); have c9 := hc.cP; have cz := hc.fz; have lb := ((hs.blk L1.out (by omega) (by omega)).other b 9 (.int .i64 V) (by omega)).all; have lf := ((hs.blk L1.out (by omega) (by omega)).other b 9 (.int .i64 V) (by omega)).fz; clear hc hs) | (go_at_call 190; refine (bankStatus c.r _ HG.out.g.f0 HG.out.g.f1 HG.out.g.m0 HG.out.g.m1).mono ?_; rintro e9 W1 ⟨rfl, k1⟩; rw [← HS.out]; have C1 := hide ((C0.out.any k1).alloc (.cells #[.int .i64 0, .int .i64 0, .int .i64 0, .int .i64 0, .bool false] 38)); have A1 := hide ((A0.out.kept0 k1).alloc (.cells #[.int .i64 0, .int .i64 0, .int .i64 0, .int .i64 0, .bool false] 38)); have R1 := hide ((R0.out.kept0 k1).alloc (.cells #[.int .i64 0, .int .i64 0, .int .i64 0, .int .i64 0, .bool false] 38)); have K1 := hide (kept_new (K0.out.trans k1) (.cells #[.int .i64 0, .int .i64 0, .int .i64 0, .int .i64 0, .bool false] 38)); have L1 := hide (Blk.new W1 #[.int .i64 0, .int .i64 0, .int .i64 0, .int .i64 0, .bool false] 38); have s1 := k1.size; have p1 := A1.out.all; have l1a := L1.out.all; have l1f := L1.out.fz; clear k1))
  have KF4 := (((((kept_one (W2.setCell ⟨b, 9, none⟩ (.int .i64 V)) W1.heap.size 0 (.int .i64 F.v)).one 1 (.int .i64 F.pc)).one 2 (.int .i64 F.ad)).one 3 (.int .i64 F.wo)).one 4 (.bool F.wr))
  refine (isFault F _).mono ?_
  rintro e9 W4 ⟨rfl, kf⟩
  have C4 := hide (((C2.out.setP V).kept KF4 (by omega) (by omega)).any kf)
  have A4 := hide (((A2.out.other b 9 (.int .i64 V) (by omega)).kept KF4 (by omega)).kept0 kf)
  have R4 := hide (((R2.out.other b 9 (.int .i64 V) (by omega)).kept KF4 (by omega)).kept0 kf)
  have S4 := hide (((S2.out.set b 9 (.int .i64 V) (.inl (by omega))).mine KF4 (by omega)).any kf)
  have L4 : Hid (Blk W4 W1.heap.size #[.int .i64 F.v, .int .i64 F.pc, .int .i64 F.ad, .int .i64 F.wo, .bool F.wr] 38) := hide (Blk.kept0 (((((((L2.out.other b 9 (.int .i64 V) (by omega))).set 0 (.int .i64 F.v)).set 1 (.int .i64 F.pc)).set 2 (.int .i64 F.ad)).set 3 (.int .i64 F.wo)).set 4 (.bool F.wr)) kf)
  have p4 := A4.out.all
  have q4 := L4.out.all
  have r4 := R4.out.all
  have rf4 := R4.out.fz
  have qf4 := L4.out.fz
  clear kf KF4
  clear hX p p1 l1a l1f lb lf c9 cz v0 v1 v2 v3 v4 v5 v6 v7 v8 v9 v10 v11 v12 v13
  cases hv : (F.v != 0)
  · have E1 : Hid (c.cb0 = (E.setP V).setR (Pl.withR (E.setP V).r ST)) := hide (by rw [ET.out, hv]; rfl)
    have EF : Hid (E.f = Pl.ftNo) := hide (Pl.pop_no hf HE.out (by rw [← HF.out]; exact hv))
    go_wp2_with (first | (go_at_call 184; refine (cStat _ lo b g' (E.setP V) h ST C4.out GE.out.g st0 st1).mono ?_; rintro e9 W5 ⟨rfl, hc, hk⟩; have C5 := hide hc; have R5 := hide (R4.out.kept hk (by omega)); have S5 := hide (S4.out.keptS hk (Nat.le_refl _) (Nat.le_refl _)); have r5 := R5.out.all; have rf5 := R5.out.fz; clear hc hk))
    have KR := (((((kept_one W5 (w.heap.size + 1) 0 (.int .i64 0)).one 1 (.int .i64 0)).one 2 (.int .i64 0)).one 3 (.int .i64 0)).one 4 (.bool false))
    refine bodyPost_ret (v := .agg #[.int .i64 0, .int .i64 0, .int .i64 0, .int .i64 0, .bool false]) ?_ rfl ⟨g', ?_, ?_, (S5.out).mine KR (by omega)⟩
    · rw [results_one rfl]; go_simp
    · rw [E1.out, show ((E.setP V).setR (Pl.withR (E.setP V).r ST)).f = Pl.ftNo from EF.out]; rfl
    · rw [E1.out]; exact ((C5.out).kept KR (by omega) (by omega))
  · have E1 : Hid (c.cb0 = E.setP V) := hide (by rw [ET.out, hv]; rfl)
    go_wp2_with fail
    have KR := (((((kept_one W4 (w.heap.size + 1) 0 (.int .i64 F.v)).one 1 (.int .i64 F.pc)).one 2 (.int .i64 F.ad)).one 3 (.int .i64 F.wo)).one 4 (.bool F.wr))
    refine bodyPost_ret (v := .agg #[.int .i64 F.v, .int .i64 F.pc, .int .i64 F.ad, .int .i64 F.wo, .bool F.wr]) ?_ rfl ⟨g', ?_, ?_, (S4.out).mine KR (by omega)⟩
    · rw [results_one rfl]; go_simp
    · rw [E1.out, show (E.setP V).f = F from HF.out.symm]; rfl
    · rw [E1.out]; exact ((C4.out).kept KR (by omega) (by omega))
set_option maxRecDepth 100000 in
set_option maxHeartbeats 8000000 in
theorem cBack1 (w : World) (lo b g : Nat) (c : Pl.Mc) (h : Bool) (op z r m k e : Int) (hC : CAt w lo b g c h) (G : Pl.GM c) (hf : c.f = Pl.ftNo) :
    Calls Tryz.prog 183 #[.pointer (some ⟨b, 0, none⟩), .agg #[.int .i64 op, .int .i64 z, .int .i64 r, .int .i64 m, .int .i64 k, .int .i64 e, .int .i64 1]] w fun e' w' => ∃ g', e' = .returned (.agg (ftC c.cb1.f)) ∧ CAt w' lo b g' (c.cb1) h ∧ Since w b (b + 1) g w' g' := by
  obtain ⟨l0, l1, l2, l3, l4⟩ := hC.lt
  have HG := hide G
  have K0 := hide (kept_new (kept_alloc w (.cells #[.int .i64 op, .int .i64 z, .int .i64 r, .int .i64 m, .int .i64 k, .int .i64 e, .int .i64 1] 79)) (.cells #[.int .i64 0, .int .i64 0, .int .i64 0, .int .i64 0, .bool false] 38))
  have C0 := hide ((hC.alloc (.cells #[.int .i64 op, .int .i64 z, .int .i64 r, .int .i64 m, .int .i64 k, .int .i64 e, .int .i64 1] 79)).alloc (.cells #[.int .i64 0, .int .i64 0, .int .i64 0, .int .i64 0, .bool false] 38))
  have A0 := hide ((Blk.new w #[.int .i64 op, .int .i64 z, .int .i64 r, .int .i64 m, .int .i64 k, .int .i64 e, .int .i64 1] 79).alloc (.cells #[.int .i64 0, .int .i64 0, .int .i64 0, .int .i64 0, .bool false] 38))
  have R0 := Blk.new (w.alloc (.cells #[.int .i64 op, .int .i64 z, .int .i64 r, .int .i64 m, .int .i64 k, .int .i64 e, .int .i64 1] 79)) #[.int .i64 0, .int .i64 0, .int .i64 0, .int .i64 0, .bool false] 38
  simp only [World.size_alloc] at R0
  replace R0 := hide R0
  obtain ⟨X, hX⟩ : ∃ X : World, (w.alloc (.cells #[.int .i64 op, .int .i64 z, .int .i64 r, .int .i64 m, .int .i64 k, .int .i64 e, .int .i64 1] 79)).alloc (.cells #[.int .i64 0, .int .i64 0, .int .i64 0, .int .i64 0, .bool false] 38) = X := ⟨_, rfl⟩
  rw [hX] at K0 C0 A0 R0
  have sX : w.heap.size + 1 < X.heap.size := R0.out.lt
  have p := A0.out.all
  clear hC G
  obtain ⟨E, hE⟩ : ∃ E, E = c.pop := ⟨_, rfl⟩
  obtain ⟨V, hV⟩ : ∃ V, V = c.popV := ⟨_, rfl⟩
  obtain ⟨F, hF⟩ : ∃ F, F = E.f := ⟨_, rfl⟩
  have vb := Pl.popV_in HG.out
  rw [← hV] at vb
  obtain ⟨vb0, vb1⟩ := vb
  have GE : Hid (Pl.GM E) := hide (by rw [hE]; exact HG.out.pop)
  obtain ⟨D, hD⟩ : ∃ D, D = E.pop := ⟨_, rfl⟩
  obtain ⟨U, hU⟩ : ∃ U, U = E.popV := ⟨_, rfl⟩
  obtain ⟨J, hJ⟩ : ∃ J, J = D.f := ⟨_, rfl⟩
  have ub := Pl.popV_in GE.out
  rw [← hU] at ub
  have GD : Hid (Pl.GM (D.setP U)) := hide (by have q := GE.out.pop; rw [← hD] at q; exact q.setP ub.1 ub.2)
  have ET : Hid (c.cb1 = bif !(F.v != 0) then (bif !(J.v != 0) then (D.setP U).setR (Pl.withR (D.setP U).r (V % 1024)) else D.setP U) else E) := hide (by
    unfold Pl.Mc.cb1
    rw [← hE, ← hV, ← hD, ← hU, hF, hJ]; unfold Pl.Mc.fine; simp [bne])
  have HE := hide hE
  have HV := hide hV
  have HF := hide hF
  have HD := hide hD
  have HU := hide hU
  have HJ := hide hJ
  have er0 : 0 ≤ V % 1024 := by omega
  have er1 : V % 1024 ≤ 1023 := by omega
  have er2 : V.tmod 1024 = V % 1024 := Int.tmod_eq_emod_of_nonneg vb0
  clear hE hV hF hD hU hJ ub
  obtain ⟨v0, v1, v2, v3, v4, v5, v6, v7, v8, v9, v10, v11, v12, v13⟩ := C0.out.all14
  go_enter Tryz.func183, Tryz.ntmps183
  go_wp2_with (first | (go_at_call 215; have z9 := C1; refine (cPop _ lo b g c h C1.out HG.out hf).mono ?_; rintro e9 W2 ⟨g2, rfl, hc, hs⟩; rw [← HE.out] at hc ⊢; rw [← HV.out, ← HF.out]; unfold ftC; have C2 := hide hc; have A2 := hide (hs.blk A1.out (by omega) (by omega)); have R2 := hide (hs.blk R1.out (by omega) (by omega)); have L2 := hide (hs.blk L1.out (by omega) (by omega)); have S2 := hide (((Since.refl w b (b + 1) g).any K1.out).trans hs); have z2 := hs.size; have n2 := hs.ne (b := w.heap.size + 1) R1.out.lt (by omega); have m2 := hs.ne (b := W1.heap.size) L1.out.lt (by omega); have o2 := hs.ne (b := w.heap.size) A1.out.lt (by omega); have lb := (hs.blk L1.out (by omega) (by omega)).all; have lf := (hs.blk L1.out (by omega) (by omega)).fz; clear hc hs) | (go_at_call 190; refine (bankStatus c.r _ HG.out.g.f0 HG.out.g.f1 HG.out.g.m0 HG.out.g.m1).mono ?_; rintro e9 W1 ⟨rfl, k1⟩; have C1 := hide ((C0.out.any k1).alloc (.cells #[.int .i64 0, .int .i64 0, .int .i64 0, .int .i64 0, .bool false] 38)); have A1 := hide ((A0.out.kept0 k1).alloc (.cells #[.int .i64 0, .int .i64 0, .int .i64 0, .int .i64 0, .bool false] 38)); have R1 := hide ((R0.out.kept0 k1).alloc (.cells #[.int .i64 0, .int .i64 0, .int .i64 0, .int .i64 0, .bool false] 38)); have K1 := hide (kept_new (K0.out.trans k1) (.cells #[.int .i64 0, .int .i64 0, .int .i64 0, .int .i64 0, .bool false] 38)); have L1 := hide (Blk.new W1 #[.int .i64 0, .int .i64 0, .int .i64 0, .int .i64 0, .bool false] 38); have s1 := k1.size; have p1 := A1.out.all; have l1a := L1.out.all; have l1f := L1.out.fz; clear k1))
  have KF4 := (((((kept_one W2 W1.heap.size 0 (.int .i64 F.v)).one 1 (.int .i64 F.pc)).one 2 (.int .i64 F.ad)).one 3 (.int .i64 F.wo)).one 4 (.bool F.wr))
  refine (isFault F _).mono ?_
  rintro e9 W4 ⟨rfl, kf⟩
  have C4 := hide ((C2.out.kept KF4 (by omega) (by omega)).any kf)
  have A4 := hide ((A2.out.kept KF4 (by omega)).kept0 kf)
  have R4 := hide ((R2.out.kept KF4 (by omega)).kept0 kf)
  have S4 := hide ((S2.out.mine KF4 (by omega)).any kf)
  have L4 : Hid (Blk W4 W1.heap.size #[.int .i64 F.v, .int .i64 F.pc, .int .i64 F.ad, .int .i64 F.wo, .bool F.wr] 38) := hide (Blk.kept0 ((((((L2.out).set 0 (.int .i64 F.v)).set 1 (.int .i64 F.pc)).set 2 (.int .i64 F.ad)).set 3 (.int .i64 F.wo)).set 4 (.bool F.wr)) kf)
  have p4 := A4.out.all
  have q4 := L4.out.all
  have r4 := R4.out.all
  have rf4 := R4.out.fz
  have qf4 := L4.out.fz
  clear kf KF4
  clear hX p p1 l1a l1f lb lf v0 v1 v2 v3 v4 v5 v6 v7 v8 v9 v10 v11 v12 v13
  cases hv : (F.v != 0)
  · have EF : Hid (E.f = Pl.ftNo) := hide (Pl.pop_no hf HE.out (by rw [← HF.out]; exact hv))
    go_wp2_with (first | (go_at_call 215; have z9 := C4; refine (cPop _ lo b g2 E h C4.out GE.out EF.out).mono ?_; rintro e9 W6 ⟨g6, rfl, hc, hs⟩; rw [← HD.out] at hc ⊢; rw [← HU.out, ← HJ.out]; unfold ftC; have C6 := hide hc; have A6 := hide (hs.blk A4.out (by omega) (by omega)); have R6 := hide (hs.blk R4.out (by omega) (by omega)); have L6 := hide (hs.blk L4.out (by omega) (by omega)); have S6 := hide (S4.out.trans hs); have z6 := hs.size; have n6 := hs.ne (b := w.heap.size + 1) R4.out.lt (by omega); have m6 := hs.ne (b := W1.heap.size) L4.out.lt (by omega); have o6 := hs.ne (b := w.heap.size) A4.out.lt (by omega); have c9 := hc.cP; have cz := hc.fz; have lb := ((hs.blk L4.out (by omega) (by omega)).other b 9 (.int .i64 U) (by omega)).all; have lf := ((hs.blk L4.out (by omega) (by omega)).other b 9 (.int .i64 U) (by omega)).fz; clear hc hs))
    have KF8 := (((((kept_one (W6.setCell ⟨b, 9, none⟩ (.int .i64 U)) W1.heap.size 0 (.int .i64 J.v)).one 1 (.int .i64 J.pc)).one 2 (.int .i64 J.ad)).one 3 (.int .i64 J.wo)).one 4 (.bool J.wr))
    refine (isFault J _).mono ?_
    rintro e9 W8 ⟨rfl, kf⟩
    have C8 := hide (((C6.out.setP U).kept KF8 (by omega) (by omega)).any kf)
    have A8 := hide (((A6.out.other b 9 (.int .i64 U) (by omega)).kept KF8 (by omega)).kept0 kf)
    have R8 := hide (((R6.out.other b 9 (.int .i64 U) (by omega)).kept KF8 (by omega)).kept0 kf)
    have S8 := hide (((S6.out.set b 9 (.int .i64 U) (.inl (by omega))).mine KF8 (by omega)).any kf)
    have L8 : Hid (Blk W8 W1.heap.size #[.int .i64 J.v, .int .i64 J.pc, .int .i64 J.ad, .int .i64 J.wo, .bool J.wr] 38) := hide (Blk.kept0 (((((((L6.out.other b 9 (.int .i64 U) (by omega))).set 0 (.int .i64 J.v)).set 1 (.int .i64 J.pc)).set 2 (.int .i64 J.ad)).set 3 (.int .i64 J.wo)).set 4 (.bool J.wr)) kf)
    have p8 := A8.out.all
    have q8 := L8.out.all
    have r8 := R8.out.all
    have rf8 := R8.out.fz
    have qf8 := L8.out.fz
    clear kf KF8
    clear lb lf c9 cz p4 q4 r4 rf4 qf4
    cases hw : (J.v != 0)
    · have E1 : Hid (c.cb1 = (D.setP U).setR (Pl.withR (D.setP U).r (V % 1024))) := hide (by rw [ET.out, hv, hw]; rfl)
      have DF : Hid (D.f = Pl.ftNo) := hide (Pl.pop_no EF.out HD.out (by rw [← HJ.out]; exact hw))
      go_wp2_with (first | (go_at_call 184; refine (cStat _ lo b g6 (D.setP U) h (V % 1024) C8.out GD.out.g er0 er1).mono ?_; rintro e9 W9 ⟨rfl, hc, hk⟩; have C9 := hide hc; have R9 := hide (R8.out.kept hk (by omega)); have S9 := hide (S8.out.keptS hk (Nat.le_refl _) (Nat.le_refl _)); have r9 := R9.out.all; have rf9 := R9.out.fz; clear hc hk))
      have KR := (((((kept_one W9 (w.heap.size + 1) 0 (.int .i64 0)).one 1 (.int .i64 0)).one 2 (.int .i64 0)).one 3 (.int .i64 0)).one 4 (.bool false))
      refine bodyPost_ret (v := .agg #[.int .i64 0, .int .i64 0, .int .i64 0, .int .i64 0, .bool false]) ?_ rfl ⟨g6, ?_, ?_, (S9.out).mine KR (by omega)⟩
      · rw [results_one rfl]; go_simp
      · rw [E1.out, show ((D.setP U).setR (Pl.withR (D.setP U).r (V % 1024))).f = Pl.ftNo from DF.out]; rfl
      · rw [E1.out]; exact ((C9.out).kept KR (by omega) (by omega))
    · have E1 : Hid (c.cb1 = D.setP U) := hide (by rw [ET.out, hv, hw]; rfl)
      go_wp2_with fail
      have KR := (((((kept_one W8 (w.heap.size + 1) 0 (.int .i64 J.v)).one 1 (.int .i64 J.pc)).one 2 (.int .i64 J.ad)).one 3 (.int .i64 J.wo)).one 4 (.bool J.wr))
      refine bodyPost_ret (v := .agg #[.int .i64 J.v, .int .i64 J.pc, .int .i64 J.ad, .int .i64 J.wo, .bool J.wr]) ?_ rfl ⟨g6, ?_, ?_, (S8.out).mine KR (by omega)⟩
      · rw [results_one rfl]; go_simp
      · rw [E1.out, show (D.setP U).f = J from HJ.out.symm]; rfl
      · rw [E1.out]; exact ((C8.out).kept KR (by omega) (by omega))
  · have E1 : Hid (c.cb1 = E) := hide (by rw [ET.out, hv]; rfl)
    go_wp2_with fail
    have KR := (((((kept_one W4 (w.heap.size + 1) 0 (.int .i64 F.v)).one 1 (.int .i64 F.pc)).one 2 (.int .i64 F.ad)).one 3 (.int .i64 F.wo)).one 4 (.bool F.wr))
    refine bodyPost_ret (v := .agg #[.int .i64 F.v, .int .i64 F.pc, .int .i64 F.ad, .int .i64 F.wo, .bool F.wr]) ?_ rfl ⟨g2, ?_, ?_, (S4.out).mine KR (by omega)⟩
    · rw [results_one rfl]; go_simp
    · rw [E1.out, ← HF.out]; rfl
    · rw [E1.out]; exact ((C4.out).kept KR (by omega) (by omega))
end Go.Proofs.YtblddehlkaolbaaGreatDoor

