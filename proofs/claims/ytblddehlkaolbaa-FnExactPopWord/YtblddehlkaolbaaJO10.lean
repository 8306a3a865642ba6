/- What the program's PushWord and PopWord answer, for every processor. -/
import Derived.Test.YtblddehlkaolbaaJO9
import Derived.Test.YtblddehlkaolbaaJO7
namespace Go.Proofs.Ytblddehlkaolbaa
open Go.RowKit
set_option linter.unusedVariables false
theorem ft5 {w : World} {q : Nat} {F : Pl.Ft} {ty : TypeId} (h : Blk w q (ftC F) ty) : w.cell? ⟨q, 0, none⟩ = some (.int .i64 F.v) ∧ w.cell? ⟨q, 1, none⟩ = some (.int .i64 F.pc) ∧ w.cell? ⟨q, 2, none⟩ = some (.int .i64 F.ad) ∧ w.cell? ⟨q, 3, none⟩ = some (.int .i64 F.wo) ∧ w.cell? ⟨q, 4, none⟩ = some (.bool F.wr) :=
  ⟨h.cell (i := 0) rfl, h.cell (i := 1) rfl, h.cell (i := 2) rfl, h.cell (i := 3) rfl, h.cell (i := 4) rfl⟩
theorem CpuIn.mv {w w' : World} {base base' x y : Nat} {c : Pl.Cp} {a b e q : Option Addr} (h : CpuIn w base c a b e q) (k : Kept x y w w') (hy : y ≤ base) (hb : base' ≤ base) : CpuIn w' base' c a b e q :=
  ⟨(SlotIn.kept h.d k (.inr (.inl hy))).wide hb k.size, (SlotIn.kept h.a' k (.inr (.inl hy))).wide hb k.size, (SlotIn.kept h.b' k (.inr (.inl hy))).wide hb k.size, (SlotIn.kept h.l k (.inr (.inl hy))).wide hb k.size, h.n1, h.n2, h.n3, h.n4, h.n5, h.n6⟩
theorem kept_since {w a b : World} {lo hi g g' : Nat} (k : Kept 0 0 w a) (h : Since a lo hi g b g') (hl : w.heap.size ≤ lo) (hg : w.heap.size ≤ g) : Kept 0 0 w b :=
  ⟨h.2.os.trans k.os, h.2.tape.trans k.tape, h.2.output.trans k.output, Nat.le_trans k.size h.2.size, fun i hi _ => (h.2.block i (Nat.lt_of_lt_of_le hi k.size) (by unfold own; omega)).trans (k.block i hi (by omega))⟩
theorem Bd' {w : World} {b : Nat} {cs : Array Value} {t : TypeId} (h : Blk w b cs t) : Blk w.drew b cs t := h
set_option maxRecDepth 100000 in
set_option maxHeartbeats 4000000 in
theorem implPopWord (w : World) (c : Pl.Cp) (a b e q : Option Addr) (ca cb ce cq : Nat) (ha : Came w a c.r.xs) (hb : Came w b c.r.ys) (he : Came w e c.bx) (hq : Came w q c.bl) (lx : c.r.xs.length ≤ 2000000) (ly : c.r.ys.length ≤ 2000000) (lb : c.bx.length ≤ 2000000) (ll : c.bl.length = 5 * c.bm) (lm : c.bm ≤ 2000000) (wf : Pl.WfR c.r) :
    Calls Try.prog 23 #[.agg #[.slice a c.r.xs.length ca, .slice b c.r.ys.length cb, .int .i64 c.r.o, .int .i64 c.r.p, .int .i64 c.r.f, .int .i64 c.r.m, .bool c.r.s, .bool c.r.t, .slice e c.bx.length ce, .slice q c.bm cq, .bool c.st, .bool c.ha]] w fun r w' => ∃ (a' b' e' q' : Option Addr) (ca' cb' ce' cq' : Nat), r = .returned (.tuple #[.agg (cpuV (Pl.ppC c) a' b' e' q' ca' cb' ce' cq'), .int .i64 (Pl.ppV c), .bool (Pl.ppF c), .bool (Pl.cpOk c)]) ∧ CpuIn w' w.heap.size (Pl.ppC c) a' b' e' q' ∧ Kept 0 0 w w' := by
  have K0 := hide (kept_new (kept_alloc w (.cells #[.slice a c.r.xs.length ca, .slice b c.r.ys.length cb, .int .i64 c.r.o, .int .i64 c.r.p, .int .i64 c.r.f, .int .i64 c.r.m, .bool c.r.s, .bool c.r.t, .slice e c.bx.length ce, .slice q c.bm cq, .bool c.st, .bool c.ha] 29)) (.cells #[.slice none 0 0, .slice none 0 0, .int .i64 0, .int .i64 0, .int .i64 0, .int .i64 0, .bool false, .bool false, .slice none 0 0, .slice none 0 0, .bool false, .bool false] 29))
  have BA := hide ((Blk.new w #[.slice a c.r.xs.length ca, .slice b c.r.ys.length cb, .int .i64 c.r.o, .int .i64 c.r.p, .int .i64 c.r.f, .int .i64 c.r.m, .bool c.r.s, .bool c.r.t, .slice e c.bx.length ce, .slice q c.bm cq, .bool c.st, .bool c.ha] 29).alloc (.cells #[.slice none 0 0, .slice none 0 0, .int .i64 0, .int .i64 0, .int .i64 0, .int .i64 0, .bool false, .bool false, .slice none 0 0, .slice none 0 0, .bool false, .bool false] 29))
  have R0 := Blk.new (w.alloc (.cells #[.slice a c.r.xs.length ca, .slice b c.r.ys.length cb, .int .i64 c.r.o, .int .i64 c.r.p, .int .i64 c.r.f, .int .i64 c.r.m, .bool c.r.s, .bool c.r.t, .slice e c.bx.length ce, .slice q c.bm cq, .bool c.st, .bool c.ha] 29)) #[.slice none 0 0, .slice none 0 0, .int .i64 0, .int .i64 0, .int .i64 0, .int .i64 0, .bool false, .bool false, .slice none 0 0, .slice none 0 0, .bool false, .bool false] 29
  simp only [World.size_alloc] at R0
  replace R0 := hide R0
  obtain ⟨X, hX⟩ : ∃ X : World, (w.alloc (.cells #[.slice a c.r.xs.length ca, .slice b c.r.ys.length cb, .int .i64 c.r.o, .int .i64 c.r.p, .int .i64 c.r.f, .int .i64 c.r.m, .bool c.r.s, .bool c.r.t, .slice e c.bx.length ce, .slice q c.bm cq, .bool c.st, .bool c.ha] 29)).alloc (.cells #[.slice none 0 0, .slice none 0 0, .int .i64 0, .int .i64 0, .int .i64 0, .int .i64 0, .bool false, .bool false, .slice none 0 0, .slice none 0 0, .bool false, .bool false] 29) = X := ⟨_, rfl⟩
  rw [hX] at K0 BA R0
  have HA := hide (ha.keptS K0.out)
  have HB := hide (hb.keptS K0.out)
  have HE := hide (he.keptS K0.out)
  have HQ := hide (hq.keptS K0.out)
  have sX : w.heap.size + 1 < X.heap.size := R0.out.lt
  clear ha hb he hq
  have p := BA.out.all
  cases h1 : Pl.cpOk c
  · have EO : Hid (Pl.cpOk c = false) := hide h1
    have EC : Hid (Pl.ppC c = Pl.cpNo) := hide (by unfold Pl.ppC; rw [h1]; rfl)
    have EF : Hid (Pl.ppF c = false) := hide (by unfold Pl.ppF; rw [h1]; rfl)
    have EV : Hid (Pl.ppV c = 0) := hide (by unfold Pl.ppV; rw [h1]; rfl)
    go_enter Try.func23, Try.ntmps23
    go_wp2_with (go_at_call 19; refine (implGoodCpu _ c a b e q ca cb ce cq HA.out HB.out HE.out HQ.out lx ly lb ll lm wf).mono ?_; rintro e9 W1 ⟨rfl, k9⟩; rw [h1]; have K1 := hide k9; have R1 := hide (R0.out.kept0 k9); have p1 := (BA.out.kept0 k9).all; have r1 := R1.out.all; have rf1 := R1.out.fz; clear k9)
    have K5 := ((((((((((((kept_one W1 (w.heap.size + 1) 0 (.slice none 0 0)).one 1 (.slice none 0 0)).one 2 (.int .i64 0)).one 3 (.int .i64 0)).one 4 (.int .i64 0)).one 5 (.int .i64 0)).one 6 (.bool false)).one 7 (.bool false)).one 8 (.slice none 0 0)).one 9 (.slice none 0 0)).one 10 (.bool false)).one 11 (.bool false))
    have s1 := K1.out.size
    refine bodyPost_ret (v := .tuple #[.agg #[.slice none 0 0, .slice none 0 0, .int .i64 0, .int .i64 0, .int .i64 0, .int .i64 0, .bool false, .bool false, .slice none 0 0, .slice none 0 0, .bool false, .bool false], .int .i64 0, .bool false, .bool false]) ?_ rfl ⟨none, none, none, none, 0, 0, 0, 0, by rw [EC.out, EF.out, EV.out]; rfl, by rw [EC.out]; exact cpuIn_no _ _, kept_over (K0.out.trans K1.out) K5 (by omega)⟩
    rw [results_cell_tmp3 rfl]; go_simp
  · have HG := hide (Pl.GM.of h1 ll c.st)
    have EO : Hid (Pl.cpOk c = true) := hide h1
    have EC : Hid (Pl.ppC c = (Pl.Mc.ofC c).pop.cpu c.ha) := hide (by unfold Pl.ppC; rw [h1]; rfl)
    have EV : Hid (Pl.ppV c = (Pl.Mc.ofC c).popV) := hide (by unfold Pl.ppV; rw [h1]; rfl)
    obtain ⟨V, hV⟩ : ∃ V, V = (Pl.Mc.ofC c).popV := ⟨_, rfl⟩
    obtain ⟨M, hM⟩ : ∃ M, M = (Pl.Mc.ofC c).pop := ⟨_, rfl⟩
    have HGM : Hid (Pl.GM M) := hide (by rw [hM]; exact Pl.GM.pop (show Pl.GM (Pl.Mc.ofC c) from HG.out))
    obtain ⟨F, hF⟩ : ∃ F, F = M.f := ⟨_, rfl⟩
    have EF : Hid (Pl.ppF c = !(F.v != 0)) := hide (by unfold Pl.ppF Pl.Mc.fine; rw [h1, ← hM, ← hF]; simp [bne])
    rw [← hM] at EC
    rw [← hV] at EV
    obtain ⟨N, hN⟩ : ∃ N, N = M.cpu c.ha := ⟨_, rfl⟩
    rw [← hN] at EC
    have HN := hide hN
    have HM := hide hM
    have HF := hide hF
    have HV := hide hV
    clear hM hF hN hV
    go_enter Try.func23, Try.ntmps23
    go_wp2_with (first | (go_at_call 19; refine (implGoodCpu _ c a b e q ca cb ce cq HA.out HB.out HE.out HQ.out lx ly lb ll lm wf).mono ?_; rintro e9 W1 ⟨rfl, k9⟩; rw [h1]; have K1 := hide k9; have R1 := hide (R0.out.kept0 k9); have p1 := (BA.out.kept0 k9).all; have r1 := R1.out.all; have rf1 := R1.out.fz; clear k9) | (go_at_call 50; refine (coreOf _ c a b e q ca cb ce cq (HA.out.keptS K1.out).1 (HB.out.keptS K1.out).1 (HE.out.keptS K1.out).1 (HQ.out.keptS K1.out).1 HG.out.g.d4 HG.out.g.a4 HG.out.bx ll HG.out.bm).mono ?_; rintro e9 W3 ⟨P, g, rfl, hc9, k9⟩; have C3 := hide hc9; have R3 := hide (R1.out.kept0 k9); have K3 := hide ((K0.out.trans K1.out).trans k9); have s3 : X.heap.size ≤ W1.heap.size := K1.out.size; obtain ⟨y0, y1, y2, y3, y4⟩ := hc9.lt; clear hc9 k9) | (go_at_call 55; have z9 := C3; refine (cPop _ W1.heap.size P g (Pl.Mc.ofC c) c.ha C3.out (show Pl.GM (Pl.Mc.ofC c) from HG.out) rfl).mono ?_; rintro e9 W4 ⟨g', rfl, hc4, hs4⟩; rw [← HM.out] at hc4 ⊢; rw [← HF.out, ← HV.out]; have C4 := hide (hc4.alloc (.cells (ftC F) 76)); have R4 := hide ((hs4.2.blk R3.out (by unfold own; omega)).alloc (.cells (ftC F) 76)); have L4 := hide (Blk.new W4 (ftC F) 76); have S4 := hide hs4; obtain ⟨x0, x1, x2, x3, x4⟩ := hc4.lt; have s4 := hs4.size; unfold ftC; clear hc4 hs4))
    obtain ⟨Y, hY⟩ : ∃ Y : World, Y = W4.alloc (.cells #[.int .i64 F.v, .int .i64 F.pc, .int .i64 F.ad, .int .i64 F.wo, .bool F.wr] 76) := ⟨_, rfl⟩
    rw [← hY]
    have C5 : Hid (CAt Y W1.heap.size P g' M c.ha) := hide (by rw [hY]; exact C4.out)
    have R5 : Hid (Blk Y (w.heap.size + 1) #[.slice none 0 0, .slice none 0 0, .int .i64 0, .int .i64 0, .int .i64 0, .int .i64 0, .bool false, .bool false, .slice none 0 0, .slice none 0 0, .bool false, .bool false] 29) := hide (by rw [hY]; exact R4.out)
    have L5 : Hid (Blk Y W4.heap.size (ftC F) 76) := hide (by rw [hY]; exact L4.out)
    have K5 : Hid (Kept 0 0 w Y) := hide (by rw [hY]; exact kept_new (kept_since K3.out S4.out (by omega) (by omega)) _)
    clear hY C4 R4 L4 p p1 r1 rf1
    obtain ⟨t0, t1, t2, t3, t4⟩ := ft5 L5.out
    go_region_held3 (fun w' => w'.cell? ⟨W4.heap.size, 0, none⟩ = some (.int .i64 F.v) ∧ w'.cell? ⟨W4.heap.size, 1, none⟩ = some (.int .i64 F.pc) ∧ w'.cell? ⟨W4.heap.size, 2, none⟩ = some (.int .i64 F.ad) ∧ w'.cell? ⟨W4.heap.size, 3, none⟩ = some (.int .i64 F.wo) ∧ w'.cell? ⟨W4.heap.size, 4, none⟩ = some (.bool F.wr)) (first | with_reducible exact ft5 L7.out | with_reducible exact ft5 L6.out | with_reducible exact ft5 (Bd' L5.out) | exact ft5 (L7.out.kept (((((((((((( kept_one _ (w.heap.size + 1) _ _).one _ _).one _ _).one _ _).one _ _).one _ _).one _ _).one _ _).one _ _).one _ _).one _ _).one _ _) (by omega)))
      (first | (go_at_call 53; have z9 := L6; refine (isFault F _).mono ?_; rintro e9 W7 ⟨rfl, k7⟩; have L7 := hide (L6.out.kept0 k7); have R7 := hide (R6.out.kept0 k7); have p7 := R7.out.all; have f7 := R7.out.fz; have I7 := hide (I6.out.mv k7 (by omega) (Nat.le_refl _)); have K7 := hide (K6.out.trans k7); clear k7) | (go_at_call 52; refine (cCpu _ W1.heap.size P g' M c.ha C5.out.drew HGM.out).mono ?_; rintro e9 W6 ⟨a', b', e', q', ca', cb', ce', cq', rfl, hi6, kd⟩; have k6 := undrewK kd; rw [← HN.out] at hi6 ⊢; unfold cpuV; have I6 := hide hi6; have L6 := hide (L5.out.kept0 k6); have R6 := hide (R5.out.kept0 k6); have K6 := hide (K5.out.trans k6); clear kd k6 hi6))
    go_wp2_with fail
    have K8 := ((((((((((((kept_one W7 (w.heap.size + 1) 0 (.slice a' N.r.xs.length ca')).one 1 (.slice b' N.r.ys.length cb')).one 2 (.int .i64 N.r.o)).one 3 (.int .i64 N.r.p)).one 4 (.int .i64 N.r.f)).one 5 (.int .i64 N.r.m)).one 6 (.bool N.r.s)).one 7 (.bool N.r.t)).one 8 (.slice e' N.bx.length ce')).one 9 (.slice q' N.bm cq')).one 10 (.bool N.st)).one 11 (.bool N.ha))
    refine bodyPost_ret (v := .tuple #[.agg #[.slice a' N.r.xs.length ca', .slice b' N.r.ys.length cb', .int .i64 N.r.o, .int .i64 N.r.p, .int .i64 N.r.f, .int .i64 N.r.m, .bool N.r.s, .bool N.r.t, .slice e' N.bx.length ce', .slice q' N.bm cq', .bool N.st, .bool N.ha], .int .i64 V, .bool (!(F.v != 0)), .bool true]) ?_ rfl ⟨a', b', e', q', ca', cb', ce', cq', by rw [EC.out, EF.out, EV.out]; rfl, by rw [EC.out]; exact I7.out.mv K8 (by omega) (by omega), kept_over K7.out K8 (by omega)⟩
    rw [results_cell_tmp3 rfl]; go_simp
end Go.Proofs.Ytblddehlkaolbaa

