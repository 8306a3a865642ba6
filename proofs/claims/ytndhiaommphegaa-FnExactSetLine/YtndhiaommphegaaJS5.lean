/- A processor opened to be worked on, and shut again. The program's listener opened: a core, and two cells more. -/
import Derived.Test.YtndhiaommphegaaJS4
import Derived.Test.YtndhiaommphegaaJS2
import Derived.Test.YtndhiaommphegaaJS1
import Derived.Test.YtndhiaommphegaaJS3
import Derived.Deep.AppendLies
import Derived.Deep.QuietTactic
import Derived.BigQuiet
import Derived.Laws.Tables
namespace Go.Proofs.Ytndhiaommphegaa
open Go.RowKit
set_option linter.unusedVariables false
theorem Try.infoCore : (Try.prog.info? 93).map (fun i => (i.zero, i.size)) = some (some (.agg (cor ⟨[0, 0, 0, 0], [0, 0, 0, 0], 0, 0, 0, 0, false, false⟩ zeros (.slice none 0 0) false ⟨false, tl0⟩)), 529) := by kernel_rfl
theorem cor_laid (r : Pl.Rg) (xs : List Int) (u : Value) (st ha : Bool) (A : Array Value) (hA : A.size = 529) (lx : xs.length = 512) : laid 528 #[.bool ha] (laid 527 #[.bool st] (laid 14 (brd xs u) (laid 0 (bkR r) A))) = cor r xs u st ⟨ha, tl0⟩ := by
  have hb : (brd xs u).size = 513 := by rw [brd_size, lx]
  have hr : (bkR r).size = 14 := rfl
  apply Array.ext_getElem?
  intro i
  rw [laid_at 528 _ _ (by simp only [laid_size, hA]; exact Nat.le_refl 529), laid_at 527 _ _ (by simp only [laid_size, hA]; exact Nat.le_succ 528), laid_at 14 _ _ (by rw [laid_size, hA, hb]; decide), laid_at 0 _ _ (by rw [hA, hr]; decide), hb, hr]
  by_cases h1 : i < 14
  · rw [if_neg (by simp; omega), if_neg (by simp; omega), if_neg (by omega), if_pos (by omega), cor_lo h1]; rfl
  · by_cases h2 : i < 526
    · rw [if_neg (by simp; omega), if_neg (by simp; omega), if_pos (by omega)]
      obtain ⟨n, rfl⟩ : ∃ n, i = 14 + n := ⟨i - 14, by omega⟩
      rw [cor_at (by omega), Nat.add_sub_cancel_left, brd_at (by omega)]
    · by_cases h3 : i < 529
      · have : i = 526 ∨ i = 527 ∨ i = 528 := by omega
        rcases this with rfl | rfl | rfl
        · rw [if_neg (by simp), if_neg (by simp), if_pos (by omega), cor_log lx]; exact brd_log lx
        · rw [if_neg (by simp), if_pos (by simp), cor_st lx]; rfl
        · rw [if_pos (by simp), cor_ha lx]; rfl
      · rw [if_neg (by simp; omega), if_neg (by simp; omega), if_neg (by omega), if_neg (by omega), Array.getElem?_eq_none (by omega), Array.getElem?_eq_none (by rw [cor_size lx]; omega)]
theorem laid_one (k : Nat) (v : Value) (A : Array Value) : laid k #[v] A = A.setIfInBounds k v := rfl
/-- what the walk's own rules want of a processor that is laid down part by part -/
theorem coreFill (r : Pl.Rg) (xs : List Int) (m : Nat) (st ha : Bool) (lx : xs.length = 512) : ∃ (Z L : Array Value) (M : Option Addr → Array Value), (∀ w, (zeroValue 93).run Try.prog w = .ok (.agg Z) w) ∧ Z.size = 529 ∧ (bkR r).size = 14 ∧ (∀ d, (brd xs (.slice d m m)).size = 513) ∧
    (bkR r).zipIdx.foldl (fun cs x => cs.setIfInBounds x.2 x.1) Z 0 14 = L ∧ L.size = 529 ∧ (∀ d, (brd xs (.slice d m m)).zipIdx.foldl (fun cs x => cs.setIfInBounds (14 + x.2) x.1) L 0 513 = M d) ∧ (∀ d, (M d).size = 529) ∧
    ∀ d, ((M d).setIfInBounds 527 (.bool st)).setIfInBounds 528 (.bool ha) = cor r xs (.slice d m m) st ⟨ha, tl0⟩ := by
  have hr : (bkR r).size = 14 := rfl
  have hd : ∀ d, (brd xs (.slice d m m)).size = 513 := fun d => by rw [brd_size, lx]
  obtain ⟨Z, hz, hs⟩ : ∃ Z : Array Value, (∀ w, (zeroValue 93).run Try.prog w = .ok (.agg Z) w) ∧ Z.size = 529 := ⟨_, (zero_of_info Try.infoCore).1, cor_size zeros_len⟩
  refine ⟨Z, laid 0 (bkR r) Z, fun d => laid 14 (brd xs (.slice d m m)) (laid 0 (bkR r) Z), hz, hs, hr, hd, ?_, ?_, ?_, ?_, ?_⟩
  · unfold laid; simp [hr]
  · rw [laid_size]; exact hs
  · intro d; unfold laid; simp [hr, hd]
  · intro d; rw [laid_size, laid_size]; exact hs
  · intro d
    have := cor_laid r xs (.slice d m m) st ha Z hs lx
    rw [laid_one, laid_one] at this
    exact this
theorem cpu12 {w : World} {x : Nat} {c : Pl.Cp} {a b e q : Option Addr} {ca cb ce cq : Nat} {ty : TypeId} (h : Blk w x (cpA c a b e q ca cb ce cq) ty) : w.cell? ⟨x, 0, none⟩ = some (.slice a c.r.xs.length ca) ∧ w.cell? ⟨x, 1, none⟩ = some (.slice b c.r.ys.length cb) ∧ w.cell? ⟨x, 2, none⟩ = some (.int .i64 c.r.o) ∧ w.cell? ⟨x, 3, none⟩ = some (.int .i64 c.r.p) ∧ w.cell? ⟨x, 4, none⟩ = some (.int .i64 c.r.f) ∧ w.cell? ⟨x, 5, none⟩ = some (.int .i64 c.r.m) ∧ w.cell? ⟨x, 6, none⟩ = some (.bool c.r.s) ∧ w.cell? ⟨x, 7, none⟩ = some (.bool c.r.t) ∧ w.cell? ⟨x, 8, none⟩ = some (.slice e c.bx.length ce) ∧ w.cell? ⟨x, 9, none⟩ = some (.slice q c.bm cq) ∧ w.cell? ⟨x, 10, none⟩ = some (.bool c.st) ∧ w.cell? ⟨x, 11, none⟩ = some (.bool c.ha) :=
  ⟨h.cell (i := 0) rfl, h.cell (i := 1) rfl, h.cell (i := 2) rfl, h.cell (i := 3) rfl, h.cell (i := 4) rfl, h.cell (i := 5) rfl, h.cell (i := 6) rfl, h.cell (i := 7) rfl, h.cell (i := 8) rfl, h.cell (i := 9) rfl, h.cell (i := 10) rfl, h.cell (i := 11) rfl⟩
set_option maxRecDepth 100000 in
set_option maxHeartbeats 4000000 in
theorem coreOf (w : World) (c : Pl.Cp) (a b e q : Option Addr) (ca cb ce cq : Nat) (ha : IRow w a c.r.xs) (hb : IRow w b c.r.ys) (he : IRow w e c.bx) (hq : IRow w q c.bl) (lx : c.r.xs.length = 4) (ly : c.r.ys.length = 4) (lb : c.bx.length = 512) (ll : c.bl.length = 5 * c.bm) (lm : c.bm ≤ 400) :
    Calls Try.prog 55 #[.agg (cpA c a b e q ca cb ce cq)] w fun r w' => ∃ p g : Nat, r = .returned (.pointer (some ⟨p, 0, none⟩)) ∧ CAt w' w.heap.size p g (Pl.Mc.ofC c) ⟨c.ha, tl0⟩ ∧ Kept 0 0 w w' := by
  have K0 := hide (kept_alloc w (.cells (cpA c a b e q ca cb ce cq) 36))
  have HBA := hide (Blk.new w (cpA c a b e q ca cb ce cq) 36)
  obtain ⟨X, hX⟩ : ∃ X : World, w.alloc (.cells (cpA c a b e q ca cb ce cq) 36) = X := ⟨_, rfl⟩
  rw [hX] at K0 HBA
  have HA := hide (ha.keptS K0.out)
  have HB := hide (hb.keptS K0.out)
  have HE := hide (he.keptS K0.out)
  have HQ := hide (hq.keptS K0.out)
  obtain ⟨CZ, L1, L2, bz, z1, z2, z3, z4, z5, z6, z7, z8⟩ := coreFill c.r c.bx c.bm c.st c.ha lb
  have LX := hide lx
  have LY := hide ly
  have LB := hide lb
  have LL := hide ll
  have LM := hide lm
  clear ha hb he hq lx ly lb ll lm
  obtain ⟨i0, i1, i2, i3, i4, i5, i6, i7, i8, i9, i10, i11⟩ := cpu12 HBA.out
  go_enter Try.func55, Try.ntmps55
  go_wp2_with fail
  clear hX
  go_region_held3 (fun w' => w'.cell? ⟨w.heap.size, 0, none⟩ = some (.slice a c.r.xs.length ca) ∧ w'.cell? ⟨w.heap.size, 1, none⟩ = some (.slice b c.r.ys.length cb) ∧ w'.cell? ⟨w.heap.size, 2, none⟩ = some (.int .i64 c.r.o) ∧ w'.cell? ⟨w.heap.size, 3, none⟩ = some (.int .i64 c.r.p) ∧ w'.cell? ⟨w.heap.size, 4, none⟩ = some (.int .i64 c.r.f) ∧ w'.cell? ⟨w.heap.size, 5, none⟩ = some (.int .i64 c.r.m) ∧ w'.cell? ⟨w.heap.size, 6, none⟩ = some (.bool c.r.s) ∧ w'.cell? ⟨w.heap.size, 7, none⟩ = some (.bool c.r.t) ∧ w'.cell? ⟨w.heap.size, 8, none⟩ = some (.slice e c.bx.length ce) ∧ w'.cell? ⟨w.heap.size, 9, none⟩ = some (.slice q c.bm cq) ∧ w'.cell? ⟨w.heap.size, 10, none⟩ = some (.bool c.st) ∧ w'.cell? ⟨w.heap.size, 11, none⟩ = some (.bool c.ha)) (first | exact cpu12 B4.out | exact cpu12 B3.out | exact cpu12 (show Blk _ _ _ _ from HBA.out) | exact cpu12 (B4.out.alloc _))
    (first | (go_at_call 75; have z9 := B3; refine (boardOf _ e q ce cq c.bm c.bx c.bl (HE.out.keptS K3.out) (HQ.out.keptS K3.out) LB.out LL.out LM.out).mono ?_; rintro e9 w4 ⟨g, rfl, hb4, hg4, k4⟩; have B4 := hide (B3.out.kept0 k4); have G4 := hide hb4; have L4 := hide hg4; have K4 := hide (K3.out.trans k4); clear hb4 hg4 k4) | (go_at_call 74; refine (bankOf _ c.r a b ca cb (HA.out.keptS (kept_drew (Kept.refl _ _ _))) (HB.out.keptS (kept_drew (Kept.refl _ _ _))) LX.out LY.out).mono ?_; rintro e9 w3 ⟨rfl, kd⟩; have k3 := undrewK kd; have B3 := hide (HBA.out.kept0 k3); have K3 := hide k3; clear kd k3))
  go_wp2_with fail
  go_ret
  have s0 := K0.out.size
  have s3 := K3.out.size
  have l4 := L4.out
  have g4 := G4.out.lt
  refine ⟨w4.heap.size, g, rfl, ⟨c.bm, Blk.new w4 _ _, ⟨own5_of_blk (G4.out.alloc _) LL.out (by omega) (show c.bm ≤ 2000000 by have := LM.out; omega), ?_, ?_⟩⟩, K0.out.trans (kept_new K4.out _)⟩
  · have := K4.out.size; omega
  · omega
theorem CAt.all16 {w : World} {lo b g : Nat} {c : Pl.Mc} {h : Hl} (a : CAt w lo b g c h) (l : c.bx.length = 512) : w.cell? ⟨b, 0, none⟩ = some (.int .i64 (el c.r.xs 0)) ∧ w.cell? ⟨b, 1, none⟩ = some (.int .i64 (el c.r.xs 1)) ∧ w.cell? ⟨b, 2, none⟩ = some (.int .i64 (el c.r.xs 2)) ∧ w.cell? ⟨b, 3, none⟩ = some (.int .i64 (el c.r.xs 3)) ∧ w.cell? ⟨b, 4, none⟩ = some (.int .i64 (el c.r.ys 0)) ∧ w.cell? ⟨b, 5, none⟩ = some (.int .i64 (el c.r.ys 1)) ∧ w.cell? ⟨b, 6, none⟩ = some (.int .i64 (el c.r.ys 2)) ∧ w.cell? ⟨b, 7, none⟩ = some (.int .i64 (el c.r.ys 3)) ∧ w.cell? ⟨b, 8, none⟩ = some (.int .i64 c.r.o) ∧ w.cell? ⟨b, 9, none⟩ = some (.int .i64 c.r.p) ∧ w.cell? ⟨b, 10, none⟩ = some (.int .i64 c.r.f) ∧ w.cell? ⟨b, 11, none⟩ = some (.int .i64 c.r.m) ∧ w.cell? ⟨b, 12, none⟩ = some (.bool c.r.s) ∧ w.cell? ⟨b, 13, none⟩ = some (.bool c.r.t) ∧ w.cell? ⟨b, 527, none⟩ = some (.bool c.st) ∧ w.cell? ⟨b, 528, none⟩ = some (.bool h.a) :=
  ⟨a.cX (by omega), a.cX (by omega), a.cX (by omega), a.cX (by omega), a.cY (k := 0) (by omega), a.cY (k := 1) (by omega), a.cY (k := 2) (by omega), a.cY (k := 3) (by omega), a.cO, a.cP, a.cF, a.cM, a.cS, a.cT, a.cSt l, a.cH l⟩
set_option maxRecDepth 100000 in
set_option maxHeartbeats 4000000 in
theorem cBus (w : World) {r : Pl.Rg} {st : Bool} {ha : Hl} (b : Nat) (xs : List Int) (d : Option Addr) (n c : Nat) (hB : Blk w b (cor r xs (.slice d n c) st ha) ha.t.y) (lx : xs.length = 512) :
    Calls Try.prog 77 #[.pointer (some ⟨b, 14, none⟩)] w fun e w' => ∃ g : Nat, e = .returned (.agg #[.slice (some ⟨g, 0, none⟩) 512 512, .slice d n c]) ∧ Blk w' g (cellsOf xs) 3 ∧ w.heap.size ≤ g ∧ Kept 0 0 w w' := by
  have HX := hide lx
  have HB := hide hB
  have hu := Try.underlying89
  have hcs : (xs.map (Value.int .i64)).length = 512 := by rw [List.length_map, lx]
  have hi : (Try.prog.info? 89).map (·.size) = some (xs.map (Value.int .i64)).length := by rw [hcs]; exact Try.memSize
  have h1 : ∀ v ∈ xs.map (Value.int .i64), v.oneCell' = true := news_one
  have hlt := hB.lt
  have HR := hide ((Blk.new w #[.slice none 0 0, .slice none 0 0] 34))
  have K0 := hide (kept_alloc w (.cells #[.slice none 0 0, .slice none 0 0] 34))
  have B0 := hide (hB.alloc (.cells #[.slice none 0 0, .slice none 0 0] 34))
  clear hB lx
  go_enter Try.func77, Try.ntmps77
  go_wp2_with fail
  obtain ⟨W, hW⟩ : ∃ W : World, W = w.alloc (.cells #[.slice none 0 0, .slice none 0 0] 34) := ⟨_, rfl⟩
  rw [← hW] at HR K0 B0 ⊢
  clear hW
  obtain ⟨r1, r2⟩ := corS B0.out HX.out
  go_region_held3 (fun w' => w'.rangeAt b 14 (xs.map (Value.int .i64)) ∧ w'.cell? ⟨b, 526, none⟩ = some (.slice d n c)) (first | exact corS B3.out HX.out | exact corS ((B3.out.other _ _ _ (by omega)).other _ _ _ (by omega)) HX.out | go_keep_ranges | go_keep)
    (first | (go_at_call 88; refine (memList _ xs HX.out).mono ?_; rintro e w3 ⟨g, rfl, hb3, hg3, kd⟩; have k3 := undrewK kd; have B3 := hide (B0.out.kept0 k3); have R3 := hide (HR.out.kept0 k3); have q0 := R3.out.cell (i := 0) rfl; have q1 := R3.out.cell (i := 1) rfl; have f0 := R3.out.frozen 0; have f1 := R3.out.frozen 1; have G3 := hide hb3; have L3 := hide hg3; have K3 := hide (K0.out.trans k3); clear hb3 hg3 kd k3))
  go_wp2_with fail
  have l3 : W.heap.size ≤ g := L3.out
  have k0 := K0.out.size
  have k1 := HR.out.lt
  refine bodyPost_ret (v := .agg #[.slice (some ⟨g, 0, none⟩) 512 512, .slice d n c]) ?_ rfl ⟨g, rfl, ?_, by omega, ?_⟩
  · rw [results_one rfl]; go_simp
  · exact (G3.out.other _ _ _ (by omega)).other _ _ _ (by omega)
  · exact kept_set (kept_set K3.out _ _ _ (.inr (by omega))) _ _ _ (.inr (by omega))
set_option maxRecDepth 100000 in
set_option maxHeartbeats 4000000 in
theorem cCpuN (w : World) (lo b g : Nat) (c : Pl.Mc) (h : Hl) (hC : CAt w lo b g c h) (G : Pl.GM c) :
    Calls Try.prog 56 #[.pointer (some ⟨b, 0, none⟩)] w fun r w' => ∃ (a' b' e' q' : Option Addr) (ca' cb' ce' cq' : Nat), r = .returned (.agg (cpuV (c.cpu h.a) a' b' e' q' ca' cb' ce' cq')) ∧ CpuIn w' lo (c.cpu h.a) a' b' e' q' ∧ Kept 0 0 w w' ∧ (∀ z, blk a' = some z ∨ blk b' = some z ∨ blk e' = some z ∨ blk q' = some z → z = g ∨ w.heap.size ≤ z) := by
  obtain ⟨l0, l1, l2, l3, l4⟩ := hC.lt
  have K0 := hide (kept_alloc w (.cells cpZ 36))
  have R0 := hide (Blk.new w cpZ 36)
  have C0 := hide (hC.alloc (.cells cpZ 36))
  have LX := hide G.g.d4
  have LY := hide G.g.a4
  have LB := hide G.bx
  clear hC G
  obtain ⟨X, hX⟩ : ∃ X : World, w.alloc (.cells cpZ 36) = X := ⟨_, rfl⟩
  rw [hX] at K0 R0 C0
  obtain ⟨i0, i1, i2, i3, i4, i5, i6, i7, i8, i9, i10, i11, i12, i13, j1, j2⟩ := C0.out.all16 LB.out
  go_enter Try.func56, Try.ntmps56
  go_wp2_with fail
  clear hX
  go_region_held3 (fun w' => w'.cell? ⟨b, 0, none⟩ = some (.int .i64 (el c.r.xs 0)) ∧ w'.cell? ⟨b, 1, none⟩ = some (.int .i64 (el c.r.xs 1)) ∧ w'.cell? ⟨b, 2, none⟩ = some (.int .i64 (el c.r.xs 2)) ∧ w'.cell? ⟨b, 3, none⟩ = some (.int .i64 (el c.r.xs 3)) ∧ w'.cell? ⟨b, 4, none⟩ = some (.int .i64 (el c.r.ys 0)) ∧ w'.cell? ⟨b, 5, none⟩ = some (.int .i64 (el c.r.ys 1)) ∧ w'.cell? ⟨b, 6, none⟩ = some (.int .i64 (el c.r.ys 2)) ∧ w'.cell? ⟨b, 7, none⟩ = some (.int .i64 (el c.r.ys 3)) ∧ w'.cell? ⟨b, 8, none⟩ = some (.int .i64 c.r.o) ∧ w'.cell? ⟨b, 9, none⟩ = some (.int .i64 c.r.p) ∧ w'.cell? ⟨b, 10, none⟩ = some (.int .i64 c.r.f) ∧ w'.cell? ⟨b, 11, none⟩ = some (.int .i64 c.r.m) ∧ w'.cell? ⟨b, 12, none⟩ = some (.bool c.r.s) ∧ w'.cell? ⟨b, 13, none⟩ = some (.bool c.r.t) ∧ w'.cell? ⟨b, 527, none⟩ = some (.bool c.st) ∧ w'.cell? ⟨b, 528, none⟩ = some (.bool h.a)) (first | with_reducible exact C4.out.all16 LB.out | with_reducible exact C3.out.all16 LB.out | with_reducible exact C0.out.drew.all16 LB.out | exact (C4.out.kept (((((((((((( kept_one _ w.heap.size _ _).one _ _).one _ _).one _ _).one _ _).one _ _).one _ _).one _ _).one _ _).one _ _).one _ _).one _ _) (by omega) (by omega)).all16 LB.out)
    (first | (go_at_call 77; have z9 := C3; obtain ⟨cu, hb9, ho9⟩ := C3.out; refine (cBus _ b c.bx _ _ _ hb9 LB.out).mono ?_; rintro e9 w4 ⟨gb, rfl, hb4, hg4, k4⟩; have C4 := hide (C3.out.any k4); have B4 := hide hb4; have L4 := hide hg4; have RI4 := hide (RI3.out.kept k4); have R4 := hide (R3.out.kept0 k4); have p := R4.out.all; have pf := R4.out.fz; have O4 := hide (ho9.any k4); have K4 := hide (K3.out.trans k4); clear hb4 hg4 k4 hb9 ho9) | (go_at_call 76; refine (bankRegs c.r _ LX.out LY.out).mono ?_; rintro e9 w3 ⟨a', b', ca', cb', rfl, hr3, kd⟩; have k3 := undrewK kd; have C3 := hide (C0.out.any k3); have R3 := hide (R0.out.kept0 k3); have RI3 := hide hr3; have K3 := hide k3; clear kd k3 hr3))
  go_wp2_with fail
  have K5 := ((((((((((((kept_one w4 w.heap.size 0 (.slice a' c.r.xs.length ca')).one 1 (.slice b' c.r.ys.length cb')).one 2 (.int .i64 c.r.o)).one 3 (.int .i64 c.r.p)).one 4 (.int .i64 c.r.f)).one 5 (.int .i64 c.r.m)).one 6 (.bool c.r.s)).one 7 (.bool c.r.t)).one 8 (.slice (some ⟨gb, 0, none⟩) 512 512)).one 9 (.slice (some ⟨g, 0, none⟩) c.bm cu)).one 10 (.bool c.st)).one 11 (.bool h.a))
  have s0 : w.heap.size < X.heap.size := R0.out.lt
  have s3 : X.heap.size ≤ w3.heap.size := K3.out.size
  have s4 : w3.heap.size ≤ w4.heap.size := by have := K4.out.size; have := L4.out; have := B4.out.lt; omega
  have l4 := L4.out
  have b4 := B4.out.lt
  have s5 := K5.size
  have ra : ∀ x, blk a' = some x → X.heap.size ≤ x ∧ x < w3.heap.size := by
    intro x hx
    rcases RI3.out.1 with ⟨e1, _⟩ | ⟨y, e1, y0, y1, _⟩
    · rw [e1] at hx; cases hx
    · rw [e1] at hx; have hx' : y = x := Option.some.inj hx; subst hx'; exact ⟨y0, y1⟩
  have rb : ∀ x, blk b' = some x → X.heap.size ≤ x ∧ x < w3.heap.size := by
    intro x hx
    rcases RI3.out.2.1 with ⟨e1, _⟩ | ⟨y, e1, y0, y1, _⟩
    · rw [e1] at hx; cases hx
    · rw [e1] at hx; have hx' : y = x := Option.some.inj hx; subst hx'; exact ⟨y0, y1⟩
  refine bodyPost_ret (v := .agg #[.slice a' c.r.xs.length ca', .slice b' c.r.ys.length cb', .int .i64 c.r.o, .int .i64 c.r.p, .int .i64 c.r.f, .int .i64 c.r.m, .bool c.r.s, .bool c.r.t, .slice (some ⟨gb, 0, none⟩) 512 512, .slice (some ⟨g, 0, none⟩) c.bm cu, .bool c.st, .bool h.a]) ?_ rfl ⟨a', b', some ⟨gb, 0, none⟩, some ⟨g, 0, none⟩, ca', cb', 512, cu, ?_, ⟨?_, ?_, ?_, ?_, RI3.out.2.2, ?_, ?_, ?_, ?_, ?_⟩, ?_, ?_⟩
  · rw [results_one rfl]; go_simp
  · unfold cpuV Pl.Mc.cpu; dsimp only; rw [LB.out]
  · exact (SlotIn.kept RI4.out.1 K5 (.inr (.inl (show w.heap.size + 1 ≤ X.heap.size by omega)))).wide (show lo ≤ X.heap.size by omega) s5
  · exact (SlotIn.kept RI4.out.2.1 K5 (.inr (.inl (show w.heap.size + 1 ≤ X.heap.size by omega)))).wide (show lo ≤ X.heap.size by omega) s5
  · exact .inr ⟨gb, rfl, by omega, by omega, own_of_blk (B4.out.kept K5 (by omega))⟩
  · exact .inr ⟨g, rfl, l2, by omega, own_of_row5 (ownsRow_keptS O4.out.l K5 (by omega))⟩
  · intro x h1 h2; have h3 : gb = x := Option.some.inj h2; have := ra x h1; omega
  · intro x h1 h2; have h3 : g = x := Option.some.inj h2; have := ra x h1; omega
  · intro x h1 h2; have h3 : gb = x := Option.some.inj h2; have := rb x h1; omega
  · intro x h1 h2; have h3 : g = x := Option.some.inj h2; have := rb x h1; omega
  · intro x h1 h2; have h3 : gb = x := Option.some.inj h1; have h4 : g = x := Option.some.inj h2; omega
  · exact kept_over (K0.out.trans K4.out) K5 (by omega)
  · intro z hz
    rcases hz with hz | hz | hz | hz
    · exact .inr (by have := ra z hz; omega)
    · exact .inr (by have := rb z hz; omega)
    · have : gb = z := Option.some.inj hz
      exact .inr (by omega)
    · have : g = z := Option.some.inj hz
      exact .inl this.symm
end Go.Proofs.Ytndhiaommphegaa

namespace Go.Proofs.Ytndhiaommphegaa
open Go.RowKit
set_option linter.unusedVariables false
abbrev tlq (l : Int) (e : Bool) : Tl := ⟨#[iv l, .bool e], 97⟩
theorem Try.infoLst : (Try.prog.info? 97).map (fun i => (i.zero, i.size)) = some (some (.agg (cor ⟨[0, 0, 0, 0], [0, 0, 0, 0], 0, 0, 0, 0, false, false⟩ zeros (.slice none 0 0) false ⟨false, tlq 0 false⟩)), 531) := by kernel_rfl
theorem cor_size2 {r : Pl.Rg} {xs : List Int} {u : Value} {st ha e : Bool} {l : Int} (hl : xs.length = 512) : (cor r xs u st ⟨ha, tlq l e⟩).size = 531 := by
  have : (bkR r).size = 14 := rfl
  simp [cor, this, cellsOf_size, hl]
theorem cor_more (r : Pl.Rg) (xs : List Int) (u : Value) (st ha : Bool) (l : Int) (e : Bool) (lx : xs.length = 512) (A : Array Value) (hA : A.size = 531) : laid 530 #[.bool e] (laid 529 #[iv l] (laid 0 (cor r xs u st ⟨ha, tl0⟩) A)) = cor r xs u st ⟨ha, tlq l e⟩ := by
  have hc : (cor r xs u st ⟨ha, tl0⟩).size = 529 := cor_size lx
  apply Array.ext_getElem?
  intro i
  rw [laid_at 530 _ _ (by simp only [laid_size, hA]; exact Nat.le_refl 531), laid_at 529 _ _ (by simp only [laid_size, hA]; exact Nat.le_succ 530), laid_at 0 _ _ (by rw [hA, hc]; decide), hc]
  by_cases h1 : i < 529
  · rw [if_neg (by simp; omega), if_neg (by simp; omega), if_pos (by omega)]
    rw [show cor r xs u st ⟨ha, tlq l e⟩ = cor r xs u st ⟨ha, tl0⟩ ++ #[iv l, .bool e] from by simp [cor, Array.append_assoc]]
    rw [Array.getElem?_append_left (by rw [hc]; exact h1)]; rfl
  · by_cases h2 : i < 531
    · have : i = 529 ∨ i = 530 := by omega
      rcases this with rfl | rfl
      · rw [if_neg (by simp), if_pos (by simp), show (529 : Nat) = 529 + 0 from rfl, cor_tl lx]; rfl
      · rw [if_pos (by simp), show (530 : Nat) = 529 + 1 from rfl, cor_tl lx]; rfl
    · rw [if_neg (by simp; omega), if_neg (by simp; omega), if_neg (by omega), Array.getElem?_eq_none (by omega), Array.getElem?_eq_none (by rw [cor_size2 lx]; omega)]
theorem fill_three (cs A : Array Value) (u v : Value) (hu : u.cells = #[u]) (hv : v.cells = #[v]) (hc : cs.size = 529) (hA : A.size = 531) :
    Instr.fill (#[(0, 529), (529, 1), (530, 1)][·]?) A [(0, .agg cs), (1, u), (2, v)] = some (laid 530 #[v] (laid 529 #[u] (laid 0 cs A))) := by
  have h1 : (laid 0 cs A).size = 531 := by rw [laid_size, hA]
  have h2 : (laid 529 #[u] (laid 0 cs A)).size = 531 := by rw [laid_size, h1]
  have e1 : cs.zipIdx.foldl (fun a (x : Value × Nat) => a.setIfInBounds (0 + x.2) x.1) A = laid 0 cs A := rfl
  have e2 : (#[u] : Array Value).zipIdx.foldl (fun a (x : Value × Nat) => a.setIfInBounds (529 + x.2) x.1) (laid 0 cs A) = laid 529 #[u] (laid 0 cs A) := rfl
  unfold Instr.fill
  simp only [Value.cells, List.getElem?_toArray, List.getElem?_cons_zero]
  rw [if_neg (by simp [hc, hA])]
  rw [e1]
  unfold Instr.fill
  simp only [hu, List.getElem?_cons_succ, List.getElem?_cons_zero]
  rw [if_neg (by simp [h1]), e2]
  unfold Instr.fill
  simp only [hv, List.getElem?_cons_succ, List.getElem?_cons_zero]
  rw [if_neg (by simp [h2])]
  unfold Instr.fill
  rfl
theorem lstBuilt (r : Pl.Rg) (xs : List Int) (u : Value) (st ha : Bool) (l : Int) (e : Bool) (lx : xs.length = 512) :
    Try.prog.built 97 [(0, .agg (cor r xs u st ⟨ha, tl0⟩)), (1, iv l), (2, .bool e)] = some (cor r xs u st ⟨ha, tlq l e⟩) := by
  have hp : (match Try.prog.underlying 97 with | some (.struct fields) => fields.toList.mapM (fun f => (Try.prog.info? f.type).map fun i => (f.offset, i.size)) | _ => none) = some [(0, 529), (529, 1), (530, 1)] := by kernel_rfl
  obtain ⟨Z, hZ⟩ : ∃ Z, Z = cor ⟨[0, 0, 0, 0], [0, 0, 0, 0], 0, 0, 0, 0, false, false⟩ zeros (.slice none 0 0) false ⟨false, tlq 0 false⟩ := ⟨_, rfl⟩
  have hz : Z.size = 531 := by rw [hZ]; exact cor_size2 zeros_len
  have e : Try.prog.built 97 [(0, .agg (cor r xs u st ⟨ha, tl0⟩)), (1, iv l), (2, .bool e)] = Instr.fill (#[(0, 529), (529, 1), (530, 1)][·]?) Z [(0, .agg (cor r xs u st ⟨ha, tl0⟩)), (1, iv l), (2, .bool e)] := by
    have hi := Try.infoLst
    rw [← hZ] at hi
    unfold Program.built
    cases h1 : Try.prog.info? 97 with
    | none => rw [h1] at hi; cases hi
    | some it =>
      rw [h1] at hi
      have hz : it.zero = some (.agg Z) := congrArg (fun o => (o.map Prod.fst).getD none) hi
      cases h2 : Try.prog.underlying 97 with
      | none => rw [h2] at hp; cases hp
      | some d =>
        rw [h2] at hp
        cases d
        case struct fields =>
          have hp' : fields.toList.mapM (fun f => (Try.prog.info? f.type).map fun i => (f.offset, i.size)) = some [(0, 529), (529, 1), (530, 1)] := hp
          simp only [hz, hp']
          rfl
        all_goals cases hp
  rw [e, fill_three _ Z (iv l) _ rfl rfl (cor_size lx) hz, cor_more r xs u st ha l _ lx Z hz]
theorem ownsRow_base {w : World} {base lo n m cap size : Nat} {e : TypeId} {d : Option Addr} {xs : List Value} (h : w.ownsRow base e size (.slice d n cap) m xs) (hb : lo ≤ base) : w.ownsRow lo e size (.slice d n cap) m xs := by
  rcases h with ⟨hl, ⟨e1, e0⟩ | ⟨g', cap', cur, e1, h1, hgg, rest⟩⟩
  · exact ⟨hl, .inl ⟨e1, e0⟩⟩
  · exact ⟨hl, .inr ⟨g', cap', cur, e1, Nat.le_trans hb h1, hgg, rest⟩⟩
theorem CAt.base {w : World} {lo lo' b g : Nat} {c : Pl.Mc} {h : Hl} (a : CAt w lo b g c h) (hb : lo' ≤ lo) : CAt w lo' b g c h := by
  obtain ⟨cu, hB, hO⟩ := a
  exact ⟨cu, hB, ⟨ownsRow_base hO.l hb, Nat.le_trans hb hO.lo', hO.ne⟩⟩
theorem coreSize {r : Pl.Rg} {xs : List Int} {u : Value} {st ha : Bool} (lx : xs.length = 512) : (Try.prog.info? 93).map (·.size) = some (cor r xs u st ⟨ha, tl0⟩).size := by
  rw [cor_size lx]; exact (zero_of_info Try.infoCore).2
set_option maxRecDepth 100000 in
set_option maxHeartbeats 8000000 in
theorem listenerOf (w : World) (x : Pl.Iq) (a b e q : Option Addr) (ca cb ce cq : Nat) (ha : IRow w a x.c.r.xs) (hb : IRow w b x.c.r.ys) (he : IRow w e x.c.bx) (hq : IRow w q x.c.bl) (lx : x.c.r.xs.length = 4) (ly : x.c.r.ys.length = 4) (lb : x.c.bx.length = 512) (ll : x.c.bl.length = 5 * x.c.bm) (lm : x.c.bm ≤ 400) :
    Calls Try.prog 31 #[.agg (irA x a b e q ca cb ce cq)] w fun r w' => ∃ p g : Nat, r = .returned (.pointer (some ⟨p, 0, none⟩)) ∧ CAt w' w.heap.size p g (Pl.Mc.ofC x.c) ⟨x.c.ha, tlq x.l x.e⟩ ∧ Kept 0 0 w w' := by
  have K0 := hide (kept_alloc w (.cells (irA x a b e q ca cb ce cq) 38))
  have B0 := hide (Blk.new w (irA x a b e q ca cb ce cq) 38)
  obtain ⟨X, hX⟩ : ∃ X : World, w.alloc (.cells (irA x a b e q ca cb ce cq) 38) = X := ⟨_, rfl⟩
  rw [hX] at K0 B0
  have sX : w.heap.size < X.heap.size := B0.out.lt
  have HA := hide (ha.keptS K0.out)
  have HB := hide (hb.keptS K0.out)
  have HE := hide (he.keptS K0.out)
  have HQ := hide (hq.keptS K0.out)
  have LX := hide lx
  have LY := hide ly
  have LB := hide lb
  have LL := hide ll
  clear ha hb he hq lx ly lb ll
  go_enter Try.func31, Try.ntmps31
  go_wp2_with fail
  refine wp_region_inv3 (fun A0 l A W => ∃ p gg cu pp : Nat, FR [3, 4, 5, 6, 7, 8, 9, 10, 11, 12, 13, 2] A0 A ∧ Once l 0 (A.tmps[3]? = some (.pointer (some ⟨w.heap.size, 0, none⟩))) ∧ Once l 1 (A.tmps[4]? = some (.agg (cpA x.c a b e q ca cb ce cq))) ∧ Once l 2 (A.tmps[5]? = some (.pointer (some ⟨p, 0, none⟩))) ∧ Once l 3 (A.tmps[6]? = some (.pointer (some ⟨p, 0, none⟩))) ∧ Once l 4 (A.tmps[7]? = some (.agg (cor x.c.r x.c.bx (.slice (some ⟨gg, 0, none⟩) x.c.bm cu) x.c.st ⟨x.c.ha, tl0⟩))) ∧ Once l 5 (A.tmps[8]? = some (.pointer (some ⟨w.heap.size, 12, none⟩))) ∧ Once l 6 (A.tmps[9]? = some (iv x.l)) ∧ Once l 7 (A.tmps[10]? = some (.pointer (some ⟨w.heap.size, 13, none⟩))) ∧ Once l 8 (A.tmps[11]? = some (.bool x.e)) ∧ Once l 9 (A.tmps[12]? = some (.agg (cor x.c.r x.c.bx (.slice (some ⟨gg, 0, none⟩) x.c.bm cu) x.c.st ⟨x.c.ha, tlq x.l x.e⟩))) ∧ Once l 10 (A.tmps[13]? = some (.pointer (some ⟨pp, 0, none⟩))) ∧ Once l 11 (A.tmps[2]? = some (.pointer (some ⟨pp, 0, none⟩))) ∧ Once l 2 (Blk W p (cor x.c.r x.c.bx (.slice (some ⟨gg, 0, none⟩) x.c.bm cu) x.c.st ⟨x.c.ha, tl0⟩) 93 ∧ CLg W X.heap.size p gg cu x.c.bl x.c.bm) ∧ Once l 10 (∃ g2, CAt W X.heap.size pp g2 (Pl.Mc.ofC x.c) ⟨x.c.ha, tlq x.l x.e⟩) ∧ Kept 0 0 X W) (by kernel_rfl) (by kernel_rfl) ?start ?fin ?step
  case start => exact ⟨0, 0, 0, 0, FR.refl _ _, once_start (by decide), once_start (by decide), once_start (by decide), once_start (by decide), once_start (by decide), once_start (by decide), once_start (by decide), once_start (by decide), once_start (by decide), once_start (by decide), once_start (by decide), once_start (by decide), once_start (by decide), once_start (by decide), kept_drew (Kept.refl _ _ _)⟩
  case fin =>
    intro l A W h hl
    obtain ⟨p, gg, cu, pp, hFR, o0, o1, o2, o3, o4, o5, o6, o7, o8, o9, o10, o11, ox, oy, hK⟩ := h
    have g11 := o11 (hl 11 (by decide))
    have QX := hide (oy (hl 10 (by decide)))
    have QQ := hide hK
    have hc9 := hFR.chain
    simp only [List.foldl] at hc9
    rw [getD_of g11] at hc9
    clear ox oy hl hK hFR g11 o0 o1 o2 o3 o4 o5 o6 o7 o8 o9 o10 o11
    generalize A.tmps.getD 3 undef = s3 at hc9
    generalize A.tmps.getD 4 undef = s4 at hc9
    generalize A.tmps.getD 5 undef = s5 at hc9
    generalize A.tmps.getD 6 undef = s6 at hc9
    generalize A.tmps.getD 7 undef = s7 at hc9
    generalize A.tmps.getD 8 undef = s8 at hc9
    generalize A.tmps.getD 9 undef = s9 at hc9
    generalize A.tmps.getD 10 undef = s10 at hc9
    generalize A.tmps.getD 11 undef = s11 at hc9
    generalize A.tmps.getD 12 undef = s12 at hc9
    generalize A.tmps.getD 13 undef = s13 at hc9
    subst hc9
    go_simp
    have K1 := hide (K0.out.trans QQ.out)
    clear hX
    go_wp2_with fail
    go_ret
    obtain ⟨g2, hc⟩ := QX.out
    exact ⟨pp, g2, rfl, CAt.base hc (by omega), K1.out⟩
  case step =>
    intro l A W i hI hcl hm
    obtain ⟨p, gg, cu, pp, hFR, o0, o1, o2, o3, o4, o5, o6, o7, o8, o9, o10, o11, ox, oy, hK⟩ := hI
    obtain ⟨hi1, hi2⟩ := ready_new hm
    have hsz : Hid (13 < A.tmps.size) := hide (by rw [hFR.size]; simp)
    have m1 : A.tmps[1]? = some (.pointer (some ⟨w.heap.size, 0, none⟩)) := (hFR.out 1 (by decide)).trans rfl
    rcases i with _ | _ | _ | _ | _ | _ | _ | _ | _ | _ | _ | _ | i
    · refine wpOp_step rfl (fun KK hK2 => ?_)
      go_simp
      exact hK2 (A.put (some 3) (.pointer (some ⟨w.heap.size, 0, none⟩))) _ ⟨p, gg, cu, pp, hFR.put (by decide) _, .now (put_eq (by have hz := hsz.out; omega)), o1.past (by decide) (fun h => (put_ne (by decide)).trans h), o2.past (by decide) (fun h => (put_ne (by decide)).trans h), o3.past (by decide) (fun h => (put_ne (by decide)).trans h), o4.past (by decide) (fun h => (put_ne (by decide)).trans h), o5.past (by decide) (fun h => (put_ne (by decide)).trans h), o6.past (by decide) (fun h => (put_ne (by decide)).trans h), o7.past (by decide) (fun h => (put_ne (by decide)).trans h), o8.past (by decide) (fun h => (put_ne (by decide)).trans h), o9.past (by decide) (fun h => (put_ne (by decide)).trans h), o10.past (by decide) (fun h => (put_ne (by decide)).trans h), o11.past (by decide) (fun h => (put_ne (by decide)).trans h), ox.past (by decide) id, oy.past (by decide) id, hK⟩
    · have e0 := o0 (ready_dep hm 0 (by kernel_rfl))
      have y := (B0.out.kept0 hK).all
      refine wpOp_step rfl (fun KK hK2 => ?_)
      go_simp
      exact hK2 (A.put (some 4) (.agg (cpA x.c a b e q ca cb ce cq))) _ ⟨p, gg, cu, pp, hFR.put (by decide) _, o0.past (by decide) (fun h => (put_ne (by decide)).trans h), .now (put_eq (by have hz := hsz.out; omega)), o2.past (by decide) (fun h => (put_ne (by decide)).trans h), o3.past (by decide) (fun h => (put_ne (by decide)).trans h), o4.past (by decide) (fun h => (put_ne (by decide)).trans h), o5.past (by decide) (fun h => (put_ne (by decide)).trans h), o6.past (by decide) (fun h => (put_ne (by decide)).trans h), o7.past (by decide) (fun h => (put_ne (by decide)).trans h), o8.past (by decide) (fun h => (put_ne (by decide)).trans h), o9.past (by decide) (fun h => (put_ne (by decide)).trans h), o10.past (by decide) (fun h => (put_ne (by decide)).trans h), o11.past (by decide) (fun h => (put_ne (by decide)).trans h), ox.past (by decide) id, oy.past (by decide) id, hK⟩
    · have e1 := o1 (ready_dep hm 1 (by kernel_rfl))
      have n3 := hcl 3 2 (by decide) (by kernel_rfl) hi2
      have n4 := hcl 4 3 (by decide) (by kernel_rfl) n3
      have n9 := hcl 9 4 (by decide) (by kernel_rfl) n4
      refine wpOp_step rfl (fun KK hK2 => ?_)
      go_simp
      refine (coreOf W x.c a b e q ca cb ce cq (HA.out.keptS hK) (HB.out.keptS hK) (HE.out.keptS hK) (HQ.out.keptS hK) LX.out LY.out LB.out LL.out lm).mono ?_
      rintro r9 y ⟨p', gg', rfl, ⟨cu', hb9, hl9⟩, kd⟩
      replace hl9 : CLg y X.heap.size p' gg' cu' x.c.bl x.c.bm := ⟨ownsRow_base hl9.l hK.size, Nat.le_trans hK.size hl9.lo', hl9.ne⟩
      go_simp
      exact hK2 (A.put (some 5) (.pointer (some ⟨p', 0, none⟩))) _ ⟨p', gg', cu', pp, hFR.put (by decide) _, o0.past (by decide) (fun h => (put_ne (by decide)).trans h), o1.past (by decide) (fun h => (put_ne (by decide)).trans h), .now (put_eq (by have hz := hsz.out; omega)), Once.not n3 (by decide), Once.not n4 (by decide), o5.past (by decide) (fun h => (put_ne (by decide)).trans h), o6.past (by decide) (fun h => (put_ne (by decide)).trans h), o7.past (by decide) (fun h => (put_ne (by decide)).trans h), o8.past (by decide) (fun h => (put_ne (by decide)).trans h), Once.not n9 (by decide), o10.past (by decide) (fun h => (put_ne (by decide)).trans h), o11.past (by decide) (fun h => (put_ne (by decide)).trans h), .now ⟨hb9, hl9⟩, oy.past (by decide) (fun h => by obtain ⟨g2, h⟩ := h; exact ⟨g2, h.any kd⟩), (hK.trans kd)⟩
    · have e2 := o2 (ready_dep hm 2 (by kernel_rfl))
      refine wpOp_step rfl (fun KK hK2 => ?_)
      go_simp
      exact hK2 (A.put (some 6) (.pointer (some ⟨p, 0, none⟩))) _ ⟨p, gg, cu, pp, hFR.put (by decide) _, o0.past (by decide) (fun h => (put_ne (by decide)).trans h), o1.past (by decide) (fun h => (put_ne (by decide)).trans h), o2.past (by decide) (fun h => (put_ne (by decide)).trans h), .now (put_eq (by have hz := hsz.out; omega)), o4.past (by decide) (fun h => (put_ne (by decide)).trans h), o5.past (by decide) (fun h => (put_ne (by decide)).trans h), o6.past (by decide) (fun h => (put_ne (by decide)).trans h), o7.past (by decide) (fun h => (put_ne (by decide)).trans h), o8.past (by decide) (fun h => (put_ne (by decide)).trans h), o9.past (by decide) (fun h => (put_ne (by decide)).trans h), o10.past (by decide) (fun h => (put_ne (by decide)).trans h), o11.past (by decide) (fun h => (put_ne (by decide)).trans h), ox.past (by decide) id, oy.past (by decide) id, hK⟩
    · have e3 := o3 (ready_dep hm 3 (by kernel_rfl))
      have t2 : l.getD 2 true = true := by cases q2 : l.getD 2 true; (have n3 := hcl 3 2 (by decide) (by kernel_rfl) q2; rw [ready_dep hm 3 (by kernel_rfl)] at n3; cases n3); rfl
      have oq := ox t2
      refine wpOp_step rfl (fun KK hK2 => wanted_of rfl ?_)
      refine wp_load_row 93 (.tmp 6) rfl p (getD_of e3) 93 _ (0, 0) _ oq.1 Try.underlying93 rfl (coreSize LB.out) ?_
      exact hK2 (A.put (some 7) (.agg (cor x.c.r x.c.bx (.slice (some ⟨gg, 0, none⟩) x.c.bm cu) x.c.st ⟨x.c.ha, tl0⟩))) _ ⟨p, gg, cu, pp, hFR.put (by decide) _, o0.past (by decide) (fun h => (put_ne (by decide)).trans h), o1.past (by decide) (fun h => (put_ne (by decide)).trans h), o2.past (by decide) (fun h => (put_ne (by decide)).trans h), o3.past (by decide) (fun h => (put_ne (by decide)).trans h), .now (put_eq (by have hz := hsz.out; omega)), o5.past (by decide) (fun h => (put_ne (by decide)).trans h), o6.past (by decide) (fun h => (put_ne (by decide)).trans h), o7.past (by decide) (fun h => (put_ne (by decide)).trans h), o8.past (by decide) (fun h => (put_ne (by decide)).trans h), o9.past (by decide) (fun h => (put_ne (by decide)).trans h), o10.past (by decide) (fun h => (put_ne (by decide)).trans h), o11.past (by decide) (fun h => (put_ne (by decide)).trans h), ox.past (by decide) id, oy.past (by decide) id, hK⟩
    · refine wpOp_step rfl (fun KK hK2 => ?_)
      go_simp
      exact hK2 (A.put (some 8) (.pointer (some ⟨w.heap.size, 12, none⟩))) _ ⟨p, gg, cu, pp, hFR.put (by decide) _, o0.past (by decide) (fun h => (put_ne (by decide)).trans h), o1.past (by decide) (fun h => (put_ne (by decide)).trans h), o2.past (by decide) (fun h => (put_ne (by decide)).trans h), o3.past (by decide) (fun h => (put_ne (by decide)).trans h), o4.past (by decide) (fun h => (put_ne (by decide)).trans h), .now (put_eq (by have hz := hsz.out; omega)), o6.past (by decide) (fun h => (put_ne (by decide)).trans h), o7.past (by decide) (fun h => (put_ne (by decide)).trans h), o8.past (by decide) (fun h => (put_ne (by decide)).trans h), o9.past (by decide) (fun h => (put_ne (by decide)).trans h), o10.past (by decide) (fun h => (put_ne (by decide)).trans h), o11.past (by decide) (fun h => (put_ne (by decide)).trans h), ox.past (by decide) id, oy.past (by decide) id, hK⟩
    · have e5 := o5 (ready_dep hm 5 (by kernel_rfl))
      have y := (B0.out.kept0 hK).all
      refine wpOp_step rfl (fun KK hK2 => ?_)
      go_simp
      exact hK2 (A.put (some 9) (iv x.l)) _ ⟨p, gg, cu, pp, hFR.put (by decide) _, o0.past (by decide) (fun h => (put_ne (by decide)).trans h), o1.past (by decide) (fun h => (put_ne (by decide)).trans h), o2.past (by decide) (fun h => (put_ne (by decide)).trans h), o3.past (by decide) (fun h => (put_ne (by decide)).trans h), o4.past (by decide) (fun h => (put_ne (by decide)).trans h), o5.past (by decide) (fun h => (put_ne (by decide)).trans h), .now (put_eq (by have hz := hsz.out; omega)), o7.past (by decide) (fun h => (put_ne (by decide)).trans h), o8.past (by decide) (fun h => (put_ne (by decide)).trans h), o9.past (by decide) (fun h => (put_ne (by decide)).trans h), o10.past (by decide) (fun h => (put_ne (by decide)).trans h), o11.past (by decide) (fun h => (put_ne (by decide)).trans h), ox.past (by decide) id, oy.past (by decide) id, hK⟩
    · refine wpOp_step rfl (fun KK hK2 => ?_)
      go_simp
      exact hK2 (A.put (some 10) (.pointer (some ⟨w.heap.size, 13, none⟩))) _ ⟨p, gg, cu, pp, hFR.put (by decide) _, o0.past (by decide) (fun h => (put_ne (by decide)).trans h), o1.past (by decide) (fun h => (put_ne (by decide)).trans h), o2.past (by decide) (fun h => (put_ne (by decide)).trans h), o3.past (by decide) (fun h => (put_ne (by decide)).trans h), o4.past (by decide) (fun h => (put_ne (by decide)).trans h), o5.past (by decide) (fun h => (put_ne (by decide)).trans h), o6.past (by decide) (fun h => (put_ne (by decide)).trans h), .now (put_eq (by have hz := hsz.out; omega)), o8.past (by decide) (fun h => (put_ne (by decide)).trans h), o9.past (by decide) (fun h => (put_ne (by decide)).trans h), o10.past (by decide) (fun h => (put_ne (by decide)).trans h), o11.past (by decide) (fun h => (put_ne (by decide)).trans h), ox.past (by decide) id, oy.past (by decide) id, hK⟩
    · have e7 := o7 (ready_dep hm 7 (by kernel_rfl))
      have y := (B0.out.kept0 hK).all
      refine wpOp_step rfl (fun KK hK2 => ?_)
      go_simp
      exact hK2 (A.put (some 11) (.bool x.e)) _ ⟨p, gg, cu, pp, hFR.put (by decide) _, o0.past (by decide) (fun h => (put_ne (by decide)).trans h), o1.past (by decide) (fun h => (put_ne (by decide)).trans h), o2.past (by decide) (fun h => (put_ne (by decide)).trans h), o3.past (by decide) (fun h => (put_ne (by decide)).trans h), o4.past (by decide) (fun h => (put_ne (by decide)).trans h), o5.past (by decide) (fun h => (put_ne (by decide)).trans h), o6.past (by decide) (fun h => (put_ne (by decide)).trans h), o7.past (by decide) (fun h => (put_ne (by decide)).trans h), .now (put_eq (by have hz := hsz.out; omega)), o9.past (by decide) (fun h => (put_ne (by decide)).trans h), o10.past (by decide) (fun h => (put_ne (by decide)).trans h), o11.past (by decide) (fun h => (put_ne (by decide)).trans h), ox.past (by decide) id, oy.past (by decide) id, hK⟩
    · have e4 := o4 (ready_dep hm 4 (by kernel_rfl))
      have e6 := o6 (ready_dep hm 6 (by kernel_rfl))
      have e8 := o8 (ready_dep hm 8 (by kernel_rfl))
      refine wpOp_step rfl (fun KK hK2 => wanted_of rfl ?_)
      have hbt : Try.prog.built 97 (#[(0, Operand.tmp 7), (1, Operand.tmp 9), (2, Operand.tmp 11)].map fun (z : Nat × Operand) => (z.1, A.eval z.2)).toList = some (cor x.c.r x.c.bx (.slice (some ⟨gg, 0, none⟩) x.c.bm cu) x.c.st ⟨x.c.ha, tlq x.l x.e⟩) := by
        have a1 : A.eval (.tmp 7) = .agg (cor x.c.r x.c.bx (.slice (some ⟨gg, 0, none⟩) x.c.bm cu) x.c.st ⟨x.c.ha, tl0⟩) := getD_of e4
        have a2 : A.eval (.tmp 9) = iv x.l := getD_of e6
        have a3 : A.eval (.tmp 11) = .bool x.e := getD_of e8
        simp only [List.map_toArray, List.map_cons, List.map_nil, a1, a2, a3]
        exact lstBuilt _ _ _ _ _ _ _ LB.out
      refine wp_build 97 #[(0, .tmp 7), (1, .tmp 9), (2, .tmp 11)] rfl (by rw [hbt]; rfl) ?_
      rw [hbt]
      exact hK2 (A.put (some 12) (.agg (cor x.c.r x.c.bx (.slice (some ⟨gg, 0, none⟩) x.c.bm cu) x.c.st ⟨x.c.ha, tlq x.l x.e⟩))) _ ⟨p, gg, cu, pp, hFR.put (by decide) _, o0.past (by decide) (fun h => (put_ne (by decide)).trans h), o1.past (by decide) (fun h => (put_ne (by decide)).trans h), o2.past (by decide) (fun h => (put_ne (by decide)).trans h), o3.past (by decide) (fun h => (put_ne (by decide)).trans h), o4.past (by decide) (fun h => (put_ne (by decide)).trans h), o5.past (by decide) (fun h => (put_ne (by decide)).trans h), o6.past (by decide) (fun h => (put_ne (by decide)).trans h), o7.past (by decide) (fun h => (put_ne (by decide)).trans h), o8.past (by decide) (fun h => (put_ne (by decide)).trans h), .now (put_eq (by have hz := hsz.out; omega)), o10.past (by decide) (fun h => (put_ne (by decide)).trans h), o11.past (by decide) (fun h => (put_ne (by decide)).trans h), ox.past (by decide) id, oy.past (by decide) id, hK⟩
    · have e9 := o9 (ready_dep hm 9 (by kernel_rfl))
      have n11 := hcl 11 10 (by decide) (by kernel_rfl) hi2
      have t2 : l.getD 2 true = true := by cases q2 : l.getD 2 true; (have n9 := hcl 9 4 (by decide) (by kernel_rfl) (hcl 4 3 (by decide) (by kernel_rfl) (hcl 3 2 (by decide) (by kernel_rfl) q2)); rw [ready_dep hm 9 (by kernel_rfl)] at n9; cases n9); rfl
      have oq := ox t2
      refine wpOp_step rfl (fun KK hK2 => ?_)
      go_simp
      exact hK2 (A.put (some 13) (.pointer (some ⟨W.heap.size, 0, none⟩))) _ ⟨p, gg, cu, W.heap.size, hFR.put (by decide) _, o0.past (by decide) (fun h => (put_ne (by decide)).trans h), o1.past (by decide) (fun h => (put_ne (by decide)).trans h), o2.past (by decide) (fun h => (put_ne (by decide)).trans h), o3.past (by decide) (fun h => (put_ne (by decide)).trans h), o4.past (by decide) (fun h => (put_ne (by decide)).trans h), o5.past (by decide) (fun h => (put_ne (by decide)).trans h), o6.past (by decide) (fun h => (put_ne (by decide)).trans h), o7.past (by decide) (fun h => (put_ne (by decide)).trans h), o8.past (by decide) (fun h => (put_ne (by decide)).trans h), o9.past (by decide) (fun h => (put_ne (by decide)).trans h), .now (put_eq (by have hz := hsz.out; omega)), Once.not n11 (by decide), ox.past (by decide) (fun h => ⟨h.1.alloc _, h.2.any (kept_alloc W _)⟩), .now ⟨gg, cu, Blk.new W _ _, ⟨ownsRow_keptS oq.2.l (kept_alloc W _) (by omega), hK.size, by have := oq.2.lt; show W.heap.size ≠ gg; omega⟩⟩, (kept_new hK _)⟩
    · have e10 := o10 (ready_dep hm 10 (by kernel_rfl))
      refine wpOp_step rfl (fun KK hK2 => ?_)
      go_simp
      exact hK2 (A.put (some 2) (.pointer (some ⟨pp, 0, none⟩))) _ ⟨p, gg, cu, pp, hFR.put (by decide) _, o0.past (by decide) (fun h => (put_ne (by decide)).trans h), o1.past (by decide) (fun h => (put_ne (by decide)).trans h), o2.past (by decide) (fun h => (put_ne (by decide)).trans h), o3.past (by decide) (fun h => (put_ne (by decide)).trans h), o4.past (by decide) (fun h => (put_ne (by decide)).trans h), o5.past (by decide) (fun h => (put_ne (by decide)).trans h), o6.past (by decide) (fun h => (put_ne (by decide)).trans h), o7.past (by decide) (fun h => (put_ne (by decide)).trans h), o8.past (by decide) (fun h => (put_ne (by decide)).trans h), o9.past (by decide) (fun h => (put_ne (by decide)).trans h), o10.past (by decide) (fun h => (put_ne (by decide)).trans h), .now (put_eq (by have hz := hsz.out; omega)), ox.past (by decide) id, oy.past (by decide) id, hK⟩
    · simp at hi1
      omega
end Go.Proofs.Ytndhiaommphegaa

