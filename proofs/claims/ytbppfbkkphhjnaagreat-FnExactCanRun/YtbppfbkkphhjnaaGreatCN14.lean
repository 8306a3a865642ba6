/- What the laws' toCpu does: a copy, each list in a new block of its own. The law on CanRun: of whatever processor and unit, its Go function returns true, and no block that was there has turned. A processor that came in to a law, opened: four lists that lie in memory, the accesses spoken of as the row of their numbers. Units, buses and processors that came in to a law: opened out of a law's argument. -/
import Derived.Test.YtbppfbkkphhjnaaGreatCN12
import Derived.Test.YtbppfbkkphhjnaaGreatCN13
import Derived.Deep.RegionHeld3
import Derived.Test.YtbppfbkkphhjnaaGreatCN9
import Derived.Lib.SmallJoins
import Derived.Deep.Slices
import Derived.ProofKit
import Derived.OpenShut
import Derived.Test.YtbppfbkkphhjnaaGreatCN1
namespace Go.Proofs.YtbppfbkkphhjnaaGreat
open Go.RowKit
set_option linter.unusedVariables false
theorem Blk.put8 {w : World} {b : Nat} {u0 u1 u2 u3 u4 u5 u6 u7 u8 u9 u10 u11 v0 v1 v2 v3 v4 v5 v6 v7 : Value} {ty : TypeId} (h : Blk w b #[u0, u1, u2, u3, u4, u5, u6, u7, u8, u9, u10, u11] ty) : Blk ((((((((w.setCell ⟨b, 0, none⟩ v0).setCell ⟨b, 1, none⟩ v1).setCell ⟨b, 2, none⟩ v2).setCell ⟨b, 3, none⟩ v3).setCell ⟨b, 4, none⟩ v4).setCell ⟨b, 5, none⟩ v5).setCell ⟨b, 6, none⟩ v6).setCell ⟨b, 7, none⟩ v7) b #[v0, v1, v2, v3, v4, v5, v6, v7, u8, u9, u10, u11] ty := by
  have h0 : Blk (w.setCell ⟨b, 0, none⟩ v0) b #[v0, u1, u2, u3, u4, u5, u6, u7, u8, u9, u10, u11] ty := h.set 0 v0
  have h1 : Blk ((w.setCell ⟨b, 0, none⟩ v0).setCell ⟨b, 1, none⟩ v1) b #[v0, v1, u2, u3, u4, u5, u6, u7, u8, u9, u10, u11] ty := h0.set 1 v1
  have h2 : Blk (((w.setCell ⟨b, 0, none⟩ v0).setCell ⟨b, 1, none⟩ v1).setCell ⟨b, 2, none⟩ v2) b #[v0, v1, v2, u3, u4, u5, u6, u7, u8, u9, u10, u11] ty := h1.set 2 v2
  have h3 : Blk ((((w.setCell ⟨b, 0, none⟩ v0).setCell ⟨b, 1, none⟩ v1).setCell ⟨b, 2, none⟩ v2).setCell ⟨b, 3, none⟩ v3) b #[v0, v1, v2, v3, u4, u5, u6, u7, u8, u9, u10, u11] ty := h2.set 3 v3
  have h4 : Blk (((((w.setCell ⟨b, 0, none⟩ v0).setCell ⟨b, 1, none⟩ v1).setCell ⟨b, 2, none⟩ v2).setCell ⟨b, 3, none⟩ v3).setCell ⟨b, 4, none⟩ v4) b #[v0, v1, v2, v3, v4, u5, u6, u7, u8, u9, u10, u11] ty := h3.set 4 v4
  have h5 : Blk ((((((w.setCell ⟨b, 0, none⟩ v0).setCell ⟨b, 1, none⟩ v1).setCell ⟨b, 2, none⟩ v2).setCell ⟨b, 3, none⟩ v3).setCell ⟨b, 4, none⟩ v4).setCell ⟨b, 5, none⟩ v5) b #[v0, v1, v2, v3, v4, v5, u6, u7, u8, u9, u10, u11] ty := h4.set 5 v5
  have h6 : Blk (((((((w.setCell ⟨b, 0, none⟩ v0).setCell ⟨b, 1, none⟩ v1).setCell ⟨b, 2, none⟩ v2).setCell ⟨b, 3, none⟩ v3).setCell ⟨b, 4, none⟩ v4).setCell ⟨b, 5, none⟩ v5).setCell ⟨b, 6, none⟩ v6) b #[v0, v1, v2, v3, v4, v5, v6, u7, u8, u9, u10, u11] ty := h5.set 6 v6
  have h7 : Blk ((((((((w.setCell ⟨b, 0, none⟩ v0).setCell ⟨b, 1, none⟩ v1).setCell ⟨b, 2, none⟩ v2).setCell ⟨b, 3, none⟩ v3).setCell ⟨b, 4, none⟩ v4).setCell ⟨b, 5, none⟩ v5).setCell ⟨b, 6, none⟩ v6).setCell ⟨b, 7, none⟩ v7) b #[v0, v1, v2, v3, v4, v5, v6, v7, u8, u9, u10, u11] ty := h6.set 7 v7
  exact h7
theorem Blk.put4 {w : World} {b : Nat} {u0 u1 u2 u3 u4 u5 u6 u7 u8 u9 u10 u11 v8 v9 v10 v11 : Value} {ty : TypeId} (h : Blk w b #[u0, u1, u2, u3, u4, u5, u6, u7, u8, u9, u10, u11] ty) : Blk ((((w.setCell ⟨b, 8, none⟩ v8).setCell ⟨b, 9, none⟩ v9).setCell ⟨b, 10, none⟩ v10).setCell ⟨b, 11, none⟩ v11) b #[u0, u1, u2, u3, u4, u5, u6, u7, v8, v9, v10, v11] ty := by
  have h0 : Blk (w.setCell ⟨b, 8, none⟩ v8) b #[u0, u1, u2, u3, u4, u5, u6, u7, v8, u9, u10, u11] ty := h.set 8 v8
  have h1 : Blk ((w.setCell ⟨b, 8, none⟩ v8).setCell ⟨b, 9, none⟩ v9) b #[u0, u1, u2, u3, u4, u5, u6, u7, v8, v9, u10, u11] ty := h0.set 9 v9
  have h2 : Blk (((w.setCell ⟨b, 8, none⟩ v8).setCell ⟨b, 9, none⟩ v9).setCell ⟨b, 10, none⟩ v10) b #[u0, u1, u2, u3, u4, u5, u6, u7, v8, v9, v10, u11] ty := h1.set 10 v10
  have h3 : Blk ((((w.setCell ⟨b, 8, none⟩ v8).setCell ⟨b, 9, none⟩ v9).setCell ⟨b, 10, none⟩ v10).setCell ⟨b, 11, none⟩ v11) b #[u0, u1, u2, u3, u4, u5, u6, u7, v8, v9, v10, v11] ty := h2.set 11 v11
  exact h3
set_option maxRecDepth 100000 in
set_option maxHeartbeats 8000000 in
theorem toCpu (w : World) (c : Pl.Cp) (a b e q : Option Addr) (ca cb ce cq : Nat) (ha : IRow w a c.r.xs) (hb : IRow w b c.r.ys) (he : IRow w e c.bx) (hq : IRow w q c.bl) (lx : c.r.xs.length ≤ 2000000) (ly : c.r.ys.length ≤ 2000000) (lb : c.bx.length ≤ 2000000) (ll : c.bl.length = 5 * c.bm) (lm : c.bm ≤ 2000000) :
    Calls Tryz.prog 27 #[.agg (cpA c a b e q ca cb ce cq)] w fun r w' => ∃ g1 g2 g3 g4 : Nat, r = .returned (.agg (cpA c (some ⟨g1, 0, none⟩) (some ⟨g2, 0, none⟩) (some ⟨g3, 0, none⟩) (some ⟨g4, 0, none⟩) c.r.xs.length c.r.ys.length c.bx.length c.bm)) ∧ CpSl w' w.heap.size w'.heap.size c (some ⟨g1, 0, none⟩) (some ⟨g2, 0, none⟩) (some ⟨g3, 0, none⟩) (some ⟨g4, 0, none⟩) ∧ Kept 0 0 w w' := by
  have k0 : Kept 0 0 w (((w.alloc (.cells (cpA c a b e q ca cb ce cq) 57)).alloc (.cells cpZ 62)).alloc (.cells cpZ 62)) := kept_new (kept_new (kept_alloc _ _) _) _
  have BA := ((Blk.new w (cpA c a b e q ca cb ce cq) 57).alloc (.cells cpZ 62)).alloc (.cells cpZ 62)
  have BR := (Blk.new (w.alloc (.cells (cpA c a b e q ca cb ce cq) 57)) cpZ 62).alloc (.cells cpZ 62)
  have BO := Blk.new ((w.alloc (.cells (cpA c a b e q ca cb ce cq) 57)).alloc (.cells cpZ 62)) cpZ 62
  simp only [World.size_alloc] at BR BO
  obtain ⟨X, hX⟩ : ∃ X : World, (((w.alloc (.cells (cpA c a b e q ca cb ce cq) 57)).alloc (.cells cpZ 62)).alloc (.cells cpZ 62)) = X := ⟨_, rfl⟩
  rw [hX] at k0 BA BR BO
  have n0 := BO.lt
  have K0 := hide k0
  have HBA := hide BA
  have HBR := hide BR
  have HBO := hide BO
  have HA := hide (ha.keptS k0)
  have HB := hide (hb.keptS k0)
  have HE := hide he
  have HQ := hide hq
  have HL := hide ll
  have i0 := BA.all
  clear k0 BA BR BO ha hb he hq ll
  go_enter Tryz.func27, Tryz.ntmps27
  go_wp2_with fail
  refine (toRegs _ c.r.o c.r.p c.r.f c.r.m c.r.s c.r.t a b ca cb c.r.xs c.r.ys HA.out HB.out lx ly).mono ?_
  rintro e9 w1 ⟨g1, g2, rfl, o1, o2, l1, l2, l3, k⟩
  have HA1 := hide (HBA.out.kept0 k)
  have HR1 := hide (HBR.out.kept0 k)
  have HO1 := hide (HBO.out.kept0 k)
  have K1 := hide (K0.out.trans k)
  have k1s := k.size
  have OW1 := hide o1
  have OW2 := hide o2
  clear k o1 o2 i0
  have o0 := HO1.out.cell (i := 0) rfl
  have o1 := HO1.out.cell (i := 1) rfl
  have o2 := HO1.out.cell (i := 2) rfl
  have o3 := HO1.out.cell (i := 3) rfl
  have o4 := HO1.out.cell (i := 4) rfl
  have o5 := HO1.out.cell (i := 5) rfl
  have o6 := HO1.out.cell (i := 6) rfl
  have o7 := HO1.out.cell (i := 7) rfl
  have of0 := HO1.out.fz
  have K2 : Kept 0 0 w ((((((((w1.setCell ⟨w.heap.size + 2, 0, none⟩ (.slice (some ⟨g1, 0, none⟩) c.r.xs.length c.r.xs.length)).setCell ⟨w.heap.size + 2, 1, none⟩ (.slice (some ⟨g2, 0, none⟩) c.r.ys.length c.r.ys.length)).setCell ⟨w.heap.size + 2, 2, none⟩ (iv c.r.o)).setCell ⟨w.heap.size + 2, 3, none⟩ (iv c.r.p)).setCell ⟨w.heap.size + 2, 4, none⟩ (iv c.r.f)).setCell ⟨w.heap.size + 2, 5, none⟩ (iv c.r.m)).setCell ⟨w.heap.size + 2, 6, none⟩ (.bool c.r.s)).setCell ⟨w.heap.size + 2, 7, none⟩ (.bool c.r.t)) := (kept_set (kept_set (kept_set (kept_set (kept_set (kept_set (kept_set (kept_set K1.out _ _ _ (.inr (by omega))) _ _ _ (.inr (by omega))) _ _ _ (.inr (by omega))) _ _ _ (.inr (by omega))) _ _ _ (.inr (by omega))) _ _ _ (.inr (by omega))) _ _ _ (.inr (by omega))) _ _ _ (.inr (by omega)))
  have HO2 : Blk ((((((((w1.setCell ⟨w.heap.size + 2, 0, none⟩ (.slice (some ⟨g1, 0, none⟩) c.r.xs.length c.r.xs.length)).setCell ⟨w.heap.size + 2, 1, none⟩ (.slice (some ⟨g2, 0, none⟩) c.r.ys.length c.r.ys.length)).setCell ⟨w.heap.size + 2, 2, none⟩ (iv c.r.o)).setCell ⟨w.heap.size + 2, 3, none⟩ (iv c.r.p)).setCell ⟨w.heap.size + 2, 4, none⟩ (iv c.r.f)).setCell ⟨w.heap.size + 2, 5, none⟩ (iv c.r.m)).setCell ⟨w.heap.size + 2, 6, none⟩ (.bool c.r.s)).setCell ⟨w.heap.size + 2, 7, none⟩ (.bool c.r.t)) (w.heap.size + 2) #[.slice (some ⟨g1, 0, none⟩) c.r.xs.length c.r.xs.length, .slice (some ⟨g2, 0, none⟩) c.r.ys.length c.r.ys.length, iv c.r.o, iv c.r.p, iv c.r.f, iv c.r.m, .bool c.r.s, .bool c.r.t, .slice none 0 0, .slice none 0 0, .bool false, .bool false] 62 := Blk.put8 HO1.out
  have HA2 : Blk ((((((((w1.setCell ⟨w.heap.size + 2, 0, none⟩ (.slice (some ⟨g1, 0, none⟩) c.r.xs.length c.r.xs.length)).setCell ⟨w.heap.size + 2, 1, none⟩ (.slice (some ⟨g2, 0, none⟩) c.r.ys.length c.r.ys.length)).setCell ⟨w.heap.size + 2, 2, none⟩ (iv c.r.o)).setCell ⟨w.heap.size + 2, 3, none⟩ (iv c.r.p)).setCell ⟨w.heap.size + 2, 4, none⟩ (iv c.r.f)).setCell ⟨w.heap.size + 2, 5, none⟩ (iv c.r.m)).setCell ⟨w.heap.size + 2, 6, none⟩ (.bool c.r.s)).setCell ⟨w.heap.size + 2, 7, none⟩ (.bool c.r.t)) w.heap.size (cpA c a b e q ca cb ce cq) 57 := ((((((((HA1.out.other _ _ _ (by omega)).other _ _ _ (by omega)).other _ _ _ (by omega)).other _ _ _ (by omega)).other _ _ _ (by omega)).other _ _ _ (by omega)).other _ _ _ (by omega)).other _ _ _ (by omega))
  have HR2 : Blk ((((((((w1.setCell ⟨w.heap.size + 2, 0, none⟩ (.slice (some ⟨g1, 0, none⟩) c.r.xs.length c.r.xs.length)).setCell ⟨w.heap.size + 2, 1, none⟩ (.slice (some ⟨g2, 0, none⟩) c.r.ys.length c.r.ys.length)).setCell ⟨w.heap.size + 2, 2, none⟩ (iv c.r.o)).setCell ⟨w.heap.size + 2, 3, none⟩ (iv c.r.p)).setCell ⟨w.heap.size + 2, 4, none⟩ (iv c.r.f)).setCell ⟨w.heap.size + 2, 5, none⟩ (iv c.r.m)).setCell ⟨w.heap.size + 2, 6, none⟩ (.bool c.r.s)).setCell ⟨w.heap.size + 2, 7, none⟩ (.bool c.r.t)) (w.heap.size + 1) cpZ 62 := ((((((((HR1.out.other _ _ _ (by omega)).other _ _ _ (by omega)).other _ _ _ (by omega)).other _ _ _ (by omega)).other _ _ _ (by omega)).other _ _ _ (by omega)).other _ _ _ (by omega)).other _ _ _ (by omega))
  have P1 : Own ((((((((w1.setCell ⟨w.heap.size + 2, 0, none⟩ (.slice (some ⟨g1, 0, none⟩) c.r.xs.length c.r.xs.length)).setCell ⟨w.heap.size + 2, 1, none⟩ (.slice (some ⟨g2, 0, none⟩) c.r.ys.length c.r.ys.length)).setCell ⟨w.heap.size + 2, 2, none⟩ (iv c.r.o)).setCell ⟨w.heap.size + 2, 3, none⟩ (iv c.r.p)).setCell ⟨w.heap.size + 2, 4, none⟩ (iv c.r.f)).setCell ⟨w.heap.size + 2, 5, none⟩ (iv c.r.m)).setCell ⟨w.heap.size + 2, 6, none⟩ (.bool c.r.s)).setCell ⟨w.heap.size + 2, 7, none⟩ (.bool c.r.t)) g1 c.r.xs := ((((((((OW1.out.setOther _ _ _ (by omega)).setOther _ _ _ (by omega)).setOther _ _ _ (by omega)).setOther _ _ _ (by omega)).setOther _ _ _ (by omega)).setOther _ _ _ (by omega)).setOther _ _ _ (by omega)).setOther _ _ _ (by omega))
  have P2 : Own ((((((((w1.setCell ⟨w.heap.size + 2, 0, none⟩ (.slice (some ⟨g1, 0, none⟩) c.r.xs.length c.r.xs.length)).setCell ⟨w.heap.size + 2, 1, none⟩ (.slice (some ⟨g2, 0, none⟩) c.r.ys.length c.r.ys.length)).setCell ⟨w.heap.size + 2, 2, none⟩ (iv c.r.o)).setCell ⟨w.heap.size + 2, 3, none⟩ (iv c.r.p)).setCell ⟨w.heap.size + 2, 4, none⟩ (iv c.r.f)).setCell ⟨w.heap.size + 2, 5, none⟩ (iv c.r.m)).setCell ⟨w.heap.size + 2, 6, none⟩ (.bool c.r.s)).setCell ⟨w.heap.size + 2, 7, none⟩ (.bool c.r.t)) g2 c.r.ys := ((((((((OW2.out.setOther _ _ _ (by omega)).setOther _ _ _ (by omega)).setOther _ _ _ (by omega)).setOther _ _ _ (by omega)).setOther _ _ _ (by omega)).setOther _ _ _ (by omega)).setOther _ _ _ (by omega)).setOther _ _ _ (by omega))
  have szY : ((((((((w1.setCell ⟨w.heap.size + 2, 0, none⟩ (.slice (some ⟨g1, 0, none⟩) c.r.xs.length c.r.xs.length)).setCell ⟨w.heap.size + 2, 1, none⟩ (.slice (some ⟨g2, 0, none⟩) c.r.ys.length c.r.ys.length)).setCell ⟨w.heap.size + 2, 2, none⟩ (iv c.r.o)).setCell ⟨w.heap.size + 2, 3, none⟩ (iv c.r.p)).setCell ⟨w.heap.size + 2, 4, none⟩ (iv c.r.f)).setCell ⟨w.heap.size + 2, 5, none⟩ (iv c.r.m)).setCell ⟨w.heap.size + 2, 6, none⟩ (.bool c.r.s)).setCell ⟨w.heap.size + 2, 7, none⟩ (.bool c.r.t)).heap.size = w1.heap.size := by simp [World.setCell]
  obtain ⟨Y, hY⟩ : ∃ Y : World, ((((((((w1.setCell ⟨w.heap.size + 2, 0, none⟩ (.slice (some ⟨g1, 0, none⟩) c.r.xs.length c.r.xs.length)).setCell ⟨w.heap.size + 2, 1, none⟩ (.slice (some ⟨g2, 0, none⟩) c.r.ys.length c.r.ys.length)).setCell ⟨w.heap.size + 2, 2, none⟩ (iv c.r.o)).setCell ⟨w.heap.size + 2, 3, none⟩ (iv c.r.p)).setCell ⟨w.heap.size + 2, 4, none⟩ (iv c.r.f)).setCell ⟨w.heap.size + 2, 5, none⟩ (iv c.r.m)).setCell ⟨w.heap.size + 2, 6, none⟩ (.bool c.r.s)).setCell ⟨w.heap.size + 2, 7, none⟩ (.bool c.r.t)) = Y := ⟨_, rfl⟩
  rw [hY] at K2 HO2 HA2 HR2 P1 P2 szY
  replace K2 := hide K2
  replace HO2 := hide HO2
  replace HA2 := hide HA2
  replace HR2 := hide HR2
  replace P1 := hide P1
  replace P2 := hide P2
  have i8 := HA2.out.cell (i := 8) rfl
  have i9 := HA2.out.cell (i := 9) rfl
  go_wp2_with fail
  clear hX hY o0 of0 o1 o2 o3 o4 o5 o6 o7
  refine (toBus _ e q ce cq c.bm c.bx c.bl (HE.out.keptS K2.out) (HQ.out.keptS K2.out) lb HL.out lm).mono ?_
  rintro e9 w2 ⟨g3, g4, rfl, o3, o4, l4, l5, l6, k⟩
  have EA := hide (HA2.out.kept0 k)
  have ER := hide (HR2.out.kept0 k)
  have EO := hide (HO2.out.kept0 k)
  have K3 := hide (K2.out.trans k)
  have k3s := k.size
  have P3 := hide (P1.out.keptS k (by omega))
  have P4 := hide (P2.out.keptS k (by omega))
  have P5 := hide o3
  have P6 := hide o4
  clear k o3 o4
  have o8 := EO.out.all
  have of8 := EO.out.fz
  have i10 := EA.out.cell (i := 10) rfl
  have i11 := EA.out.cell (i := 11) rfl
  have K4 : Kept 0 0 w ((((w2.setCell ⟨w.heap.size + 2, 8, none⟩ (.slice (some ⟨g3, 0, none⟩) c.bx.length c.bx.length)).setCell ⟨w.heap.size + 2, 9, none⟩ (.slice (some ⟨g4, 0, none⟩) c.bm c.bm)).setCell ⟨w.heap.size + 2, 10, none⟩ (.bool c.st)).setCell ⟨w.heap.size + 2, 11, none⟩ (.bool c.ha)) := (kept_set (kept_set (kept_set (kept_set K3.out _ _ _ (.inr (by omega))) _ _ _ (.inr (by omega))) _ _ _ (.inr (by omega))) _ _ _ (.inr (by omega)))
  have FO : Blk ((((w2.setCell ⟨w.heap.size + 2, 8, none⟩ (.slice (some ⟨g3, 0, none⟩) c.bx.length c.bx.length)).setCell ⟨w.heap.size + 2, 9, none⟩ (.slice (some ⟨g4, 0, none⟩) c.bm c.bm)).setCell ⟨w.heap.size + 2, 10, none⟩ (.bool c.st)).setCell ⟨w.heap.size + 2, 11, none⟩ (.bool c.ha)) (w.heap.size + 2) (cpA c (some ⟨g1, 0, none⟩) (some ⟨g2, 0, none⟩) (some ⟨g3, 0, none⟩) (some ⟨g4, 0, none⟩) c.r.xs.length c.r.ys.length c.bx.length c.bm) 62 := Blk.put4 EO.out
  have FR : Blk ((((w2.setCell ⟨w.heap.size + 2, 8, none⟩ (.slice (some ⟨g3, 0, none⟩) c.bx.length c.bx.length)).setCell ⟨w.heap.size + 2, 9, none⟩ (.slice (some ⟨g4, 0, none⟩) c.bm c.bm)).setCell ⟨w.heap.size + 2, 10, none⟩ (.bool c.st)).setCell ⟨w.heap.size + 2, 11, none⟩ (.bool c.ha)) (w.heap.size + 1) cpZ 62 := ((((ER.out.other _ _ _ (by omega)).other _ _ _ (by omega)).other _ _ _ (by omega)).other _ _ _ (by omega))
  have Q1 : Own ((((w2.setCell ⟨w.heap.size + 2, 8, none⟩ (.slice (some ⟨g3, 0, none⟩) c.bx.length c.bx.length)).setCell ⟨w.heap.size + 2, 9, none⟩ (.slice (some ⟨g4, 0, none⟩) c.bm c.bm)).setCell ⟨w.heap.size + 2, 10, none⟩ (.bool c.st)).setCell ⟨w.heap.size + 2, 11, none⟩ (.bool c.ha)) g1 c.r.xs := ((((P3.out.setOther _ _ _ (by omega)).setOther _ _ _ (by omega)).setOther _ _ _ (by omega)).setOther _ _ _ (by omega))
  have Q2 : Own ((((w2.setCell ⟨w.heap.size + 2, 8, none⟩ (.slice (some ⟨g3, 0, none⟩) c.bx.length c.bx.length)).setCell ⟨w.heap.size + 2, 9, none⟩ (.slice (some ⟨g4, 0, none⟩) c.bm c.bm)).setCell ⟨w.heap.size + 2, 10, none⟩ (.bool c.st)).setCell ⟨w.heap.size + 2, 11, none⟩ (.bool c.ha)) g2 c.r.ys := ((((P4.out.setOther _ _ _ (by omega)).setOther _ _ _ (by omega)).setOther _ _ _ (by omega)).setOther _ _ _ (by omega))
  have Q3 : Own ((((w2.setCell ⟨w.heap.size + 2, 8, none⟩ (.slice (some ⟨g3, 0, none⟩) c.bx.length c.bx.length)).setCell ⟨w.heap.size + 2, 9, none⟩ (.slice (some ⟨g4, 0, none⟩) c.bm c.bm)).setCell ⟨w.heap.size + 2, 10, none⟩ (.bool c.st)).setCell ⟨w.heap.size + 2, 11, none⟩ (.bool c.ha)) g3 c.bx := ((((P5.out.setOther _ _ _ (by omega)).setOther _ _ _ (by omega)).setOther _ _ _ (by omega)).setOther _ _ _ (by omega))
  have Q4 : Own ((((w2.setCell ⟨w.heap.size + 2, 8, none⟩ (.slice (some ⟨g3, 0, none⟩) c.bx.length c.bx.length)).setCell ⟨w.heap.size + 2, 9, none⟩ (.slice (some ⟨g4, 0, none⟩) c.bm c.bm)).setCell ⟨w.heap.size + 2, 10, none⟩ (.bool c.st)).setCell ⟨w.heap.size + 2, 11, none⟩ (.bool c.ha)) g4 c.bl := ((((P6.out.setOther _ _ _ (by omega)).setOther _ _ _ (by omega)).setOther _ _ _ (by omega)).setOther _ _ _ (by omega))
  have szV : ((((w2.setCell ⟨w.heap.size + 2, 8, none⟩ (.slice (some ⟨g3, 0, none⟩) c.bx.length c.bx.length)).setCell ⟨w.heap.size + 2, 9, none⟩ (.slice (some ⟨g4, 0, none⟩) c.bm c.bm)).setCell ⟨w.heap.size + 2, 10, none⟩ (.bool c.st)).setCell ⟨w.heap.size + 2, 11, none⟩ (.bool c.ha)).heap.size = w2.heap.size := by simp [World.setCell]
  obtain ⟨V, hV⟩ : ∃ V : World, ((((w2.setCell ⟨w.heap.size + 2, 8, none⟩ (.slice (some ⟨g3, 0, none⟩) c.bx.length c.bx.length)).setCell ⟨w.heap.size + 2, 9, none⟩ (.slice (some ⟨g4, 0, none⟩) c.bm c.bm)).setCell ⟨w.heap.size + 2, 10, none⟩ (.bool c.st)).setCell ⟨w.heap.size + 2, 11, none⟩ (.bool c.ha)) = V := ⟨_, rfl⟩
  rw [hV] at K4 FO FR Q1 Q2 Q3 Q4 szV
  replace K4 := hide K4
  replace FO := hide FO
  replace FR := hide FR
  replace Q1 := hide Q1
  replace Q2 := hide Q2
  replace Q3 := hide Q3
  replace Q4 := hide Q4
  have m0 := FO.out.all
  have r0 := FR.out.all
  have rf0 := FR.out.fz
  go_wp2_with fail
  clear hV
  have FF : Blk ((((((((((((V.setCell ⟨w.heap.size + 1, 0, none⟩ (.slice (some ⟨g1, 0, none⟩) c.r.xs.length c.r.xs.length)).setCell ⟨w.heap.size + 1, 1, none⟩ (.slice (some ⟨g2, 0, none⟩) c.r.ys.length c.r.ys.length)).setCell ⟨w.heap.size + 1, 2, none⟩ (iv c.r.o)).setCell ⟨w.heap.size + 1, 3, none⟩ (iv c.r.p)).setCell ⟨w.heap.size + 1, 4, none⟩ (iv c.r.f)).setCell ⟨w.heap.size + 1, 5, none⟩ (iv c.r.m)).setCell ⟨w.heap.size + 1, 6, none⟩ (.bool c.r.s)).setCell ⟨w.heap.size + 1, 7, none⟩ (.bool c.r.t)).setCell ⟨w.heap.size + 1, 8, none⟩ (.slice (some ⟨g3, 0, none⟩) c.bx.length c.bx.length)).setCell ⟨w.heap.size + 1, 9, none⟩ (.slice (some ⟨g4, 0, none⟩) c.bm c.bm)).setCell ⟨w.heap.size + 1, 10, none⟩ (.bool c.st)).setCell ⟨w.heap.size + 1, 11, none⟩ (.bool c.ha)) (w.heap.size + 1) (cpA c (some ⟨g1, 0, none⟩) (some ⟨g2, 0, none⟩) (some ⟨g3, 0, none⟩) (some ⟨g4, 0, none⟩) c.r.xs.length c.r.ys.length c.bx.length c.bm) 62 := Blk.put4 (Blk.put8 FR.out)
  refine bodyPost_ret (v := .agg (cpA c (some ⟨g1, 0, none⟩) (some ⟨g2, 0, none⟩) (some ⟨g3, 0, none⟩) (some ⟨g4, 0, none⟩) c.r.xs.length c.r.ys.length c.bx.length c.bm)) ?_ rfl ⟨g1, g2, g3, g4, rfl, ⟨.inr ⟨g1, rfl, by omega, ?_, ?_⟩, .inr ⟨g2, rfl, by omega, ?_, ?_⟩, .inr ⟨g3, rfl, by omega, ?_, ?_⟩, .inr ⟨g4, rfl, by omega, ?_, ?_⟩, ?_, ?_, ?_, ?_, ?_, ?_⟩, ?_⟩
  · exact results_cell_row rfl _ _ _ _ _ (0, 0) _ rfl FF Tryz.underlying62 rfl (by kernel_rfl)
  · simp [World.setCell]; omega
  · exact ((((((((((((Q1.out.setOther _ _ _ (by omega)).setOther _ _ _ (by omega)).setOther _ _ _ (by omega)).setOther _ _ _ (by omega)).setOther _ _ _ (by omega)).setOther _ _ _ (by omega)).setOther _ _ _ (by omega)).setOther _ _ _ (by omega)).setOther _ _ _ (by omega)).setOther _ _ _ (by omega)).setOther _ _ _ (by omega)).setOther _ _ _ (by omega))
  · simp [World.setCell]; omega
  · exact ((((((((((((Q2.out.setOther _ _ _ (by omega)).setOther _ _ _ (by omega)).setOther _ _ _ (by omega)).setOther _ _ _ (by omega)).setOther _ _ _ (by omega)).setOther _ _ _ (by omega)).setOther _ _ _ (by omega)).setOther _ _ _ (by omega)).setOther _ _ _ (by omega)).setOther _ _ _ (by omega)).setOther _ _ _ (by omega)).setOther _ _ _ (by omega))
  · simp [World.setCell]; omega
  · exact ((((((((((((Q3.out.setOther _ _ _ (by omega)).setOther _ _ _ (by omega)).setOther _ _ _ (by omega)).setOther _ _ _ (by omega)).setOther _ _ _ (by omega)).setOther _ _ _ (by omega)).setOther _ _ _ (by omega)).setOther _ _ _ (by omega)).setOther _ _ _ (by omega)).setOther _ _ _ (by omega)).setOther _ _ _ (by omega)).setOther _ _ _ (by omega))
  · simp [World.setCell]; omega
  · exact ((((((((((((Q4.out.setOther _ _ _ (by omega)).setOther _ _ _ (by omega)).setOther _ _ _ (by omega)).setOther _ _ _ (by omega)).setOther _ _ _ (by omega)).setOther _ _ _ (by omega)).setOther _ _ _ (by omega)).setOther _ _ _ (by omega)).setOther _ _ _ (by omega)).setOther _ _ _ (by omega)).setOther _ _ _ (by omega)).setOther _ _ _ (by omega))
  · intro g h1 h2; simp [blk] at h1 h2; omega
  · intro g h1 h2; simp [blk] at h1 h2; omega
  · intro g h1 h2; simp [blk] at h1 h2; omega
  · intro g h1 h2; simp [blk] at h1 h2; omega
  · intro g h1 h2; simp [blk] at h1 h2; omega
  · intro g h1 h2; simp [blk] at h1 h2; omega
  · exact (kept_set (kept_set (kept_set (kept_set (kept_set (kept_set (kept_set (kept_set (kept_set (kept_set (kept_set (kept_set K4.out _ _ _ (.inr (by omega))) _ _ _ (.inr (by omega))) _ _ _ (.inr (by omega))) _ _ _ (.inr (by omega))) _ _ _ (.inr (by omega))) _ _ _ (.inr (by omega))) _ _ _ (.inr (by omega))) _ _ _ (.inr (by omega))) _ _ _ (.inr (by omega))) _ _ _ (.inr (by omega))) _ _ _ (.inr (by omega))) _ _ _ (.inr (by omega)))
end Go.Proofs.YtbppfbkkphhjnaaGreat

namespace Go.Proofs.YtbppfbkkphhjnaaGreat
open Go.RowKit
set_option linter.unusedVariables false
set_option linter.unusedSimpArgs false
theorem szC_le {n m k j : Nat} {left : Int} (l0 : 0 ≤ left) (h : ¬ szC n m k j left < 0) : 0 ≤ szC n m k j left ∧ szC n m k j left ≤ left := by
  unfold szC at h ⊢
  split at h
  · exact absurd (by decide) h
  · rename_i h1
    rw [if_neg h1]
    have q1 := szB_le l0 h1
    have q2 := szB_le q1.1 h
    omega
set_option maxRecDepth 100000 in
set_option maxHeartbeats 16000000 in
theorem lawCanRun (c : Pl.Cp) (a b e q d : Option Addr) (ca cb ce cq cc n : Nat) (f t : Int) (ys ts : List Int) (sk : List Bool) (w : World) (ha : Came w a c.r.xs) (hb : Came w b c.r.ys) (he : Came w e c.bx) (hq : Came w q c.bl) (ll : c.bl.length = 5 * c.bm) (wf : Pl.WfR c.r) (hd : MRow w d n ys ts sk) (lz : ys.length = 7 * n) (wy : Wide ys) (lx : c.r.xs.length ≤ 9223372036854775807) (ly : c.r.ys.length ≤ 9223372036854775807) (lb : c.bx.length ≤ 9223372036854775807) (lm : c.bm ≤ 9223372036854775807) (nx : n ≤ 9223372036854775807) :
    Calls Tryz.prog 6 #[.agg (cpA c a b e q ca cb ce cq), .agg #[iv f, iv t, .slice d n cc]] w fun r' w' => r' = .returned (.bool true) ∧ Below w.heap.size w w' := by
  have K0 := hide (kept_new (kept_alloc w (.cells (cpA c a b e q ca cb ce cq) 57)) (.cells #[iv f, iv t, .slice d n cc] 43))
  have A0 := hide ((Blk.new w (cpA c a b e q ca cb ce cq) 57).alloc (.cells #[iv f, iv t, .slice d n cc] 43))
  have U0 := Blk.new (w.alloc (.cells (cpA c a b e q ca cb ce cq) 57)) #[iv f, iv t, .slice d n cc] 43
  simp only [World.size_alloc] at U0
  replace U0 := hide U0
  have HA := hide ha
  have HB := hide hb
  have HE := hide he
  have HQ := hide hq
  have HL := hide ll
  have HWF := hide wf
  have HD := hide hd
  have HY := hide lz
  have HW := hide wy
  clear ha hb he hq ll wf hd lz wy
  by_cases hs : szC c.r.xs.length c.r.ys.length c.bx.length c.bm 1048576 < 0
  · have pa := A0.out.all
    go_enter Tryz.func6, Tryz.ntmps6
    go_wp2_with fail
    refine (szCpu _ c a b e q ca cb ce cq 1048576 lx ly lb lm (by decide) (by decide)).mono ?_
    rintro e9 w1 ⟨rfl, k1⟩
    have K1 := hide (K0.out.trans k1)
    clear k1
    go_wp2_with fail
    go_ret
    exact ⟨rfl, K1.out.below⟩
  · have hb_ := szC_neg hs
    have hb2 := szC_le (by decide) hs
    have lx2 : c.r.xs.length ≤ 2000000 := by omega
    have ly2 : c.r.ys.length ≤ 2000000 := by omega
    have lb2 : c.bx.length ≤ 2000000 := by omega
    have lm2 : c.bm ≤ 2000000 := by omega
    obtain ⟨L1, hL1⟩ : ∃ L1, L1 = szC c.r.xs.length c.r.ys.length c.bx.length c.bm 1048576 := ⟨_, rfl⟩
    rw [← hL1] at hs hb2
    have HL1 := hide hL1
    clear hL1 hb_
    by_cases hn : L1 - (n : Int) < 0
    · have hsz : (if L1 - (n : Int) < 0 then (-1 : Int) else L1 - (n : Int)) = -1 := if_pos hn
      have pa := A0.out.all
      go_enter Tryz.func6, Tryz.ntmps6
      go_wp2_with fail
      refine (szCpu _ c a b e q ca cb ce cq 1048576 lx ly lb lm (by decide) (by decide)).mono ?_
      rw [← HL1.out]
      rintro e9 w1 ⟨rfl, k1⟩
      have K1 := hide (K0.out.trans k1)
      have U1 := hide (U0.out.kept0 k1)
      have pu := U1.out.all
      clear k1 pa
      go_wp2_with fail
      refine (szUnit _ f t d cc n L1 nx hb2.1 (by omega)).mono ?_
      rw [hsz]
      rintro e9 w2 ⟨rfl, k2⟩
      have K2 := hide (K1.out.trans k2)
      clear k2
      go_wp2_with fail
      go_ret
      exact ⟨rfl, K2.out.below⟩
    · obtain ⟨L2, hL2⟩ : ∃ L2, L2 = L1 - (n : Int) := ⟨_, rfl⟩
      have hsz : (if L1 - (n : Int) < 0 then (-1 : Int) else L1 - (n : Int)) = L2 := (if_neg hn).trans hL2.symm
      have bn : n ≤ 2000000 := by omega
      have q9 : 0 ≤ L2 := by omega
      clear hn hL2
      obtain ⟨G, hG⟩ : ∃ G, G = Pl.canB c f t n ys ts sk := ⟨_, rfl⟩
      obtain ⟨G2, hG2⟩ : ∃ G2, G2 = Pl.canOk c f t n ys ts sk := ⟨_, rfl⟩
      have HG := hide hG
      have HG2 := hide hG2
      clear hG hG2
      have qq : (G != G) = false := by cases G <;> rfl
      have qq2 : (G2 != G2) = false := by cases G2 <;> rfl
      have pa := A0.out.all
      go_enter Tryz.func6, Tryz.ntmps6
      go_wp2_with fail
      clear pa
      refine (szCpu _ c a b e q ca cb ce cq 1048576 lx ly lb lm (by decide) (by decide)).mono ?_
      rw [← HL1.out]
      rintro e9 w1 ⟨rfl, k1⟩
      have K1 := hide (K0.out.trans k1)
      have A1 := hide (A0.out.kept0 k1)
      have U1 := hide (U0.out.kept0 k1)
      have pu := U1.out.all
      clear k1
      go_wp2_with fail
      clear pu
      refine (szUnit _ f t d cc n L1 nx hb2.1 (by omega)).mono ?_
      rw [hsz]
      rintro e9 w2 ⟨rfl, k2⟩
      have K2 := hide (K1.out.trans k2)
      have A2 := hide (A1.out.kept0 k2)
      have U2 := hide (U1.out.kept0 k2)
      clear k2
      go_wp2_with fail
      go_region_held3 (fun w' => (∀ i, w'.cell? ⟨w.heap.size, i, none⟩ = ((cpA c a b e q ca cb ce cq) : Array Value)[i]?) ∧ (∀ i, w'.cell? ⟨w.heap.size + 1, i, none⟩ = ((#[iv f, iv t, .slice d n cc]) : Array Value)[i]?)) (first | with_reducible exact ⟨A5.out.all, U5.out.all⟩ | with_reducible exact ⟨A4.out.all, U4.out.all⟩ | with_reducible exact ⟨A3.out.all, U3.out.all⟩ | exact ⟨(show Blk _ _ _ _ from A2.out).all, (show Blk _ _ _ _ from U2.out).all⟩) (first | (go_at_call 27; refine (toCpu _ c a b e q ca cb ce cq (HA.out.keptS (kept_drew K2.out)).1 (HB.out.keptS (kept_drew K2.out)).1 (HE.out.keptS (kept_drew K2.out)).1 (HQ.out.keptS (kept_drew K2.out)).1 lx2 ly2 lb2 HL.out lm2).mono ?_; rintro e9 w3 ⟨p1, p2, p3, p4, rfl, o1, kd⟩; have k3 := undrewK kd; have K3 := hide (K2.out.trans k3); have A3 := hide (A2.out.kept0 k3); have U3 := hide (U2.out.kept0 k3); have O1 := hide o1; clear kd k3 o1) | (go_at_call 18; refine (toUnit _ f t d cc n ys ts sk (HD.out.keptS K3.out) bn).mono ?_; rintro e9 w4 ⟨p5, rfl, h4, h5, m4, k4⟩; have K4 := hide (K3.out.trans k4); have A4 := hide (A3.out.kept0 k4); have U4 := hide (U3.out.kept0 k4); have O1b := hide (O1.out.kept k4 (by omega)); have M4 := hide m4; clear k4 m4) | (go_at_call 26; refine (specXCan _ c _ _ _ _ _ _ _ _ _ _ n f t ys ts sk O1b.out.d.row O1b.out.a'.row O1b.out.b'.row O1b.out.l.row lx2 ly2 lb2 HL.out lm2 M4.out.row HY.out bn).mono ?_; rw [← HG.out, ← HG2.out]; rintro e9 w5 ⟨rfl, k5⟩; have K5 := hide (K4.out.trans k5); have A5 := hide (A4.out.kept0 k5); have U5 := hide (U4.out.kept0 k5); clear k5))
      have pa := A5.out.all
      go_wp2_with fail
      clear pa
      refine (toCpu _ c a b e q ca cb ce cq (HA.out.keptS K5.out).1 (HB.out.keptS K5.out).1 (HE.out.keptS K5.out).1 (HQ.out.keptS K5.out).1 lx2 ly2 lb2 HL.out lm2).mono ?_
      rintro e9 w6 ⟨r1, r2, r3, r4, rfl, o3, k6⟩
      have k6b := kept_alloc w6 (.cells (cpA c (some ⟨r1, 0, none⟩) (some ⟨r2, 0, none⟩) (some ⟨r3, 0, none⟩) (some ⟨r4, 0, none⟩) c.r.xs.length c.r.ys.length c.bx.length c.bm) 62)
      have K6 := hide ((K5.out.trans k6).trans k6b)
      have A6 := hide ((A5.out.kept0 k6).kept0 k6b)
      have U6 := hide ((U5.out.kept0 k6).kept0 k6b)
      have X6 := hide (Blk.new w6 (cpA c (some ⟨r1, 0, none⟩) (some ⟨r2, 0, none⟩) (some ⟨r3, 0, none⟩) (some ⟨r4, 0, none⟩) c.r.xs.length c.r.ys.length c.bx.length c.bm) 62)
      have P6 := hide (o3.kept k6b (by omega))
      have z6 : (w6.alloc (.cells (cpA c (some ⟨r1, 0, none⟩) (some ⟨r2, 0, none⟩) (some ⟨r3, 0, none⟩) (some ⟨r4, 0, none⟩) c.r.xs.length c.r.ys.length c.bx.length c.bm) 62)).heap.size = w6.heap.size + 1 := by simp
      have pu := U6.out.all
      clear k6 o3
      go_wp2_with fail
      clear pu
      refine (toUnit _ f t d cc n ys ts sk (HD.out.keptS K6.out) bn).mono ?_
      rintro e9 w7 ⟨r5, rfl, h9, h10, m7, k7⟩
      have k7b := kept_alloc w7 (.cells #[iv f, iv t, .slice (some ⟨r5, 0, none⟩) n n] 29)
      have K7 := hide ((K6.out.trans k7).trans k7b)
      have A7 := hide ((A6.out.kept0 k7).kept0 k7b)
      have U7 := hide ((U6.out.kept0 k7).kept0 k7b)
      have X7 := hide ((X6.out.kept0 k7).kept0 k7b)
      have P7 := hide ((P6.out.kept k7 (by omega)).kept k7b (by omega))
      have Y7 := hide (Blk.new w7 #[iv f, iv t, .slice (some ⟨r5, 0, none⟩) n n] 29)
      have M7 := hide (MOwn.keptS m7 k7b (by omega))
      have px := X7.out.all
      have py := Y7.out.all
      clear k7 m7
      go_wp2_with fail
      clear px py
      refine (implXCan _ c _ _ _ _ _ _ _ _ _ _ n f t ys ts sk ⟨P7.out.d.row, HA.out.2⟩ ⟨P7.out.a'.row, HB.out.2⟩ ⟨P7.out.b'.row, HE.out.2⟩ ⟨P7.out.l.row, HQ.out.2⟩ lx2 ly2 lb2 HL.out lm2 HWF.out M7.out.row HY.out HW.out bn).mono ?_
      rw [← HG.out, ← HG2.out]
      rintro e9 w8 ⟨rfl, k8⟩
      have K8 := hide (K7.out.trans k8)
      have A8 := hide (A7.out.kept0 k8)
      have U8 := hide (U7.out.kept0 k8)
      have X8 := hide (X7.out.kept0 k8)
      have Y8 := hide (Y7.out.kept0 k8)
      have P8 := hide (P7.out.kept k8 (by omega))
      have M8 := hide (MOwn.keptS M7.out k8 (by omega))
      clear k8
      go_wp2_with fail
      go_region_held3 (fun w' => (∀ i, w'.cell? ⟨w.heap.size, i, none⟩ = ((cpA c a b e q ca cb ce cq) : Array Value)[i]?) ∧ (∀ i, w'.cell? ⟨w6.heap.size, i, none⟩ = ((cpA c (some ⟨r1, 0, none⟩) (some ⟨r2, 0, none⟩) (some ⟨r3, 0, none⟩) (some ⟨r4, 0, none⟩) c.r.xs.length c.r.ys.length c.bx.length c.bm) : Array Value)[i]?)) (first | with_reducible exact ⟨Aa.out.all, Xa.out.all⟩ | with_reducible exact ⟨A9.out.all, X9.out.all⟩ | exact ⟨(show Blk _ _ _ _ from A8.out).all, (show Blk _ _ _ _ from X8.out).all⟩) (first | (go_at_call 27; refine (toCpu _ c a b e q ca cb ce cq (HA.out.keptS (kept_drew K8.out)).1 (HB.out.keptS (kept_drew K8.out)).1 (HE.out.keptS (kept_drew K8.out)).1 (HQ.out.keptS (kept_drew K8.out)).1 lx2 ly2 lb2 HL.out lm2).mono ?_; rintro e9 w9 ⟨s1, s2, s3, s4, rfl, o5, kd⟩; have k9 := undrewK kd; have K9 := hide (K8.out.trans k9); have A9 := hide (A8.out.kept0 k9); have U9 := hide (U8.out.kept0 k9); have X9 := hide (X8.out.kept0 k9); have Y9 := hide (Y8.out.kept0 k9); have P9 := hide (P8.out.kept k9 (by omega)); have M9 := hide (MOwn.keptS M8.out k9 (by omega)); have P9s := hide o5; clear kd k9 o5) | (go_at_call 29; refine (eqCpu _ c _ _ _ _ _ _ _ _ _ _ _ _ _ _ _ _ P9.out.d.row P9.out.a'.row P9.out.b'.row P9.out.l.row P9s.out.d.row P9s.out.a'.row P9s.out.b'.row P9s.out.l.row lx2 ly2 lb2 HL.out lm2).mono ?_; rintro e9 wa ⟨rfl, ka⟩; have Ka := hide (K9.out.trans ka); have Aa := hide (A9.out.kept0 ka); have Ua := hide (U9.out.kept0 ka); have Xa := hide (X9.out.kept0 ka); have Ya := hide (Y9.out.kept0 ka); have Ma := hide (MOwn.keptS M9.out ka (by omega)); clear ka))
      go_wp2_with fail
      go_region_held3 (fun w' => (∀ i, w'.cell? ⟨w.heap.size + 1, i, none⟩ = ((#[iv f, iv t, .slice d n cc]) : Array Value)[i]?) ∧ (∀ i, w'.cell? ⟨w7.heap.size, i, none⟩ = ((#[iv f, iv t, .slice (some ⟨r5, 0, none⟩) n n]) : Array Value)[i]?)) (first | with_reducible exact ⟨Uc.out.all, Yc.out.all⟩ | with_reducible exact ⟨Ub.out.all, Yb.out.all⟩ | exact ⟨(show Blk _ _ _ _ from Ua.out).all, (show Blk _ _ _ _ from Ya.out).all⟩) (first | (go_at_call 18; refine (toUnit _ f t d cc n ys ts sk (HD.out.keptS (kept_drew Ka.out)) bn).mono ?_; rintro e9 wb ⟨s5, rfl, h14, h15, mb, kd⟩; have kb := undrewK kd; have Kb := hide (Ka.out.trans kb); have Ub := hide (Ua.out.kept0 kb); have Yb := hide (Ya.out.kept0 kb); have Mb := hide (MOwn.keptS Ma.out kb (by omega)); have Mc := hide mb; clear kd kb mb) | (go_at_call 11; refine (eqUnit _ f t _ _ n n n ys ts sk Mb.out.row Mc.out.row bn).mono ?_; rintro e9 wc ⟨rfl, kc⟩; have Kc := hide (Kb.out.trans kc); have Uc := hide (Ub.out.kept0 kc); have Yc := hide (Yb.out.kept0 kc); clear kc))
      go_wp2_with fail
      go_ret
      exact ⟨rfl, Kc.out.below⟩
end Go.Proofs.YtbppfbkkphhjnaaGreat

namespace Go.Proofs.YtbppfbkkphhjnaaGreat
open Go.RowKit Go.WideShapes Go.ChangeShapes Go.ChangeAt
set_option linter.unusedVariables false
set_option linter.unusedSimpArgs false

theorem Tryz.cellsInt : Tryz.prog.cellsOf 3 = 1 := by kernel_rfl
theorem Tryz.cellsAcc : Tryz.prog.cellsOf 114 = 5 := by kernel_rfl
theorem Tryz.cellsBus : Tryz.prog.cellsOf 25 = 2 := by kernel_rfl
theorem Tryz.cellsBool : Tryz.prog.cellsOf 4 = 1 := by kernel_rfl
theorem Tryz.cellsInts : Tryz.prog.cellsOf 22 = 1 := by kernel_rfl
theorem Tryz.cellsAccs : Tryz.prog.cellsOf 23 = 1 := by kernel_rfl
theorem Tryz.cellsRegs : Tryz.prog.cellsOf 55 = 8 := by kernel_rfl
theorem Tryz.cellsCpu : Tryz.prog.cellsOf 57 = 12 := by kernel_rfl


/-- from numbers at each place to the row of them -/
theorem Addr.add_add_own (a : Addr) (i j : Nat) : (a.add i).add j = a.add (i + j) := by
  unfold Addr.add
  by_cases hi : i = 0 <;> by_cases hj : j = 0 <;> simp [hi, hj, Nat.add_assoc]
set_option maxRecDepth 100000 in
theorem came_of {w : World} {x : Addr} {n : Nat} (h : ∀ i, i < n → ∃ z : Int, w.cell? (x.add i) = some (iv z) ∧ (Lit.int .i64 z).wf = true) : ∃ xs : List Int, xs.length = n ∧ Came w (some x) xs := by
  obtain ⟨f, hf⟩ := Go.Deep.choose_lt h
  refine ⟨(List.range n).map f, by simp, ?_, ?_⟩
  · intro i hi
    have hi' : i < n := by simpa using hi
    obtain ⟨g, off, spot⟩ := x
    have hspot : spot = none := by simpa [Addr.add] using World.cell?_spot (hf 0 (by omega)).1
    subst hspot
    refine ⟨g, off, rfl, ?_⟩
    have hc := (hf i hi').1
    by_cases h0 : i = 0
    · subst h0; simpa [Addr.add, hi'] using hc
    · simpa [Addr.add, h0, hi'] using hc
  · intro i hi
    have hi' : i < n := by simpa using hi
    have := bounds_i64 (hf i hi').2
    simpa [hi'] using this

section
variable {H : Type} {enc : TypeId × Value → H} {w : World} {base : Nat} {spare : Nat → Bool} {held : Bool}

set_option maxRecDepth 100000 in
theorem open_intRow {fuel : Nat} {v : Value} {y : DataW H × List MemPlace} (h : DataW.trod enc Tryz.prog w base spare held fuel 22 [v] = some y) :
    ∃ (a : Option Addr) (cap : Nat) (xs : List Int), v = .slice a xs.length cap ∧ Came w a xs ∧ xs.length ≤ maxLen := by
  rcases open_ints Tryz.underlying22 Tryz.underlying3 Tryz.cellsInt h with ⟨hc, _⟩ | ⟨x, len, cap, zs, hc, _, hl, hm, hz, _, hcell, hwz⟩
  · simp at hc
    exact ⟨none, 0, [], hc, ⟨fun i hi => absurd hi (Nat.not_lt_zero i), fun i hi => absurd hi (Nat.not_lt_zero i)⟩, Nat.zero_le _⟩
  · simp at hc
    have hlen : len ≤ zs.length := by rw [hz]; split <;> omega
    obtain ⟨xs, rfl, hx⟩ := came_of (w := w) (x := x) (n := len) (fun i hi => ⟨zs.getD i 0, hcell i (by omega), hwz _ (by
      have : i < zs.length := by omega
      simp [List.getD, this])⟩)
    exact ⟨some x, cap, xs, hc, hx, by omega⟩

set_option maxRecDepth 100000 in
theorem open_accRow {fuel : Nat} {v : Value} {y : DataW H × List MemPlace} (h : DataW.trod enc Tryz.prog w base spare held fuel 23 [v] = some y) :
    ∃ (a : Option Addr) (m cap : Nat) (ys : List Int), v = .slice a m cap ∧ Came w a ys ∧ ys.length = 5 * m ∧ m ≤ maxLen := by
  rcases Go.Deep.open_slice Tryz.underlying23 h with ⟨hc, _⟩ | ⟨x, len, cap, m, n, D, Pl, hc, _, hl, hm, hmm, _, hel⟩
  · simp at hc
    exact ⟨none, 0, 0, [], hc, ⟨fun i hi => absurd hi (Nat.not_lt_zero i), fun i hi => absurd hi (Nat.not_lt_zero i)⟩, rfl, Nat.zero_le _⟩
  · simp at hc
    have hlen : len ≤ m := by rw [hmm]; split <;> omega
    obtain ⟨ys, hy, hx⟩ := came_of (w := w) (x := x) (n := 5 * len) (by
      intro i hi
      obtain ⟨cs', h1, h2⟩ := hel (i / 5) (by omega)
      rw [Tryz.cellsAcc] at h1
      obtain ⟨_, hl5, hcs⟩ := World.cells?_some h1
      obtain ⟨zs, k, _, _, _, hzl, hf⟩ := DataW.trod_struct Tryz.underlying114 h2
      have hget := hcs (i % 5) (by omega)
      rw [Addr.add_add_own, show i / 5 * 5 + i % 5 = i from by omega] at hget
      rw [hget]
      obtain ⟨c0, c1, c2, c3, c4, rfl⟩ : ∃ c0 c1 c2 c3 c4, cs' = [c0, c1, c2, c3, c4] := by
        match cs', hl5 with
        | [c0, c1, c2, c3, c4], _ => exact ⟨c0, c1, c2, c3, c4, rfl⟩
      obtain ⟨z0, z1, z2, z3, z4, rfl⟩ : ∃ z0 z1 z2 z3 z4, zs = [z0, z1, z2, z3, z4] := by
        match zs, hzl with
        | [z0, z1, z2, z3, z4], _ => exact ⟨z0, z1, z2, z3, z4, rfl⟩
      have t0 := hf 0 _ rfl
      have t1 := hf 1 _ rfl
      have t2 := hf 2 _ rfl
      have t3 := hf 3 _ rfl
      have t4 := hf 4 _ rfl
      simp [Tryz.cellsInt] at t0 t1 t2 t3 t4
      obtain ⟨n0, e0, _, b0⟩ := DataW.trod_int Tryz.underlying3 t0
      obtain ⟨n1, e1, _, b1⟩ := DataW.trod_int Tryz.underlying3 t1
      obtain ⟨n2, e2, _, b2⟩ := DataW.trod_int Tryz.underlying3 t2
      obtain ⟨n3, e3, _, b3⟩ := DataW.trod_int Tryz.underlying3 t3
      obtain ⟨n4, e4, _, b4⟩ := DataW.trod_int Tryz.underlying3 t4
      simp at e0 e1 e2 e3 e4
      subst e0 e1 e2 e3 e4
      obtain h | h | h | h | h : i % 5 = 0 ∨ i % 5 = 1 ∨ i % 5 = 2 ∨ i % 5 = 3 ∨ i % 5 = 4 := by omega
      all_goals rw [h]
      · exact ⟨n0, rfl, b0⟩
      · exact ⟨n1, rfl, b1⟩
      · exact ⟨n2, rfl, b2⟩
      · exact ⟨n3, rfl, b3⟩
      · exact ⟨n4, rfl, b4⟩)
    exact ⟨some x, len, cap, ys, hc, hx, hy, by omega⟩

set_option maxRecDepth 100000 in
theorem open_Cpu {r : Reach} {b0 : Nat} {v : Value} {d : DataW H} {p : List MemPlace} (hv : Value.okWide Tryz.prog w r b0 57 v) (h : DataW.Trod enc Tryz.prog w base spare held 57 v d p) :
    ∃ (a0 : Option Addr) (c0 : Nat) (x0 : List Int) (a1 : Option Addr) (c1 : Nat) (x1 : List Int) (i2 i3 i4 i5 : Int) (i6 i7 : Bool) (a8 : Option Addr) (c8 : Nat) (x8 : List Int) (a9 : Option Addr) (m9 c9 : Nat) (x9 : List Int) (i10 i11 : Bool), v = .agg #[.slice a0 x0.length c0, .slice a1 x1.length c1, iv i2, iv i3, iv i4, iv i5, .bool i6, .bool i7, .slice a8 x8.length c8, .slice a9 m9 c9, .bool i10, .bool i11] ∧ (Came w a0 x0 ∧ x0.length ≤ maxLen) ∧ (Came w a1 x1 ∧ x1.length ≤ maxLen) ∧ (Lit.int .i64 i2).wf = true ∧ (Lit.int .i64 i3).wf = true ∧ (Lit.int .i64 i4).wf = true ∧ (Lit.int .i64 i5).wf = true ∧ (Came w a8 x8 ∧ x8.length ≤ maxLen) ∧ (Came w a9 x9 ∧ x9.length = 5 * m9 ∧ m9 ≤ maxLen) := by
  obtain ⟨cs, rfl, hsz⟩ := okWide_struct Tryz.underlying57 hv
  rw [Tryz.cellsCpu] at hsz
  obtain ⟨cl⟩ := cs
  obtain ⟨c_0, c_1, c_2, c_3, c_4, c_5, c_6, c_7, c_8, c_9, c_10, c_11, rfl⟩ : ∃ c_0 c_1 c_2 c_3 c_4 c_5 c_6 c_7 c_8 c_9 c_10 c_11, cl = [c_0, c_1, c_2, c_3, c_4, c_5, c_6, c_7, c_8, c_9, c_10, c_11] := by
    match cl, hsz with
    | [c_0, c_1, c_2, c_3, c_4, c_5, c_6, c_7, c_8, c_9, c_10, c_11], _ => exact ⟨c_0, c_1, c_2, c_3, c_4, c_5, c_6, c_7, c_8, c_9, c_10, c_11, rfl⟩
  obtain ⟨fuel, hf0⟩ := h
  obtain ⟨zs, k, _, _, _, hzl, hf⟩ := DataW.trod_struct Tryz.underlying57 hf0
  obtain ⟨y_0, y_1, y_2, y_3, rfl⟩ : ∃ y_0 y_1 y_2 y_3, zs = [y_0, y_1, y_2, y_3] := by
    match zs, hzl with
    | [y_0, y_1, y_2, y_3], _ => exact ⟨y_0, y_1, y_2, y_3, rfl⟩
  have s0 := hf 0 _ rfl
  have s1 := hf 1 _ rfl
  have s2 := hf 2 _ rfl
  have s3 := hf 3 _ rfl
  simp [Value.cells, Tryz.cellsRegs, Tryz.cellsBus, Tryz.cellsBool] at s0 s1 s2 s3
  obtain ⟨zs, k2, _, _, _, hzl, hr⟩ := DataW.trod_struct Tryz.underlying55 s0
  obtain ⟨z_0, z_1, z_2, z_3, z_4, z_5, z_6, z_7, rfl⟩ : ∃ z_0 z_1 z_2 z_3 z_4 z_5 z_6 z_7, zs = [z_0, z_1, z_2, z_3, z_4, z_5, z_6, z_7] := by
    match zs, hzl with
    | [z_0, z_1, z_2, z_3, z_4, z_5, z_6, z_7], _ => exact ⟨z_0, z_1, z_2, z_3, z_4, z_5, z_6, z_7, rfl⟩
  have t0 := hr 0 _ rfl
  have t1 := hr 1 _ rfl
  have t2 := hr 2 _ rfl
  have t3 := hr 3 _ rfl
  have t4 := hr 4 _ rfl
  have t5 := hr 5 _ rfl
  have t6 := hr 6 _ rfl
  have t7 := hr 7 _ rfl
  simp [Value.cells, Tryz.cellsInt, Tryz.cellsBool, Tryz.cellsInts] at t0 t1 t2 t3 t4 t5 t6 t7
  obtain ⟨zs, k3, _, _, _, hzl, hb⟩ := DataW.trod_struct Tryz.underlying25 s1
  obtain ⟨x_0, x_1, rfl⟩ : ∃ x_0 x_1, zs = [x_0, x_1] := by
    match zs, hzl with
    | [x_0, x_1], _ => exact ⟨x_0, x_1, rfl⟩
  have t8 := hb 0 _ rfl
  have t9 := hb 1 _ rfl
  simp [Value.cells, Tryz.cellsInts, Tryz.cellsAccs] at t8 t9
  obtain ⟨a0, c0, x0, q0, hx0, lx0⟩ := open_intRow t0
  obtain ⟨a1, c1, x1, q1, hx1, lx1⟩ := open_intRow t1
  obtain ⟨i2, q2, _, wf2⟩ := DataW.trod_int Tryz.underlying3 t2
  obtain ⟨i3, q3, _, wf3⟩ := DataW.trod_int Tryz.underlying3 t3
  obtain ⟨i4, q4, _, wf4⟩ := DataW.trod_int Tryz.underlying3 t4
  obtain ⟨i5, q5, _, wf5⟩ := DataW.trod_int Tryz.underlying3 t5
  obtain ⟨i6, q6, _⟩ := DataW.trod_bool Tryz.underlying4 t6
  obtain ⟨i7, q7, _⟩ := DataW.trod_bool Tryz.underlying4 t7
  obtain ⟨a8, c8, x8, q8, hx8, lx8⟩ := open_intRow t8
  obtain ⟨a9, m9, c9, x9, q9, hx9, ly9, lm9⟩ := open_accRow t9
  obtain ⟨i10, q10, _⟩ := DataW.trod_bool Tryz.underlying4 s2
  obtain ⟨i11, q11, _⟩ := DataW.trod_bool Tryz.underlying4 s3
  simp at q0 q1 q2 q3 q4 q5 q6 q7 q8 q9 q10 q11
  subst q0 q1 q2 q3 q4 q5 q6 q7 q8 q9 q10 q11
  exact ⟨a0, c0, x0, a1, c1, x1, i2, i3, i4, i5, i6, i7, a8, c8, x8, a9, m9, c9, x9, i10, i11, rfl, ⟨hx0, lx0⟩, ⟨hx1, lx1⟩, wf2, wf3, wf4, wf5, ⟨hx8, lx8⟩, ⟨hx9, ly9, lm9⟩⟩
end
end Go.Proofs.YtbppfbkkphhjnaaGreat

namespace Go.Proofs.YtbppfbkkphhjnaaGreat
open Go.RowKit Go.WideShapes Go.ChangeShapes Go.ChangeAt
set_option linter.unusedVariables false
set_option maxRecDepth 100000
theorem Tryz.cellsOpnd : Tryz.prog.cellsOf 133 = 3 := by kernel_rfl
theorem Tryz.cellsIns : Tryz.prog.cellsOf 135 = 7 := by kernel_rfl
section
variable {H : Type} {enc : TypeId × Value → H} {w : World} {base : Nat} {spare : Nat → Bool} {held : Bool}
theorem open_insCells {fuel : Nat} {c0 c1 c2 c3 c4 c5 c6 : Value} {y : DataW H × List MemPlace} (h : DataW.trod enc Tryz.prog w base spare held fuel 135 [c0, c1, c2, c3, c4, c5, c6] = some y) :
    ∃ i0 i1 i2 i3 i4 i5 i6 : Int, (c0 = .int .i64 i0 ∧ c1 = .int .i64 i1 ∧ c2 = .int .i64 i2 ∧ c3 = .int .i64 i3 ∧ c4 = .int .i64 i4 ∧ c5 = .int .i64 i5 ∧ c6 = .int .i64 i6) ∧ (Lit.int .i64 i0).wf = true ∧ (Lit.int .i64 i1).wf = true ∧ (Lit.int .i64 i2).wf = true ∧ (Lit.int .i64 i3).wf = true ∧ (Lit.int .i64 i4).wf = true ∧ (Lit.int .i64 i5).wf = true ∧ (Lit.int .i64 i6).wf = true := by
  obtain ⟨zs, k, _, _, _, hzl, hf⟩ := DataW.trod_struct Tryz.underlying135 h
  obtain ⟨z0, z1, z2, z3, z4, rfl⟩ : ∃ z0 z1 z2 z3 z4, zs = [z0, z1, z2, z3, z4] := by
    match zs, hzl with
    | [z0, z1, z2, z3, z4], _ => exact ⟨z0, z1, z2, z3, z4, rfl⟩
  have t0 := hf 0 _ rfl
  have t1 := hf 1 _ rfl
  have t2 := hf 2 _ rfl
  have t3 := hf 3 _ rfl
  have t4 := hf 4 _ rfl
  simp [Tryz.cellsInt, Tryz.cellsOpnd] at t0 t1 t2 t3 t4
  obtain ⟨ys, k2, _, _, _, hyl, hg⟩ := DataW.trod_struct Tryz.underlying133 t3
  obtain ⟨y0, y1, y2, rfl⟩ : ∃ y0 y1 y2, ys = [y0, y1, y2] := by
    match ys, hyl with
    | [y0, y1, y2], _ => exact ⟨y0, y1, y2, rfl⟩
  have s0 := hg 0 _ rfl
  have s1 := hg 1 _ rfl
  have s2 := hg 2 _ rfl
  simp [Tryz.cellsInt] at s0 s1 s2
  obtain ⟨i0, e0, _, b0⟩ := DataW.trod_int Tryz.underlying3 t0
  obtain ⟨i1, e1, _, b1⟩ := DataW.trod_int Tryz.underlying3 t1
  obtain ⟨i2, e2, _, b2⟩ := DataW.trod_int Tryz.underlying3 t2
  obtain ⟨i3, e3, _, b3⟩ := DataW.trod_int Tryz.underlying3 s0
  obtain ⟨i4, e4, _, b4⟩ := DataW.trod_int Tryz.underlying3 s1
  obtain ⟨i5, e5, _, b5⟩ := DataW.trod_int Tryz.underlying3 s2
  obtain ⟨i6, e6, _, b6⟩ := DataW.trod_int Tryz.underlying3 t4
  simp at e0 e1 e2 e3 e4 e5 e6
  exact ⟨i0, i1, i2, i3, i4, i5, i6, ⟨e0, e1, e2, e3, e4, e5, e6⟩, b0, b1, b2, b3, b4, b5, b6⟩
end
theorem Tryz.cellsMicro : Tryz.prog.cellsOf 137 = 9 := by kernel_rfl
theorem Tryz.cellsMicros : Tryz.prog.cellsOf 41 = 1 := by kernel_rfl
theorem Tryz.cellsUnit : Tryz.prog.cellsOf 43 = 3 := by kernel_rfl
/-- the numbers of an instruction, in their order -/
def inC (y : Pl.In) : Nat → Int
  | 0 => y.op
  | 1 => y.z
  | 2 => y.r
  | 3 => y.m
  | 4 => y.k
  | 5 => y.e
  | _ => y.s
theorem micros_of {w : World} {x : Addr} {len : Nat} (h : ∀ k, k < len → ∃ r : Pl.In × Int × Bool, (∀ j, j < 7 → w.cell? (x.add (k * 9 + j)) = some (.int .i64 (inC r.1 j)) ∧ (Lit.int .i64 (inC r.1 j)).wf = true) ∧ w.cell? (x.add (k * 9 + 7)) = some (.int .i64 r.2.1) ∧ (Lit.int .i64 r.2.1).wf = true ∧ w.cell? (x.add (k * 9 + 8)) = some (.bool r.2.2)) :
    ∃ (ys ts : List Int) (sk : List Bool), MRow w (some x) len ys ts sk ∧ ys.length = 7 * len ∧ ts.length = len ∧ sk.length = len ∧ Wide ys ∧ Wide ts := by
  obtain ⟨f, hf⟩ : ∃ f : Nat → Pl.In × Int × Bool, ∀ k, k < len → ((∀ j, j < 7 → w.cell? (x.add (k * 9 + j)) = some (.int .i64 (inC (f k).1 j)) ∧ (Lit.int .i64 (inC (f k).1 j)).wf = true) ∧ w.cell? (x.add (k * 9 + 7)) = some (.int .i64 (f k).2.1) ∧ (Lit.int .i64 (f k).2.1).wf = true ∧ w.cell? (x.add (k * 9 + 8)) = some (.bool (f k).2.2)) := by
    have h2 : ∀ k, ∃ r : Pl.In × Int × Bool, k < len → ((∀ j, j < 7 → w.cell? (x.add (k * 9 + j)) = some (.int .i64 (inC r.1 j)) ∧ (Lit.int .i64 (inC r.1 j)).wf = true) ∧ w.cell? (x.add (k * 9 + 7)) = some (.int .i64 r.2.1) ∧ (Lit.int .i64 r.2.1).wf = true ∧ w.cell? (x.add (k * 9 + 8)) = some (.bool r.2.2)) := by
      intro k
      by_cases hk : k < len
      · obtain ⟨r, hr⟩ := h k hk
        exact ⟨r, fun _ => hr⟩
      · exact ⟨(Pl.inNo, 0, false), fun q => absurd q hk⟩
    exact ⟨fun k => Classical.choose (h2 k), fun k hk => Classical.choose_spec (h2 k) hk⟩
  obtain ⟨ys, hys⟩ : ∃ ys : List Int, ys = (List.range (7 * len)).map fun i => inC (f (i / 7)).1 (i % 7) := ⟨_, rfl⟩
  obtain ⟨ts, hts⟩ : ∃ ts : List Int, ts = (List.range len).map fun k => (f k).2.1 := ⟨_, rfl⟩
  obtain ⟨sk, hsk⟩ : ∃ sk : List Bool, sk = (List.range len).map fun k => (f k).2.2 := ⟨_, rfl⟩
  have ey : ∀ i, i < 7 * len → el ys i = inC (f (i / 7)).1 (i % 7) := fun i hi => by rw [hys]; unfold el; rw [List.getElem?_map, List.getElem?_range hi]; rfl
  have et : ∀ i, i < len → el ts i = (f i).2.1 := fun i hi => by rw [hts]; unfold el; rw [List.getElem?_map, List.getElem?_range hi]; rfl
  have es : ∀ i, i < len → bl sk i = (f i).2.2 := fun i hi => by rw [hsk]; unfold bl; rw [List.getElem?_map, List.getElem?_range hi]; rfl
  refine ⟨ys, ts, sk, ?_, by rw [hys]; simp, by rw [hts]; simp, by rw [hsk]; simp, ?_, ?_⟩
  · intro i hi
    rw [miL_len] at hi
    have hk : i / 9 < len := by omega
    obtain ⟨q7, q8, _, q9⟩ := hf (i / 9) hk
    obtain ⟨m7, m8, m9⟩ := miL_at ys ts sk hk
    have hc : w.cell? (x.add i) = some (vl (miL ys ts sk len) i) := by
      rcases Nat.lt_or_ge (i % 9) 7 with hj | hj
      · have e : i / 9 * 9 + i % 9 = i := by omega
        have h1 := (q7 (i % 9) hj).1
        have h2 := m7 (i % 9) hj
        rw [e] at h1 h2
        rw [h1, h2, ey _ (by omega), show (i / 9 * 7 + i % 9) / 7 = i / 9 from by omega, show (i / 9 * 7 + i % 9) % 7 = i % 9 from by omega]
      · rcases (show i % 9 = 7 ∨ i % 9 = 8 by omega) with h7 | h8
        · have e : i / 9 * 9 + 7 = i := by omega
          rw [e] at q8 m8
          rw [q8, m8, et _ hk]
        · have e : i / 9 * 9 + 8 = i := by omega
          rw [e] at q9 m9
          rw [q9, m9, es _ hk]
    obtain ⟨g, off, spot⟩ := x
    have hspot : spot = none := by
      have h0 := (hf 0 (by omega)).1 0 (by decide)
      simpa [Addr.add] using World.cell?_spot h0.1
    subst hspot
    refine ⟨g, off, rfl, ?_⟩
    by_cases h0 : i = 0
    · subst h0; simpa [Addr.add] using hc
    · simpa [Addr.add, h0] using hc
  · intro i hi
    have hi7 : i < 7 * len := by rw [hys] at hi; simpa using hi
    have hq := ((hf (i / 7) (by omega)).1 (i % 7) (by omega)).2
    rw [← ey i hi7] at hq
    have := bounds_i64 hq
    unfold el at this
    exact this
  · intro i hi
    have hi7 : i < len := by rw [hts] at hi; simpa using hi
    have hq := (hf i hi7).2.2.1
    rw [← et i hi7] at hq
    have := bounds_i64 hq
    unfold el at this
    exact this
section
variable {H : Type} {enc : TypeId × Value → H} {w : World} {base : Nat} {spare : Nat → Bool} {held : Bool}
theorem open_MicroRow {fuel : Nat} {v : Value} {y : DataW H × List MemPlace} (h : DataW.trod enc Tryz.prog w base spare held fuel 41 [v] = some y) :
    ∃ (a : Option Addr) (m cap : Nat) (ys ts : List Int) (sk : List Bool), v = .slice a m cap ∧ MRow w a m ys ts sk ∧ ys.length = 7 * m ∧ ts.length = m ∧ sk.length = m ∧ Wide ys ∧ Wide ts ∧ m ≤ maxLen := by
  rcases Go.Deep.open_slice Tryz.underlying41 h with ⟨hc, _⟩ | ⟨x, len, cap, m, n, D, Pl, hc, _, hl, hm, hmm, _, hel⟩
  · simp at hc
    exact ⟨none, 0, 0, [], [], [], hc, fun i hi => absurd hi (by simp [miL]), rfl, rfl, rfl, fun i hi => absurd hi (Nat.not_lt_zero i), fun i hi => absurd hi (Nat.not_lt_zero i), Nat.zero_le _⟩
  · simp at hc
    have hlen : len ≤ m := by rw [hmm]; split <;> omega
    obtain ⟨ys, ts, sk, h1, h2, h3, h4, h5, h6⟩ := micros_of (w := w) (x := x) (len := len) (by
      intro k hk
      obtain ⟨cs', h1, h2⟩ := hel k (by omega)
      rw [Tryz.cellsMicro] at h1
      obtain ⟨_, hl5, hcs⟩ := World.cells?_some h1
      obtain ⟨c0, c1, c2, c3, c4, c5, c6, c7, c8, rfl⟩ : ∃ c0 c1 c2 c3 c4 c5 c6 c7 c8, cs' = [c0, c1, c2, c3, c4, c5, c6, c7, c8] := by
        match cs', hl5 with
        | [c0, c1, c2, c3, c4, c5, c6, c7, c8], _ => exact ⟨c0, c1, c2, c3, c4, c5, c6, c7, c8, rfl⟩
      have hget : ∀ j, j < 9 → w.cell? (x.add (k * 9 + j)) = [c0, c1, c2, c3, c4, c5, c6, c7, c8][j]? := fun j hj => by
        have h9 := hcs j (by omega)
        rw [Addr.add_add_own] at h9
        exact h9
      obtain ⟨zs, k2, _, _, _, hzl, hf⟩ := DataW.trod_struct Tryz.underlying137 h2
      obtain ⟨z0, z1, z2, rfl⟩ : ∃ z0 z1 z2, zs = [z0, z1, z2] := by
        match zs, hzl with
        | [z0, z1, z2], _ => exact ⟨z0, z1, z2, rfl⟩
      have t0 := hf 0 _ rfl
      have t1 := hf 1 _ rfl
      have t2 := hf 2 _ rfl
      simp [Tryz.cellsInt, Tryz.cellsIns, Tryz.cellsBool] at t0 t1 t2
      obtain ⟨n0, n1, n2, n3, n4, n5, n6, ⟨e0, e1, e2, e3, e4, e5, e6⟩, b0, b1, b2, b3, b4, b5, b6⟩ := open_insCells t0
      obtain ⟨n7, e7, _, b7⟩ := DataW.trod_int Tryz.underlying3 t1
      obtain ⟨n8, e8, _⟩ := DataW.trod_bool Tryz.underlying4 t2
      simp at e7 e8
      subst e0 e1 e2 e3 e4 e5 e6 e7 e8
      refine ⟨(⟨n0, n1, n2, n3, n4, n5, n6⟩, n7, n8), ?_, hget 7 (by decide), b7, hget 8 (by decide)⟩
      intro j hj
      obtain rfl | rfl | rfl | rfl | rfl | rfl | rfl : j = 0 ∨ j = 1 ∨ j = 2 ∨ j = 3 ∨ j = 4 ∨ j = 5 ∨ j = 6 := by omega
      · exact ⟨hget 0 (by decide), b0⟩
      · exact ⟨hget 1 (by decide), b1⟩
      · exact ⟨hget 2 (by decide), b2⟩
      · exact ⟨hget 3 (by decide), b3⟩
      · exact ⟨hget 4 (by decide), b4⟩
      · exact ⟨hget 5 (by decide), b5⟩
      · exact ⟨hget 6 (by decide), b6⟩)
    exact ⟨some x, len, cap, ys, ts, sk, hc, h1, h2, h3, h4, h5, h6, by omega⟩
theorem open_Unit {r : Reach} {b0 : Nat} {v : Value} {d : DataW H} {p : List MemPlace} (hv : Value.okWide Tryz.prog w r b0 43 v) (h : DataW.Trod enc Tryz.prog w base spare held 43 v d p) :
    ∃ (i0 i1 : Int) (a2 : Option Addr) (m2 c2 : Nat) (y2 t2 : List Int) (s2 : List Bool), v = .agg #[.int .i64 i0, .int .i64 i1, .slice a2 m2 c2] ∧ (Lit.int .i64 i0).wf = true ∧ (Lit.int .i64 i1).wf = true ∧ (MRow w a2 m2 y2 t2 s2 ∧ y2.length = 7 * m2 ∧ t2.length = m2 ∧ s2.length = m2 ∧ Wide y2 ∧ Wide t2 ∧ m2 ≤ maxLen) := by
  obtain ⟨cs, rfl, hsz⟩ := okWide_struct Tryz.underlying43 hv
  rw [Tryz.cellsUnit] at hsz
  obtain ⟨cl⟩ := cs
  obtain ⟨c_0, c_1, c_2, rfl⟩ : ∃ c_0 c_1 c_2, cl = [c_0, c_1, c_2] := by
    match cl, hsz with
    | [c_0, c_1, c_2], _ => exact ⟨c_0, c_1, c_2, rfl⟩
  obtain ⟨fuel, hf0⟩ := h
  obtain ⟨zs, k, _, _, _, hzl, hf⟩ := DataW.trod_struct Tryz.underlying43 hf0
  obtain ⟨z_0, z_1, z_2, rfl⟩ : ∃ z_0 z_1 z_2, zs = [z_0, z_1, z_2] := by
    match zs, hzl with
    | [z_0, z_1, z_2], _ => exact ⟨z_0, z_1, z_2, rfl⟩
  have t0 := hf 0 _ rfl
  have t1 := hf 1 _ rfl
  have t2 := hf 2 _ rfl
  simp [Value.cells, Tryz.cellsInt, Tryz.cellsMicros] at t0 t1 t2
  obtain ⟨i0, q0, _, w0⟩ := DataW.trod_int Tryz.underlying3 t0
  obtain ⟨i1, q1, _, w1⟩ := DataW.trod_int Tryz.underlying3 t1
  obtain ⟨a2, m2, c2, y2, tt2, s2, q2, hh⟩ := open_MicroRow t2
  simp at q0 q1
  subst q0 q1 q2
  exact ⟨i0, i1, a2, m2, c2, y2, tt2, s2, rfl, w0, w1, hh⟩
end
end Go.Proofs.YtbppfbkkphhjnaaGreat

