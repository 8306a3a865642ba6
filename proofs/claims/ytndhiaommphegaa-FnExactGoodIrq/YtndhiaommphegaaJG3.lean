/- What the program's GoodIrq, NewIrq, SetLine and PendingOf answer. What the laws' toCpu does: a copy, each list in a new block of its own. -/
import Derived.Test.YtndhiaommphegaaJG2
import Derived.Test.YtndhiaommphegaaJG1
import Derived.StillTailTactics
import Derived.Deep.RegionHeld3
import Derived.Laws.Tables
import Derived.Deep.AppendLies
import Derived.Deep.QuietTactic
import Derived.BigQuiet
import Derived.Deep.MidRow
import Derived.Laws.CopyOwn
import Derived.Deep.WholeRow
import Derived.Deep.RegionLawGrows
import Derived.Maps.AppendAt
import Derived.Laws.AppendOwnNone
import Derived.Laws.Rows
import Derived.Deep.DeepCutAuto
namespace Go.Proofs.Ytndhiaommphegaa
open Go.RowKit
set_option linter.unusedVariables false
theorem isLevel (v : Int) (w : World) : Calls Try.prog 39 #[iv v] w fun r w' => r = .returned (.bool (decide (0 ≤ v) && decide (v ≤ 7))) ∧ w' = w := by
  by_cases h : 0 ≤ v
  all_goals
    go_enter Try.func39, Try.ntmps39
    go_wp2_with fail
    go_ret
    exact ⟨by first | (simp [h]; done) | (simp; omega), rfl⟩
set_option maxRecDepth 100000 in
set_option maxHeartbeats 4000000 in
theorem implGoodIrq (w : World) (x : Pl.Iq) (a b e q : Option Addr) (ca cb ce cq : Nat) (ha : Came w a x.c.r.xs) (hb : Came w b x.c.r.ys) (he : Came w e x.c.bx) (hq : Came w q x.c.bl) (lx : x.c.r.xs.length ≤ 2000000) (ly : x.c.r.ys.length ≤ 2000000) (lb : x.c.bx.length ≤ 2000000) (ll : x.c.bl.length = 5 * x.c.bm) (lm : x.c.bm ≤ 2000000) (wf : Pl.WfR x.c.r) :
    Calls Try.prog 19 #[.agg (irA x a b e q ca cb ce cq)] w fun r w' => r = .returned (.bool (Pl.iqOk x)) ∧ Kept 0 0 w w' := by
  have K0 := hide (kept_alloc w (.cells (irA x a b e q ca cb ce cq) 38))
  have BA := hide (Blk.new w (irA x a b e q ca cb ce cq) 38)
  obtain ⟨X, hX⟩ : ∃ X : World, w.alloc (.cells (irA x a b e q ca cb ce cq) 38) = X := ⟨_, rfl⟩
  rw [hX] at K0 BA
  have HA := hide (ha.keptS K0.out)
  have HB := hide (hb.keptS K0.out)
  have HE := hide (he.keptS K0.out)
  have HQ := hide (hq.keptS K0.out)
  clear ha hb he hq
  have p := BA.out.all
  cases h1 : Pl.cpOk x.c
  all_goals
    have E : Hid (Pl.iqOk x = (Pl.cpOk x.c && (decide (0 ≤ x.l) && decide (x.l ≤ 7)))) := hide rfl
    rw [h1] at E
    go_enter Try.func19, Try.ntmps19
    go_wp2_with (first | (go_at_call 30; refine (implGoodCpu _ x.c a b e q ca cb ce cq HA.out HB.out HE.out HQ.out lx ly lb ll lm wf).mono ?_; rintro e9 W1 ⟨rfl, k9⟩; rw [h1]; have K1 := hide (K0.out.trans k9); have p1 := (BA.out.kept0 k9).all; clear k9) | (go_at_call 39; refine st (isLevel _ _) ?_))
    go_ret
    exact ⟨by rw [E.out]; simp, K1.out⟩
end Go.Proofs.Ytndhiaommphegaa

namespace Go.Proofs.Ytndhiaommphegaa
open Go.RowKit
set_option linter.unusedVariables false
theorem Blk.put8 {w : World} {b : Nat} {u0 u1 u2 u3 u4 u5 u6 u7 u8 u9 u10 u11 v0 v1 v2 v3 v4 v5 v6 v7 : Value} {ty : TypeId} (h : Blk w b #[u0, u1, u2, u3, u4, u5, u6, u7, u8, u9, u10, u11] ty) : Blk ((((((((w.setCell ⟨b, 0, none⟩ v0).setCell ⟨b, 1, none⟩ v1).setCell ⟨b, 2, none⟩ v2).setCell ⟨b, 3, none⟩ v3).setCell ⟨b, 4, none⟩ v4).setCell ⟨b, 5, none⟩ v5).setCell ⟨b, 6, none⟩ v6).setCell ⟨b, 7, none⟩ v7) b #[v0, v1, v2, v3, v4, v5, v6, v7, u8, u9, u10, u11] ty := by
  have h0 : Blk (w.setCell ⟨b, 0, none⟩ v0) b #[v0, u1, u2, u3, u4, u5, u6, u7, u8, u9, u10, u11] ty := h.set 0 v0
  have h1 : Blk ((w.setCell ⟨b, 0, none⟩ v0).setCell ⟨b, 1, none⟩ v1) b #[v0, v1, u2, u3, u4, u5, u6, u7, u8, u9, u10, u11] ty := h0.set 1 v1
  have h2 : Blk (((w.setCell ⟨b, 0, none⟩ v0).setCell ⟨b, 1, none⟩ v1).setCell ⟨b, 2, none⟩ v2) b #[v0, v1, v2, u3, u4, u5, u6, u7, u8, u9, u10, u11] ty := h1.set 2 v2
  have h3 : Blk ((((w.setCell ⟨b, 0, none⟩ v0).setCell ⟨b, 1, none⟩ v1).setCell ⟨b, 2, none⟩ v2).setCell ⟨b, 3, none⟩ v3) b #[v0, v1, v2, v3, u4, u5, u6, u7, u8, u9, u10, u11] ty := h2.set 3 v3
  have h4 : Blk (((((w.setCell ⟨b, 0, none⟩ v0).setCell ⟨b, 1, none⟩ v1).setCell ⟨b, 2, none⟩ v2).setCell ⟨b, 3, none⟩ v3).setCell ⟨b, 4, none⟩ v4) b #[v0, v1, v2, v3, v4, u5, u6, u7, u8, u9, u10, u11] ty := h3.set 4 v4
  have h5 : Blk ((((((w.setCell ⟨b, 0, none⟩ v0).setCell ⟨b, 1, none⟩ v1).setCell ⟨b, 2, none⟩ v2).setCell ⟨b, 3, none⟩ v3).setCell ⟨b, 4, none⟩ v4).setCell ⟨b, 5, none⟩ v5) b #[v0, v1, v2, v3, v4, v5, u6, u7, u8, u9, u10, u11] ty := h4.set 5 v5
  have h6 : Blk (((((((w.setCell ⟨b, 0, none⟩ v0).setCell ⟨b, 1, none⟩ v1).setCell ⟨b, 2, none⟩ v2).setCell ⟨b, 3, none⟩ v3).setCell ⟨b, 4, none⟩ v4).setCell ⟨b, 5, none⟩ v5).setCell ⟨b, 6, none⟩ v6) b #[v0, v1, v2, v3, v4, v5, v6, u7, u8, u9, u10, u11] ty := h5.set 6 v6
  have h7 : Blk ((((((((w.setCell ⟨b, 0, none⟩ v0).setCell ⟨b, 1, none⟩ v1).setCell ⟨b, 2, none⟩ v2).setCell ⟨b, 3, none⟩ v3).setCell ⟨b, 4, none⟩ v4).setCell ⟨b, 5, none⟩ v5).setCell ⟨b, 6, none⟩ v6).setCell ⟨b, 7, none⟩ v7) b #[v0, v1, v2, v3, v4, v5, v6, v7, u8, u9, u10, u11] ty := h6.set 7 v7
  exact h7
theorem Blk.put4 {w : World} {b : Nat} {u0 u1 u2 u3 u4 u5 u6 u7 u8 u9 u10 u11 v8 v9 v10 v11 : Value} {ty : TypeId} (h : Blk w b #[u0, u1, u2, u3, u4, u5, u6, u7, u8, u9, u10, u11] ty) : Blk ((((w.setCell ⟨b, 8, none⟩ v8).setCell ⟨b, 9, none⟩ v9).setCell ⟨b, 10, none⟩ v10).setCell ⟨b, 11, none⟩ v11) b #[u0, u1, u2, u3, u4, u5, u6, u7, v8, v9, v10, v11] ty := by
  have h0 : Blk (w.setCell ⟨b, 8, none⟩ v8) b #[u0, u1, u2, u3, u4, u5, u6, u7, v8, u9, u10, u11] ty := h.set 8 v8
  have h1 : Blk ((w.setCell ⟨b, 8, none⟩ v8).setCell ⟨b, 9, none⟩ v9) b #[u0, u1, u2, u3, u4, u5, u6, u7, v8, v9, u10, u11] ty := h0.set 9 v9
  have h2 : Blk (((w.setCell ⟨b, 8, none⟩ v8).setCell ⟨b, 9, none⟩ v9).setCell ⟨b, 10, none⟩ v10) b #[u0, u1, u2, u3, u4, u5, u6, u7, v8, v9, v10, u11] ty := h1.set 10 v10
  have h3 : Blk ((((w.setCell ⟨b, 8, none⟩ v8).setCell ⟨b, 9, none⟩ v9).setCell ⟨b, 10, none⟩ v10).setCell ⟨b, 11, none⟩ v11) b #[u0, u1, u2, u3, u4, u5, u6, u7, v8, v9, v10, v11] ty := h2.set 11 v11
  exact h3
set_option maxRecDepth 100000 in
set_option maxHeartbeats 8000000 in
theorem toCpu (w : World) (c : Pl.Cp) (a b e q : Option Addr) (ca cb ce cq : Nat) (ha : IRow w a c.r.xs) (hb : IRow w b c.r.ys) (he : IRow w e c.bx) (hq : IRow w q c.bl) (lx : c.r.xs.length ≤ 2000000) (ly : c.r.ys.length ≤ 2000000) (lb : c.bx.length ≤ 2000000) (ll : c.bl.length = 5 * c.bm) (lm : c.bm ≤ 2000000) :
    Calls Try.prog 9 #[.agg (cpA c a b e q ca cb ce cq)] w fun r w' => ∃ g1 g2 g3 g4 : Nat, r = .returned (.agg (cpA c (some ⟨g1, 0, none⟩) (some ⟨g2, 0, none⟩) (some ⟨g3, 0, none⟩) (some ⟨g4, 0, none⟩) c.r.xs.length c.r.ys.length c.bx.length c.bm)) ∧ CpSl w' w.heap.size w'.heap.size c (some ⟨g1, 0, none⟩) (some ⟨g2, 0, none⟩) (some ⟨g3, 0, none⟩) (some ⟨g4, 0, none⟩) ∧ Kept 0 0 w w' := by
  have k0 : Kept 0 0 w (((w.alloc (.cells (cpA c a b e q ca cb ce cq) 29)).alloc (.cells cpZ 36)).alloc (.cells cpZ 36)) := kept_new (kept_new (kept_alloc _ _) _) _
  have BA := ((Blk.new w (cpA c a b e q ca cb ce cq) 29).alloc (.cells cpZ 36)).alloc (.cells cpZ 36)
  have BR := (Blk.new (w.alloc (.cells (cpA c a b e q ca cb ce cq) 29)) cpZ 36).alloc (.cells cpZ 36)
  have BO := Blk.new ((w.alloc (.cells (cpA c a b e q ca cb ce cq) 29)).alloc (.cells cpZ 36)) cpZ 36
  simp only [World.size_alloc] at BR BO
  obtain ⟨X, hX⟩ : ∃ X : World, (((w.alloc (.cells (cpA c a b e q ca cb ce cq) 29)).alloc (.cells cpZ 36)).alloc (.cells cpZ 36)) = X := ⟨_, rfl⟩
  rw [hX] at k0 BA BR BO
  have n0 := BO.lt
  have K0 := hide k0
  have HBA := hide BA
  have HBR := hide BR
  have HBO := hide BO
  have HA := hide (ha.keptS k0)
  have HB := hide (hb.keptS k0)
  have HE := hide he
  have HQ := hide hq
  have HL := hide ll
  have i0 := BA.all
  clear k0 BA BR BO ha hb he hq ll
  go_enter Try.func9, Try.ntmps9
  go_wp2_with fail
  refine (toRegs _ c.r.o c.r.p c.r.f c.r.m c.r.s c.r.t a b ca cb c.r.xs c.r.ys HA.out HB.out lx ly).mono ?_
  rintro e9 w1 ⟨g1, g2, rfl, o1, o2, l1, l2, l3, k⟩
  have HA1 := hide (HBA.out.kept0 k)
  have HR1 := hide (HBR.out.kept0 k)
  have HO1 := hide (HBO.out.kept0 k)
  have K1 := hide (K0.out.trans k)
  have k1s := k.size
  have OW1 := hide o1
  have OW2 := hide o2
  clear k o1 o2 i0
  have o0 := HO1.out.cell (i := 0) rfl
  have o1 := HO1.out.cell (i := 1) rfl
  have o2 := HO1.out.cell (i := 2) rfl
  have o3 := HO1.out.cell (i := 3) rfl
  have o4 := HO1.out.cell (i := 4) rfl
  have o5 := HO1.out.cell (i := 5) rfl
  have o6 := HO1.out.cell (i := 6) rfl
  have o7 := HO1.out.cell (i := 7) rfl
  have of0 := HO1.out.fz
  have K2 : Kept 0 0 w ((((((((w1.setCell ⟨w.heap.size + 2, 0, none⟩ (.slice (some ⟨g1, 0, none⟩) c.r.xs.length c.r.xs.length)).setCell ⟨w.heap.size + 2, 1, none⟩ (.slice (some ⟨g2, 0, none⟩) c.r.ys.length c.r.ys.length)).setCell ⟨w.heap.size + 2, 2, none⟩ (iv c.r.o)).setCell ⟨w.heap.size + 2, 3, none⟩ (iv c.r.p)).setCell ⟨w.heap.size + 2, 4, none⟩ (iv c.r.f)).setCell ⟨w.heap.size + 2, 5, none⟩ (iv c.r.m)).setCell ⟨w.heap.size + 2, 6, none⟩ (.bool c.r.s)).setCell ⟨w.heap.size + 2, 7, none⟩ (.bool c.r.t)) := (kept_set (kept_set (kept_set (kept_set (kept_set (kept_set (kept_set (kept_set K1.out _ _ _ (.inr (by omega))) _ _ _ (.inr (by omega))) _ _ _ (.inr (by omega))) _ _ _ (.inr (by omega))) _ _ _ (.inr (by omega))) _ _ _ (.inr (by omega))) _ _ _ (.inr (by omega))) _ _ _ (.inr (by omega)))
  have HO2 : Blk ((((((((w1.setCell ⟨w.heap.size + 2, 0, none⟩ (.slice (some ⟨g1, 0, none⟩) c.r.xs.length c.r.xs.length)).setCell ⟨w.heap.size + 2, 1, none⟩ (.slice (some ⟨g2, 0, none⟩) c.r.ys.length c.r.ys.length)).setCell ⟨w.heap.size + 2, 2, none⟩ (iv c.r.o)).setCell ⟨w.heap.size + 2, 3, none⟩ (iv c.r.p)).setCell ⟨w.heap.size + 2, 4, none⟩ (iv c.r.f)).setCell ⟨w.heap.size + 2, 5, none⟩ (iv c.r.m)).setCell ⟨w.heap.size + 2, 6, none⟩ (.bool c.r.s)).setCell ⟨w.heap.size + 2, 7, none⟩ (.bool c.r.t)) (w.heap.size + 2) #[.slice (some ⟨g1, 0, none⟩) c.r.xs.length c.r.xs.length, .slice (some ⟨g2, 0, none⟩) c.r.ys.length c.r.ys.length, iv c.r.o, iv c.r.p, iv c.r.f, iv c.r.m, .bool c.r.s, .bool c.r.t, .slice none 0 0, .slice none 0 0, .bool false, .bool false] 36 := Blk.put8 HO1.out
  have HA2 : Blk ((((((((w1.setCell ⟨w.heap.size + 2, 0, none⟩ (.slice (some ⟨g1, 0, none⟩) c.r.xs.length c.r.xs.length)).setCell ⟨w.heap.size + 2, 1, none⟩ (.slice (some ⟨g2, 0, none⟩) c.r.ys.length c.r.ys.length)).setCell ⟨w.heap.size + 2, 2, none⟩ (iv c.r.o)).setCell ⟨w.heap.size + 2, 3, none⟩ (iv c.r.p)).setCell ⟨w.heap.size + 2, 4, none⟩ (iv c.r.f)).setCell ⟨w.heap.size + 2, 5, none⟩ (iv c.r.m)).setCell ⟨w.heap.size + 2, 6, none⟩ (.bool c.r.s)).setCell ⟨w.heap.size + 2, 7, none⟩ (.bool c.r.t)) w.heap.size (cpA c a b e q ca cb ce cq) 29 := ((((((((HA1.out.other _ _ _ (by omega)).other _ _ _ (by omega)).other _ _ _ (by omega)).other _ _ _ (by omega)).other _ _ _ (by omega)).other _ _ _ (by omega)).other _ _ _ (by omega)).other _ _ _ (by omega))
  have HR2 : Blk ((((((((w1.setCell ⟨w.heap.size + 2, 0, none⟩ (.slice (some ⟨g1, 0, none⟩) c.r.xs.length c.r.xs.length)).setCell ⟨w.heap.size + 2, 1, none⟩ (.slice (some ⟨g2, 0, none⟩) c.r.ys.length c.r.ys.length)).setCell ⟨w.heap.size + 2, 2, none⟩ (iv c.r.o)).setCell ⟨w.heap.size + 2, 3, none⟩ (iv c.r.p)).setCell ⟨w.heap.size + 2, 4, none⟩ (iv c.r.f)).setCell ⟨w.heap.size + 2, 5, none⟩ (iv c.r.m)).setCell ⟨w.heap.size + 2, 6, none⟩ (.bool c.r.s)).setCell ⟨w.heap.size + 2, 7, none⟩ (.bool c.r.t)) (w.heap.size + 1) cpZ 36 := ((((((((HR1.out.other _ _ _ (by omega)).other _ _ _ (by omega)).other _ _ _ (by omega)).other _ _ _ (by omega)).other _ _ _ (by omega)).other _ _ _ (by omega)).other _ _ _ (by omega)).other _ _ _ (by omega))
  have P1 : Own ((((((((w1.setCell ⟨w.heap.size + 2, 0, none⟩ (.slice (some ⟨g1, 0, none⟩) c.r.xs.length c.r.xs.length)).setCell ⟨w.heap.size + 2, 1, none⟩ (.slice (some ⟨g2, 0, none⟩) c.r.ys.length c.r.ys.length)).setCell ⟨w.heap.size + 2, 2, none⟩ (iv c.r.o)).setCell ⟨w.heap.size + 2, 3, none⟩ (iv c.r.p)).setCell ⟨w.heap.size + 2, 4, none⟩ (iv c.r.f)).setCell ⟨w.heap.size + 2, 5, none⟩ (iv c.r.m)).setCell ⟨w.heap.size + 2, 6, none⟩ (.bool c.r.s)).setCell ⟨w.heap.size + 2, 7, none⟩ (.bool c.r.t)) g1 c.r.xs := ((((((((OW1.out.setOther _ _ _ (by omega)).setOther _ _ _ (by omega)).setOther _ _ _ (by omega)).setOther _ _ _ (by omega)).setOther _ _ _ (by omega)).setOther _ _ _ (by omega)).setOther _ _ _ (by omega)).setOther _ _ _ (by omega))
  have P2 : Own ((((((((w1.setCell ⟨w.heap.size + 2, 0, none⟩ (.slice (some ⟨g1, 0, none⟩) c.r.xs.length c.r.xs.length)).setCell ⟨w.heap.size + 2, 1, none⟩ (.slice (some ⟨g2, 0, none⟩) c.r.ys.length c.r.ys.length)).setCell ⟨w.heap.size + 2, 2, none⟩ (iv c.r.o)).setCell ⟨w.heap.size + 2, 3, none⟩ (iv c.r.p)).setCell ⟨w.heap.size + 2, 4, none⟩ (iv c.r.f)).setCell ⟨w.heap.size + 2, 5, none⟩ (iv c.r.m)).setCell ⟨w.heap.size + 2, 6, none⟩ (.bool c.r.s)).setCell ⟨w.heap.size + 2, 7, none⟩ (.bool c.r.t)) g2 c.r.ys := ((((((((OW2.out.setOther _ _ _ (by omega)).setOther _ _ _ (by omega)).setOther _ _ _ (by omega)).setOther _ _ _ (by omega)).setOther _ _ _ (by omega)).setOther _ _ _ (by omega)).setOther _ _ _ (by omega)).setOther _ _ _ (by omega))
  have szY : ((((((((w1.setCell ⟨w.heap.size + 2, 0, none⟩ (.slice (some ⟨g1, 0, none⟩) c.r.xs.length c.r.xs.length)).setCell ⟨w.heap.size + 2, 1, none⟩ (.slice (some ⟨g2, 0, none⟩) c.r.ys.length c.r.ys.length)).setCell ⟨w.heap.size + 2, 2, none⟩ (iv c.r.o)).setCell ⟨w.heap.size + 2, 3, none⟩ (iv c.r.p)).setCell ⟨w.heap.size + 2, 4, none⟩ (iv c.r.f)).setCell ⟨w.heap.size + 2, 5, none⟩ (iv c.r.m)).setCell ⟨w.heap.size + 2, 6, none⟩ (.bool c.r.s)).setCell ⟨w.heap.size + 2, 7, none⟩ (.bool c.r.t)).heap.size = w1.heap.size := by simp [World.setCell]
  obtain ⟨Y, hY⟩ : ∃ Y : World, ((((((((w1.setCell ⟨w.heap.size + 2, 0, none⟩ (.slice (some ⟨g1, 0, none⟩) c.r.xs.length c.r.xs.length)).setCell ⟨w.heap.size + 2, 1, none⟩ (.slice (some ⟨g2, 0, none⟩) c.r.ys.length c.r.ys.length)).setCell ⟨w.heap.size + 2, 2, none⟩ (iv c.r.o)).setCell ⟨w.heap.size + 2, 3, none⟩ (iv c.r.p)).setCell ⟨w.heap.size + 2, 4, none⟩ (iv c.r.f)).setCell ⟨w.heap.size + 2, 5, none⟩ (iv c.r.m)).setCell ⟨w.heap.size + 2, 6, none⟩ (.bool c.r.s)).setCell ⟨w.heap.size + 2, 7, none⟩ (.bool c.r.t)) = Y := ⟨_, rfl⟩
  rw [hY] at K2 HO2 HA2 HR2 P1 P2 szY
  replace K2 := hide K2
  replace HO2 := hide HO2
  replace HA2 := hide HA2
  replace HR2 := hide HR2
  replace P1 := hide P1
  replace P2 := hide P2
  have i8 := HA2.out.cell (i := 8) rfl
  have i9 := HA2.out.cell (i := 9) rfl
  go_wp2_with fail
  clear hX hY o0 of0 o1 o2 o3 o4 o5 o6 o7
  refine (toBus _ e q ce cq c.bm c.bx c.bl (HE.out.keptS K2.out) (HQ.out.keptS K2.out) lb HL.out lm).mono ?_
  rintro e9 w2 ⟨g3, g4, rfl, o3, o4, l4, l5, l6, k⟩
  have EA := hide (HA2.out.kept0 k)
  have ER := hide (HR2.out.kept0 k)
  have EO := hide (HO2.out.kept0 k)
  have K3 := hide (K2.out.trans k)
  have k3s := k.size
  have P3 := hide (P1.out.keptS k (by omega))
  have P4 := hide (P2.out.keptS k (by omega))
  have P5 := hide o3
  have P6 := hide o4
  clear k o3 o4
  have o8 := EO.out.all
  have of8 := EO.out.fz
  have i10 := EA.out.cell (i := 10) rfl
  have i11 := EA.out.cell (i := 11) rfl
  have K4 : Kept 0 0 w ((((w2.setCell ⟨w.heap.size + 2, 8, none⟩ (.slice (some ⟨g3, 0, none⟩) c.bx.length c.bx.length)).setCell ⟨w.heap.size + 2, 9, none⟩ (.slice (some ⟨g4, 0, none⟩) c.bm c.bm)).setCell ⟨w.heap.size + 2, 10, none⟩ (.bool c.st)).setCell ⟨w.heap.size + 2, 11, none⟩ (.bool c.ha)) := (kept_set (kept_set (kept_set (kept_set K3.out _ _ _ (.inr (by omega))) _ _ _ (.inr (by omega))) _ _ _ (.inr (by omega))) _ _ _ (.inr (by omega)))
  have FO : Blk ((((w2.setCell ⟨w.heap.size + 2, 8, none⟩ (.slice (some ⟨g3, 0, none⟩) c.bx.length c.bx.length)).setCell ⟨w.heap.size + 2, 9, none⟩ (.slice (some ⟨g4, 0, none⟩) c.bm c.bm)).setCell ⟨w.heap.size + 2, 10, none⟩ (.bool c.st)).setCell ⟨w.heap.size + 2, 11, none⟩ (.bool c.ha)) (w.heap.size + 2) (cpA c (some ⟨g1, 0, none⟩) (some ⟨g2, 0, none⟩) (some ⟨g3, 0, none⟩) (some ⟨g4, 0, none⟩) c.r.xs.length c.r.ys.length c.bx.length c.bm) 36 := Blk.put4 EO.out
  have FR : Blk ((((w2.setCell ⟨w.heap.size + 2, 8, none⟩ (.slice (some ⟨g3, 0, none⟩) c.bx.length c.bx.length)).setCell ⟨w.heap.size + 2, 9, none⟩ (.slice (some ⟨g4, 0, none⟩) c.bm c.bm)).setCell ⟨w.heap.size + 2, 10, none⟩ (.bool c.st)).setCell ⟨w.heap.size + 2, 11, none⟩ (.bool c.ha)) (w.heap.size + 1) cpZ 36 := ((((ER.out.other _ _ _ (by omega)).other _ _ _ (by omega)).other _ _ _ (by omega)).other _ _ _ (by omega))
  have Q1 : Own ((((w2.setCell ⟨w.heap.size + 2, 8, none⟩ (.slice (some ⟨g3, 0, none⟩) c.bx.length c.bx.length)).setCell ⟨w.heap.size + 2, 9, none⟩ (.slice (some ⟨g4, 0, none⟩) c.bm c.bm)).setCell ⟨w.heap.size + 2, 10, none⟩ (.bool c.st)).setCell ⟨w.heap.size + 2, 11, none⟩ (.bool c.ha)) g1 c.r.xs := ((((P3.out.setOther _ _ _ (by omega)).setOther _ _ _ (by omega)).setOther _ _ _ (by omega)).setOther _ _ _ (by omega))
  have Q2 : Own ((((w2.setCell ⟨w.heap.size + 2, 8, none⟩ (.slice (some ⟨g3, 0, none⟩) c.bx.length c.bx.length)).setCell ⟨w.heap.size + 2, 9, none⟩ (.slice (some ⟨g4, 0, none⟩) c.bm c.bm)).setCell ⟨w.heap.size + 2, 10, none⟩ (.bool c.st)).setCell ⟨w.heap.size + 2, 11, none⟩ (.bool c.ha)) g2 c.r.ys := ((((P4.out.setOther _ _ _ (by omega)).setOther _ _ _ (by omega)).setOther _ _ _ (by omega)).setOther _ _ _ (by omega))
  have Q3 : Own ((((w2.setCell ⟨w.heap.size + 2, 8, none⟩ (.slice (some ⟨g3, 0, none⟩) c.bx.length c.bx.length)).setCell ⟨w.heap.size + 2, 9, none⟩ (.slice (some ⟨g4, 0, none⟩) c.bm c.bm)).setCell ⟨w.heap.size + 2, 10, none⟩ (.bool c.st)).setCell ⟨w.heap.size + 2, 11, none⟩ (.bool c.ha)) g3 c.bx := ((((P5.out.setOther _ _ _ (by omega)).setOther _ _ _ (by omega)).setOther _ _ _ (by omega)).setOther _ _ _ (by omega))
  have Q4 : Own ((((w2.setCell ⟨w.heap.size + 2, 8, none⟩ (.slice (some ⟨g3, 0, none⟩) c.bx.length c.bx.length)).setCell ⟨w.heap.size + 2, 9, none⟩ (.slice (some ⟨g4, 0, none⟩) c.bm c.bm)).setCell ⟨w.heap.size + 2, 10, none⟩ (.bool c.st)).setCell ⟨w.heap.size + 2, 11, none⟩ (.bool c.ha)) g4 c.bl := ((((P6.out.setOther _ _ _ (by omega)).setOther _ _ _ (by omega)).setOther _ _ _ (by omega)).setOther _ _ _ (by omega))
  have szV : ((((w2.setCell ⟨w.heap.size + 2, 8, none⟩ (.slice (some ⟨g3, 0, none⟩) c.bx.length c.bx.length)).setCell ⟨w.heap.size + 2, 9, none⟩ (.slice (some ⟨g4, 0, none⟩) c.bm c.bm)).setCell ⟨w.heap.size + 2, 10, none⟩ (.bool c.st)).setCell ⟨w.heap.size + 2, 11, none⟩ (.bool c.ha)).heap.size = w2.heap.size := by simp [World.setCell]
  obtain ⟨V, hV⟩ : ∃ V : World, ((((w2.setCell ⟨w.heap.size + 2, 8, none⟩ (.slice (some ⟨g3, 0, none⟩) c.bx.length c.bx.length)).setCell ⟨w.heap.size + 2, 9, none⟩ (.slice (some ⟨g4, 0, none⟩) c.bm c.bm)).setCell ⟨w.heap.size + 2, 10, none⟩ (.bool c.st)).setCell ⟨w.heap.size + 2, 11, none⟩ (.bool c.ha)) = V := ⟨_, rfl⟩
  rw [hV] at K4 FO FR Q1 Q2 Q3 Q4 szV
  replace K4 := hide K4
  replace FO := hide FO
  replace FR := hide FR
  replace Q1 := hide Q1
  replace Q2 := hide Q2
  replace Q3 := hide Q3
  replace Q4 := hide Q4
  have m0 := FO.out.all
  have r0 := FR.out.all
  have rf0 := FR.out.fz
  go_wp2_with fail
  clear hV
  have FF : Blk ((((((((((((V.setCell ⟨w.heap.size + 1, 0, none⟩ (.slice (some ⟨g1, 0, none⟩) c.r.xs.length c.r.xs.length)).setCell ⟨w.heap.size + 1, 1, none⟩ (.slice (some ⟨g2, 0, none⟩) c.r.ys.length c.r.ys.length)).setCell ⟨w.heap.size + 1, 2, none⟩ (iv c.r.o)).setCell ⟨w.heap.size + 1, 3, none⟩ (iv c.r.p)).setCell ⟨w.heap.size + 1, 4, none⟩ (iv c.r.f)).setCell ⟨w.heap.size + 1, 5, none⟩ (iv c.r.m)).setCell ⟨w.heap.size + 1, 6, none⟩ (.bool c.r.s)).setCell ⟨w.heap.size + 1, 7, none⟩ (.bool c.r.t)).setCell ⟨w.heap.size + 1, 8, none⟩ (.slice (some ⟨g3, 0, none⟩) c.bx.length c.bx.length)).setCell ⟨w.heap.size + 1, 9, none⟩ (.slice (some ⟨g4, 0, none⟩) c.bm c.bm)).setCell ⟨w.heap.size + 1, 10, none⟩ (.bool c.st)).setCell ⟨w.heap.size + 1, 11, none⟩ (.bool c.ha)) (w.heap.size + 1) (cpA c (some ⟨g1, 0, none⟩) (some ⟨g2, 0, none⟩) (some ⟨g3, 0, none⟩) (some ⟨g4, 0, none⟩) c.r.xs.length c.r.ys.length c.bx.length c.bm) 36 := Blk.put4 (Blk.put8 FR.out)
  refine bodyPost_ret (v := .agg (cpA c (some ⟨g1, 0, none⟩) (some ⟨g2, 0, none⟩) (some ⟨g3, 0, none⟩) (some ⟨g4, 0, none⟩) c.r.xs.length c.r.ys.length c.bx.length c.bm)) ?_ rfl ⟨g1, g2, g3, g4, rfl, ⟨.inr ⟨g1, rfl, by omega, ?_, ?_⟩, .inr ⟨g2, rfl, by omega, ?_, ?_⟩, .inr ⟨g3, rfl, by omega, ?_, ?_⟩, .inr ⟨g4, rfl, by omega, ?_, ?_⟩, ?_, ?_, ?_, ?_, ?_, ?_⟩, ?_⟩
  · exact results_cell_row rfl _ _ _ _ _ (0, 0) _ rfl FF Try.underlying36 rfl (by kernel_rfl)
  · simp [World.setCell]; omega
  · exact ((((((((((((Q1.out.setOther _ _ _ (by omega)).setOther _ _ _ (by omega)).setOther _ _ _ (by omega)).setOther _ _ _ (by omega)).setOther _ _ _ (by omega)).setOther _ _ _ (by omega)).setOther _ _ _ (by omega)).setOther _ _ _ (by omega)).setOther _ _ _ (by omega)).setOther _ _ _ (by omega)).setOther _ _ _ (by omega)).setOther _ _ _ (by omega))
  · simp [World.setCell]; omega
  · exact ((((((((((((Q2.out.setOther _ _ _ (by omega)).setOther _ _ _ (by omega)).setOther _ _ _ (by omega)).setOther _ _ _ (by omega)).setOther _ _ _ (by omega)).setOther _ _ _ (by omega)).setOther _ _ _ (by omega)).setOther _ _ _ (by omega)).setOther _ _ _ (by omega)).setOther _ _ _ (by omega)).setOther _ _ _ (by omega)).setOther _ _ _ (by omega))
  · simp [World.setCell]; omega
  · exact ((((((((((((Q3.out.setOther _ _ _ (by omega)).setOther _ _ _ (by omega)).setOther _ _ _ (by omega)).setOther _ _ _ (by omega)).setOther _ _ _ (by omega)).setOther _ _ _ (by omega)).setOther _ _ _ (by omega)).setOther _ _ _ (by omega)).setOther _ _ _ (by omega)).setOther _ _ _ (by omega)).setOther _ _ _ (by omega)).setOther _ _ _ (by omega))
  · simp [World.setCell]; omega
  · exact ((((((((((((Q4.out.setOther _ _ _ (by omega)).setOther _ _ _ (by omega)).setOther _ _ _ (by omega)).setOther _ _ _ (by omega)).setOther _ _ _ (by omega)).setOther _ _ _ (by omega)).setOther _ _ _ (by omega)).setOther _ _ _ (by omega)).setOther _ _ _ (by omega)).setOther _ _ _ (by omega)).setOther _ _ _ (by omega)).setOther _ _ _ (by omega))
  · intro g h1 h2; simp [blk] at h1 h2; omega
  · intro g h1 h2; simp [blk] at h1 h2; omega
  · intro g h1 h2; simp [blk] at h1 h2; omega
  · intro g h1 h2; simp [blk] at h1 h2; omega
  · intro g h1 h2; simp [blk] at h1 h2; omega
  · intro g h1 h2; simp [blk] at h1 h2; omega
  · exact (kept_set (kept_set (kept_set (kept_set (kept_set (kept_set (kept_set (kept_set (kept_set (kept_set (kept_set (kept_set K4.out _ _ _ (.inr (by omega))) _ _ _ (.inr (by omega))) _ _ _ (.inr (by omega))) _ _ _ (.inr (by omega))) _ _ _ (.inr (by omega))) _ _ _ (.inr (by omega))) _ _ _ (.inr (by omega))) _ _ _ (.inr (by omega))) _ _ _ (.inr (by omega))) _ _ _ (.inr (by omega))) _ _ _ (.inr (by omega))) _ _ _ (.inr (by omega)))
end Go.Proofs.Ytndhiaommphegaa

