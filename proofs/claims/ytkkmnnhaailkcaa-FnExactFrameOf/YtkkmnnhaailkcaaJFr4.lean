/- What the program's GoodBus answers, for every bus. What the program's GoodCpu answers, for every processor. What the program's InfoOf, FrameOf, VectorAt answer. The law on FrameOf: of whatever arguments, its Go function returns true, and no block that was there has turned. A processor that came in to a law, opened: four lists that lie in memory, the accesses spoken of as the row of their numbers. A fault that came in to a law, opened. -/
import Derived.Test.YtkkmnnhaailkcaaJFr3
import Derived.Test.YtkkmnnhaailkcaaJFr2
import Derived.Test.YtkkmnnhaailkcaaJFr1
import Derived.DeepKeys
import Derived.Laws.CopyOwn
import Derived.Deep.WholeRow
import Derived.Deep.RegionLawGrows
import Derived.Maps.AppendAt
import Derived.Laws.AppendOwnNone
import Derived.Deep.DeepCutAuto
import Derived.Lib.SmallJoins
import Derived.Deep.Slices
import Derived.ProofKit
import Derived.OpenShut
namespace Go.Proofs.Ytkkmnnhaailkcaa
open Go.RowKit
set_option linter.unusedVariables false

theorem Wide.at5 {ys : List Int} (h : Wide ys) {m k : Nat} (hl : ys.length = 5 * m) (hk : k < m) : -9223372036854775808 ≤ el ys (k * 5 + 3) ∧ el ys (k * 5 + 3) ≤ 9223372036854775807 := h (k * 5 + 3) (by omega)

theorem goodBus (w : World) (a b : Option Addr) (ca cb m : Nat) (xs ys : List Int) (ha : Came w a xs) (hb : Came w b ys) (lx : xs.length ≤ 2000000) (ly : ys.length = 5 * m) (bm : m ≤ 2000000) :
    Calls Try.prog 57 #[.agg #[.slice a xs.length ca, .slice b m cb]] w fun e w' => e = .returned (.bool (Pl.goodBus xs ys m)) ∧ Kept 0 0 w w' := by
  have HA := hide ha
  have HB := hide hb
  have HY := hide ly
  have HK0 := hide (kept_alloc w (.cells #[.slice a xs.length ca, .slice b m cb] 42))
  clear ha hb ly
  cases h1 : ((xs.length : Int) != 512)
  · have hl5 : xs.length = 512 := by simp at h1; omega
    have G : Hid (Pl.goodBus xs ys m = (Pl.accsOk ys m && (Pl.bytesOk xs && decide (m ≤ 400)))) := hide (by
      unfold Pl.goodBus
      rw [show decide (xs.length = 512) = true from by simp [hl5], Bool.true_and])
    clear hl5
    cases h2 : Pl.bytesOk xs
    · go_enter Try.func57, Try.ntmps57
      go_wp2_with (go_at_call 79; refine (areBytes _ a ca xs (HA.out.keptS HK0.out) lx).mono ?_; rintro e w' ⟨rfl, rfl⟩; rw [h2])
      go_ret
      exact ⟨rB (by rw [G.out, h2, Bool.false_and, Bool.and_false]), HK0.out⟩
    · cases h3 : decide ((400 : Int) < (m : Int))
      · go_enter Try.func57, Try.ntmps57
        go_wp2_with (first | (go_at_call 79; refine (areBytes _ a ca xs (HA.out.keptS HK0.out) lx).mono ?_; rintro e w' ⟨rfl, rfl⟩; rw [h2]) | fail)
        obtain ⟨W, hW⟩ : ∃ W : World, W = w.alloc (.cells #[.slice a xs.length ca, .slice b m cb] 42) := ⟨_, rfl⟩
        rw [← hW] at HK0 ⊢
        clear hW
        go_loopw [4, 24] (fun _ j wr => ∃ k : Nat, k ≤ m ∧ j = iv k ∧ (∀ i, i < k → Pl.accAt ys i = true) ∧ Kept 0 0 W wr) (fun _ j _ => m - (intOf j).toNat)
        case atStart => exact ⟨0, Nat.zero_le _, rfl, fun i hi => absurd hi (Nat.not_lt_zero i), Kept.refl _ _ _⟩
        case round =>
          obtain ⟨k, hk, rfl, heq, hkept⟩ := hrel
          have HE := hide heq
          have HK := hide hkept
          clear heq hkept
          by_cases hlt : k < m
          · obtain ⟨lo, hi⟩ := HB.out.2.at5 HY.out hlt
            obtain ⟨g1, o1, rfl, p0, p1, p2, p3, p4⟩ := ((HB.out.keptS (HK0.out.trans HK.out)).1).five HY.out hlt
            cases hb : Pl.accAt ys k
            · have hb2 : Pl.accOk (el ys (k * 5)) (el ys (k * 5 + 1)) (el ys (k * 5 + 2)) (el ys (k * 5 + 3)) (el ys (k * 5 + 4)) = false := hb
              clear hb
              go_wp2_with (go_at_call 80; refine (isLogged _ _ _ _ _ _ lo hi).mono ?_; rintro e w' ⟨rfl, o, p, rfl⟩; rw [hb2])
              go_ret
              exact ⟨rB (by unfold Pl.goodBus; rw [Pl.accsOk_no hlt hb2]; rfl), HK0.out.trans (kept_new (kept_new (kept_new HK.out _) _) _)⟩
            · have hb2 : Pl.accOk (el ys (k * 5)) (el ys (k * 5 + 1)) (el ys (k * 5 + 2)) (el ys (k * 5 + 3)) (el ys (k * 5 + 4)) = true := hb
              clear hb
              go_wp2_with (go_at_call 80; refine (isLogged _ _ _ _ _ _ lo hi).mono ?_; rintro e w' ⟨rfl, o, p, rfl⟩; rw [hb2])
              go_roundw
              case rel => exact ⟨k + 1, by omega, by go_num, snoc_all HE.out hb2, kept_new (kept_new (kept_new HK.out _) _) _⟩
              case measure => simp [intOf]; omega
          · have HA1 : Hid (Pl.accsOk ys m = true) := hide (Pl.accsOk_of (fun i hi => HE.out i (by omega)))
            go_wp2_with fail
            go_ret
            refine ⟨rB ?_, HK0.out.trans HK.out⟩
            rw [G.out, HA1.out, h2]
            simp at h3
            simp; omega
      · go_enter Try.func57, Try.ntmps57
        go_wp2_with (go_at_call 79; refine (areBytes _ a ca xs (HA.out.keptS HK0.out) lx).mono ?_; rintro e w' ⟨rfl, rfl⟩; rw [h2])
        go_ret
        refine ⟨rB ?_, HK0.out⟩
        rw [G.out]
        simp at h3
        rw [show decide (m ≤ 400) = false from by simp; omega]
        simp
  · have hl5 : Hid (¬ xs.length = 512) := hide (by simp at h1; omega)
    go_enter Try.func57, Try.ntmps57
    go_wp2_with (go_at_call 79; fail)
    go_ret
    refine ⟨rB ?_, HK0.out⟩
    unfold Pl.goodBus
    rw [show decide (xs.length = 512) = false from by simp [hl5.out]]
    simp
end Go.Proofs.Ytkkmnnhaailkcaa

namespace Go.Proofs.Ytkkmnnhaailkcaa
open Go.RowKit
set_option linter.unusedVariables false
set_option maxHeartbeats 1000000 in
theorem implGoodCpu (w : World) (c : Pl.Cp) (a b e q : Option Addr) (ca cb ce cq : Nat) (ha : Came w a c.r.xs) (hb : Came w b c.r.ys) (he : Came w e c.bx) (hq : Came w q c.bl) (lx : c.r.xs.length ≤ 2000000) (ly : c.r.ys.length ≤ 2000000) (lb : c.bx.length ≤ 2000000) (ll : c.bl.length = 5 * c.bm) (lm : c.bm ≤ 2000000) (wf : Pl.WfR c.r) :
    Calls Try.prog 37 #[.agg #[.slice a c.r.xs.length ca, .slice b c.r.ys.length cb, iv c.r.o, iv c.r.p, iv c.r.f, iv c.r.m, .bool c.r.s, .bool c.r.t, .slice e c.bx.length ce, .slice q c.bm cq, .bool c.st, .bool c.ha]] w fun r w' => r = .returned (.bool (Pl.cpOk c)) ∧ Kept 0 0 w w' := by
  have K0 := hide (kept_alloc w (.cells #[.slice a c.r.xs.length ca, .slice b c.r.ys.length cb, iv c.r.o, iv c.r.p, iv c.r.f, iv c.r.m, .bool c.r.s, .bool c.r.t, .slice e c.bx.length ce, .slice q c.bm cq, .bool c.st, .bool c.ha] 44))
  have HBA := hide (Blk.new w #[.slice a c.r.xs.length ca, .slice b c.r.ys.length cb, iv c.r.o, iv c.r.p, iv c.r.f, iv c.r.m, .bool c.r.s, .bool c.r.t, .slice e c.bx.length ce, .slice q c.bm cq, .bool c.st, .bool c.ha] 44)
  obtain ⟨X, hX⟩ : ∃ X : World, w.alloc (.cells #[.slice a c.r.xs.length ca, .slice b c.r.ys.length cb, iv c.r.o, iv c.r.p, iv c.r.f, iv c.r.m, .bool c.r.s, .bool c.r.t, .slice e c.bx.length ce, .slice q c.bm cq, .bool c.st, .bool c.ha] 44) = X := ⟨_, rfl⟩
  rw [hX] at K0 HBA
  have HA := hide (ha.keptS K0.out)
  have HB := hide (hb.keptS K0.out)
  have HE := hide (he.keptS K0.out)
  have HQ := hide (hq.keptS K0.out)
  clear ha hb he hq
  have p := HBA.out.all
  cases h1 : Pl.rgOk c.r
  · go_enter Try.func37, Try.ntmps37
    go_wp2_with (go_at_call 56; refine (implGoodRegs _ c.r a b ca cb HA.out HB.out lx ly wf).mono ?_; rintro e9 W ⟨rfl, k9⟩; rw [h1]; have HK1 := hide k9; have HB1 := hide (HBA.out.kept0 k9); have HE1 := hide (HE.out.keptS k9); have HQ1 := hide (HQ.out.keptS k9); clear k9 p; have p := HB1.out.all)
    go_ret
    exact ⟨rB (by unfold Pl.cpOk; simp [h1]), K0.out.trans HK1.out⟩
  · cases h2 : Pl.goodBus c.bx c.bl c.bm
    · go_enter Try.func37, Try.ntmps37
      go_wp2_with (first | (go_at_call 57; have z9 := HB1; refine (goodBus _ e q ce cq c.bm c.bx c.bl HE1.out HQ1.out lb ll lm).mono ?_; rintro e9 W2 ⟨rfl, k9⟩; rw [h2]; have HK2 := hide k9; have HB2 := hide (HB1.out.kept0 k9); clear k9 p; have p := HB2.out.all) | (go_at_call 56; refine (implGoodRegs _ c.r a b ca cb HA.out HB.out lx ly wf).mono ?_; rintro e9 W ⟨rfl, k9⟩; rw [h1]; have HK1 := hide k9; have HB1 := hide (HBA.out.kept0 k9); have HE1 := hide (HE.out.keptS k9); have HQ1 := hide (HQ.out.keptS k9); clear k9 p; have p := HB1.out.all))
      go_ret
      exact ⟨rB (by unfold Pl.cpOk; simp [h1, h2]), (K0.out.trans HK1.out).trans HK2.out⟩
    · rcases Bool.eq_false_or_eq_true c.st with h3 | h3
      all_goals
        have H3 := hide h3
        clear h3
        go_enter Try.func37, Try.ntmps37
        go_wp2_with (first | (go_at_call 57; have z9 := HB1; refine (goodBus _ e q ce cq c.bm c.bx c.bl HE1.out HQ1.out lb ll lm).mono ?_; rintro e9 W2 ⟨rfl, k9⟩; rw [h2]; have HK2 := hide k9; have HB2 := hide (HB1.out.kept0 k9); clear k9 p; have p := HB2.out.all; rw [H3.out] at p) | (go_at_call 56; refine (implGoodRegs _ c.r a b ca cb HA.out HB.out lx ly wf).mono ?_; rintro e9 W ⟨rfl, k9⟩; rw [h1]; have HK1 := hide k9; have HB1 := hide (HBA.out.kept0 k9); have HE1 := hide (HE.out.keptS k9); have HQ1 := hide (HQ.out.keptS k9); clear k9 p; have p := HB1.out.all))
        go_ret
        exact ⟨rB (by unfold Pl.cpOk; simp [h1, h2, H3.out]), (K0.out.trans HK1.out).trans HK2.out⟩
end Go.Proofs.Ytkkmnnhaailkcaa

namespace Go.Proofs.Ytkkmnnhaailkcaa
open Go.RowKit
set_option linter.unusedVariables false
set_option maxRecDepth 100000 in
set_option maxHeartbeats 4000000 in
theorem implFrameOf (w : World) (c : Pl.Cp) (f : Pl.Ft) (a b e q : Option Addr) (ca cb ce cq : Nat) (ha : Came w a c.r.xs) (hb : Came w b c.r.ys) (he : Came w e c.bx) (hq : Came w q c.bl) (lx : c.r.xs.length ≤ 2000000) (ly : c.r.ys.length ≤ 2000000) (lb : c.bx.length ≤ 2000000) (ll : c.bl.length = 5 * c.bm) (lm : c.bm ≤ 2000000) (wf : Pl.WfR c.r) (wff : Pl.WfF f) :
    Calls Try.prog 14 #[.agg (cpA c a b e q ca cb ce cq), .agg (ftA f)] w fun r w' => ∃ (ao : Option Addr) (co : Nat), r = .returned (.tuple #[.slice ao (Pl.foV c f).length co, .bool (Pl.foOk c f)]) ∧ SlotIn w' w.heap.size w'.heap.size ao (Pl.foV c f) ∧ Kept 0 0 w w' := by
  have HA := hide ha
  have HB := hide hb
  have HE := hide he
  have HQ := hide hq
  clear ha hb he hq
  have K0 := hide (kept_new (kept_alloc w (.cells (cpA c a b e q ca cb ce cq) 44)) (.cells (ftA f) 25))
  have BC0 := hide ((Blk.new w (cpA c a b e q ca cb ce cq) 44).alloc (.cells (ftA f) 25))
  have BF0 := Blk.new (w.alloc (.cells (cpA c a b e q ca cb ce cq) 44)) (ftA f) 25
  simp only [World.size_alloc] at BF0
  replace BF0 := hide BF0
  obtain ⟨X, hX⟩ : ∃ X : World, (w.alloc (.cells (cpA c a b e q ca cb ce cq) 44)).alloc (.cells (ftA f) 25) = X := ⟨_, rfl⟩
  rw [hX] at K0 BC0 BF0
  have p := BC0.out.all
  have p2 := BF0.out.all
  cases h1 : Pl.cpOk c
  · have EV : Hid (Pl.foV c f = [] ∧ Pl.foOk c f = false) := hide (by simp [Pl.foV, Pl.foOk, *])
    go_enter Try.func14, Try.ntmps14
    go_wp2_with (first | (go_at_call 37; refine (implGoodCpu _ c a b e q ca cb ce cq (HA.out.keptS K0.out) (HB.out.keptS K0.out) (HE.out.keptS K0.out) (HQ.out.keptS K0.out) lx ly lb ll lm wf).mono ?_; rintro e9 w1 ⟨rfl, k9⟩; rw [h1]; have K1 := hide (K0.out.trans k9); have BC1 := hide (BC0.out.kept0 k9); have BF1 := hide (BF0.out.kept0 k9); clear p2; have p2 := BF1.out.all; clear k9 p; have p := BC1.out.all))
    go_ret2
    exact ⟨none, 0, by rw [EV.out.1, EV.out.2]; rfl, .inl ⟨rfl, EV.out.1⟩, K1.out⟩
  · cases h2 : Pl.ftOk f
    · have EV : Hid (Pl.foV c f = [] ∧ Pl.foOk c f = false) := hide (by simp [Pl.foV, Pl.foOk, *])
      go_enter Try.func14, Try.ntmps14
      go_wp2_with (first | (go_at_call 37; refine (implGoodCpu _ c a b e q ca cb ce cq (HA.out.keptS K0.out) (HB.out.keptS K0.out) (HE.out.keptS K0.out) (HQ.out.keptS K0.out) lx ly lb ll lm wf).mono ?_; rintro e9 w1 ⟨rfl, k9⟩; rw [h1]; have K1 := hide (K0.out.trans k9); have BC1 := hide (BC0.out.kept0 k9); have BF1 := hide (BF0.out.kept0 k9); clear p2; have p2 := BF1.out.all; clear k9 p; have p := BC1.out.all) | (go_at_call 10; refine (implGoodFault f _ wff).mono ?_; rintro e9 w2 ⟨rfl, k9⟩; rw [h2]; have K2 := hide (K1.out.trans k9); have BC2 := hide (BC1.out.kept0 k9); have BF2 := hide (BF1.out.kept0 k9); clear k9 p p2; have p := BC2.out.all; have p2 := BF2.out.all))
      go_ret2
      exact ⟨none, 0, by rw [EV.out.1, EV.out.2]; rfl, .inl ⟨rfl, EV.out.1⟩, K2.out⟩
    · have EV : Hid (Pl.foV c f = Pl.ftRow c.r f ∧ Pl.foOk c f = true) := hide (by simp [Pl.foV, Pl.foOk, h1, h2])
      have HG := hide (Pl.good_of (Pl.cpOk_r h1))
      go_enter Try.func14, Try.ntmps14
      go_wp2_with (first | (go_at_call 37; refine (implGoodCpu _ c a b e q ca cb ce cq (HA.out.keptS K0.out) (HB.out.keptS K0.out) (HE.out.keptS K0.out) (HQ.out.keptS K0.out) lx ly lb ll lm wf).mono ?_; rintro e9 w1 ⟨rfl, k9⟩; rw [h1]; have K1 := hide (K0.out.trans k9); have BC1 := hide (BC0.out.kept0 k9); have BF1 := hide (BF0.out.kept0 k9); clear p2; have p2 := BF1.out.all; clear k9 p; have p := BC1.out.all) | (go_at_call 10; refine (implGoodFault f _ wff).mono ?_; rintro e9 w2 ⟨rfl, k9⟩; rw [h2]; have K2 := hide (K1.out.trans k9); have BC2 := hide (BC1.out.kept0 k9); have BF2 := hide (BF1.out.kept0 k9); clear k9 p p2; have p := BC2.out.all; have p2 := BF2.out.all))
      clear p p2
      go_region_held3 (fun w' => (∀ i, w'.cell? ⟨w.heap.size, i, none⟩ = (cpA c a b e q ca cb ce cq)[i]?) ∧ (∀ i, w'.cell? ⟨w.heap.size + 1, i, none⟩ = (ftA f)[i]?)) (first | exact ⟨BC5.out.all, BF5.out.all⟩ | exact ⟨BC4.out.all, BF4.out.all⟩ | exact ⟨(show Blk _ _ _ _ from BC2.out).all, (show Blk _ _ _ _ from BF2.out).all⟩) (first | (go_at_call 38; refine (bankOf _ c.r a b ca cb (HA.out.keptS (kept_drew K2.out)).1 (HB.out.keptS (kept_drew K2.out)).1 HG.out.d4 HG.out.a4).mono ?_; rintro e9 w4 ⟨rfl, k9⟩; have K4 := hide (K2.out.trans (undrewK k9)); have BC4 := hide (BC2.out.kept0 (undrewK k9)); have BF4 := hide (BF2.out.kept0 (undrewK k9)); clear k9) | (go_at_call 39; refine (bankFrame _ c.r f HG.out).mono ?_; rintro e9 w5 ⟨g, cg, rfl, g0, g1, ho, k9⟩; have K5 := hide (K4.out.trans k9); have BC5 := hide (BC4.out.kept0 k9); have BF5 := hide (BF4.out.kept0 k9); have HO := hide ho; clear k9 ho))
      go_wp2_with fail
      go_ret2
      have s2 := K4.out.size
      exact ⟨some ⟨g, 0, none⟩, cg, by rw [EV.out.1, EV.out.2]; rfl, .inr ⟨g, rfl, by omega, g1, by rw [EV.out.1]; exact HO.out⟩, K5.out⟩
end Go.Proofs.Ytkkmnnhaailkcaa

namespace Go.Proofs.Ytkkmnnhaailkcaa
open Go.RowKit
set_option linter.unusedVariables false
theorem Pl.fo_len (c : Pl.Cp) (f : Pl.Ft) : (Pl.foV c f).length ≤ 2000000 := by
  unfold Pl.foV Pl.ftRow
  split <;> (try split) <;> simp
set_option maxRecDepth 100000 in
set_option maxHeartbeats 16000000 in
theorem lawFrameOf (d : Pl.Cp) (a b e q : Option Addr) (ca cb ce cq : Nat) (f : Pl.Ft) (w : World) (hx : Came w a d.r.xs) (hy : Came w b d.r.ys) (hz : Came w e d.bx) (hq : Came w q d.bl) (lx : d.r.xs.length ≤ 9223372036854775807) (ly : d.r.ys.length ≤ 9223372036854775807) (lz : d.bx.length ≤ 9223372036854775807) (lm : d.bm ≤ 9223372036854775807) (ll : d.bl.length = 5 * d.bm) (wfd : Pl.WfR d.r) (wff : Pl.WfF f) :
    Calls Try.prog 4 #[.agg (cpA d a b e q ca cb ce cq), .agg (ftA f)] w fun e w' => e = .returned (.bool true) ∧ Below w.heap.size w w' := by
  have HX := hide hx
  have HY := hide hy
  have HZ := hide hz
  have HQ := hide hq
  have HWF := hide wfd
  have HLL := hide ll
  have Bel := hide (kept_new (kept_alloc w (.cells (cpA d a b e q ca cb ce cq) 35)) (.cells (ftA f) 23)).below
  have WA := hide ((Blk.new w (cpA d a b e q ca cb ce cq) 35).alloc (.cells (ftA f) 23))
  have WF := Blk.new (w.alloc (.cells (cpA d a b e q ca cb ce cq) 35)) (ftA f) 23
  simp only [World.size_alloc] at WF
  replace WF := hide WF
  obtain ⟨X0, hX0⟩ : ∃ X : World, (w.alloc (.cells (cpA d a b e q ca cb ce cq) 35)).alloc (.cells (ftA f) 23) = X := ⟨_, rfl⟩
  have nX0 : X0.heap.size = w.heap.size + 2 := by simp [← hX0]
  rw [hX0] at Bel WA WF
  clear hx hy hz hq wfd ll
  by_cases hs : szC d.r.xs.length d.r.ys.length d.bx.length d.bm 1048576 < 0
  · go_enter Try.func4, Try.ntmps4
    have p0 := WA.out.all
    have p1 := WF.out.all
    go_wp2_with fail
    refine (szCpu _ d a b e q ca cb ce cq 1048576 lx ly lz lm (by decide) (by decide)).mono ?_
    rintro e9 w1 ⟨rfl, k⟩
    have Bn := hide (below_kept Bel.out k (by omega))
    clear k
    go_wp2_with fail
    go_ret
    exact ⟨rfl, Bn.out⟩
  · have hb := szC_neg hs
    have bx : d.r.xs.length ≤ 2000000 := by omega
    have by_ : d.r.ys.length ≤ 2000000 := by omega
    have bz : d.bx.length ≤ 2000000 := by omega
    have bm : d.bm ≤ 2000000 := by omega
    have ds : decide (szC d.r.xs.length d.r.ys.length d.bx.length d.bm 1048576 < 0) = false := by simpa using hs
    clear hs hb
    generalize hVV : Pl.foV d f = V
    generalize hKK : Pl.foOk d f = K
    have lV : V.length ≤ 2000000 := by rw [← hVV]; exact Pl.fo_len d f
    have HVV := hide hVV
    have HKK := hide hKK
    clear hVV hKK
    go_enter Try.func4, Try.ntmps4
    have p0 := WA.out.all
    have p1 := WF.out.all
    go_wp2_with fail
    clear p0 p1
    refine (szCpu _ d a b e q ca cb ce cq 1048576 lx ly lz lm (by decide) (by decide)).mono ?_
    rintro e9 w1 ⟨rfl, k⟩
    have Beln := hide (below_kept Bel.out k (by omega))
    have WAn := hide (WA.out.kept k (by omega))
    have WFn := hide (WF.out.kept k (by omega))
    clear Bel WA WF
    have Bel := Beln
    have WA := WAn
    have WF := WFn
    clear Beln WAn WFn
    have nw1 := k.size
    clear k
    clear hX0
    have p0 := WA.out.all
    have p1 := WF.out.all
    go_wp2_with fail
    clear p0 p1 ds
    go_region_held3 (fun w' => (∀ i, w'.cell? ⟨w.heap.size, i, none⟩ = (cpA d a b e q ca cb ce cq)[i]?) ∧ (∀ i, w'.cell? ⟨w.heap.size + 1, i, none⟩ = (ftA f)[i]?)) (first | exact ⟨WA.out.all, WF.out.all⟩ | exact ⟨(show Blk _ _ _ _ from WA.out).all, (show Blk _ _ _ _ from WF.out).all⟩) (first | (go_at_call 13; refine (toCpu _ d a b e q ca cb ce cq (HX.out.below Bel.out.drew).1 (HY.out.below Bel.out.drew).1 (HZ.out.below Bel.out.drew).1 (HQ.out.below Bel.out.drew).1 bx by_ bz HLL.out bm).mono ?_; rintro e9 w3a ⟨g1, g2, g3, g4, rfl, hs9, kd⟩; have k := undrewK kd; clear kd; have Beln := hide (below_kept Bel.out k (by omega)); have WAn := hide (WA.out.kept k (by omega)); have WFn := hide (WF.out.kept k (by omega)); clear Bel WA WF; have Bel := Beln; have WA := WAn; have WF := WFn; clear Beln WAn WFn; have nw3a := k.size; have O1 : Hid (CpSl w3a w1.heap.size w3a.heap.size d (some ⟨g1, 0, none⟩) (some ⟨g2, 0, none⟩) (some ⟨g3, 0, none⟩) (some ⟨g4, 0, none⟩)) := hide hs9; clear k hs9) | (go_at_call 9; refine (toFault f _).mono ?_; rintro e9 w3b ⟨rfl, k⟩; have Beln := hide (below_kept Bel.out k (by omega)); have WAn := hide (WA.out.kept k (by omega)); have WFn := hide (WF.out.kept k (by omega)); have O1n := hide (O1.out.kept k (by omega)); clear Bel WA WF O1; have Bel := Beln; have WA := WAn; have WF := WFn; have O1 := O1n; clear Beln WAn WFn O1n; have nw3b := k.size; clear k) | (go_at_call 12; refine (specFrameOf _ d f _ _ _ _ _ _ _ _ O1.out.d.row O1.out.a'.row O1.out.b'.row O1.out.l.row bx by_ bz HLL.out bm).mono ?_; rw [HVV.out, HKK.out]; rintro e9 w3 ⟨ao0, co0, rfl, hsl, k⟩; have Beln := hide (below_kept Bel.out k (by omega)); have WAn := hide (WA.out.kept k (by omega)); have WFn := hide (WF.out.kept k (by omega)); have O1n := hide (O1.out.kept k (by omega)); clear Bel WA WF O1; have Bel := Beln; have WA := WAn; have WF := WFn; have O1 := O1n; clear Beln WAn WFn O1n; have nw3 := k.size; have S0 := hide hsl; clear k hsl))
    clear O1
    have p0 := WA.out.all
    have p1 := WF.out.all
    go_wp2_with fail
    clear p0 p1
    refine (toCpu _ d a b e q ca cb ce cq (HX.out.below Bel.out).1 (HY.out.below Bel.out).1 (HZ.out.below Bel.out).1 (HQ.out.below Bel.out).1 bx by_ bz HLL.out bm).mono ?_
    rintro e9 w4 ⟨g5, g6, g7, g8, rfl, hs9, k⟩
    have Beln := hide (below_kept Bel.out k (by omega))
    have WAn := hide (WA.out.kept k (by omega))
    have WFn := hide (WF.out.kept k (by omega))
    have S0n := hide (S0.out.kept k (by omega))
    clear Bel WA WF S0
    have Bel := Beln
    have WA := WAn
    have WF := WFn
    have S0 := S0n
    clear Beln WAn WFn S0n
    have nw4 := k.size
    have O3 := hide hs9
    clear k hs9
    have ka : Kept 0 0 w4 (w4.alloc (.cells (cpA d (some ⟨g5, 0, none⟩) (some ⟨g6, 0, none⟩) (some ⟨g7, 0, none⟩) (some ⟨g8, 0, none⟩) d.r.xs.length d.r.ys.length d.bx.length d.bm) 44)) := kept_alloc w4 _
    have Beln := hide (below_kept Bel.out ka (by omega))
    have WAn := hide (WA.out.kept ka (by omega))
    have WFn := hide (WF.out.kept ka (by omega))
    have S0n := hide (S0.out.kept ka (by omega))
    have O3n := hide (O3.out.kept ka (by omega))
    clear Bel WA WF S0 O3
    have Bel := Beln
    have WA := WAn
    have WF := WFn
    have S0 := S0n
    have O3 := O3n
    clear Beln WAn WFn S0n O3n
    have B0 := Blk.new w4 (cpA d (some ⟨g5, 0, none⟩) (some ⟨g6, 0, none⟩) (some ⟨g7, 0, none⟩) (some ⟨g8, 0, none⟩) d.r.xs.length d.r.ys.length d.bx.length d.bm) 44
    obtain ⟨X4, hX4⟩ : ∃ X : World, w4.alloc (.cells (cpA d (some ⟨g5, 0, none⟩) (some ⟨g6, 0, none⟩) (some ⟨g7, 0, none⟩) (some ⟨g8, 0, none⟩) d.r.xs.length d.r.ys.length d.bx.length d.bm) 44) = X := ⟨_, rfl⟩
    have nX4 : X4.heap.size = w4.heap.size + 1 := by simp [← hX4]
    rw [hX4] at Bel WA WF S0 O3 B0
    have VA := hide B0
    clear ka B0
    have p0 := VA.out.all
    have p1 := WA.out.all
    have p2 := WF.out.all
    go_wp2_with fail
    clear p0 p1 p2 hX4
    go_region_held3 (fun w' => (∀ i, w'.cell? ⟨w4.heap.size, i, none⟩ = (cpA d (some ⟨g5, 0, none⟩) (some ⟨g6, 0, none⟩) (some ⟨g7, 0, none⟩) (some ⟨g8, 0, none⟩) d.r.xs.length d.r.ys.length d.bx.length d.bm)[i]?) ∧ (∀ i, w'.cell? ⟨w.heap.size + 1, i, none⟩ = (ftA f)[i]?)) (first | exact ⟨VA.out.all, WF.out.all⟩ | exact ⟨(show Blk _ _ _ _ from VA.out).all, (show Blk _ _ _ _ from WF.out).all⟩) (first | (go_at_call 9; refine (toFault f _).mono ?_; rintro e9 w5b ⟨rfl, kd⟩; have k := undrewK kd; clear kd; have Beln := hide (below_kept Bel.out k (by omega)); have WAn := hide (WA.out.kept k (by omega)); have WFn := hide (WF.out.kept k (by omega)); have S0n := hide (S0.out.kept k (by omega)); have O3n := hide (O3.out.kept k (by omega)); have VAn := hide (VA.out.kept k (by omega)); clear Bel WA WF S0 O3 VA; have Bel := Beln; have WA := WAn; have WF := WFn; have S0 := S0n; have O3 := O3n; have VA := VAn; clear Beln WAn WFn S0n O3n VAn; have nw5b := k.size; clear k) | (go_at_call 14; refine (implFrameOf _ d f _ _ _ _ _ _ _ _ ⟨O3.out.d.row, HX.out.2⟩ ⟨O3.out.a'.row, HY.out.2⟩ ⟨O3.out.b'.row, HZ.out.2⟩ ⟨O3.out.l.row, HQ.out.2⟩ bx by_ bz HLL.out bm HWF.out wff).mono ?_; rw [HVV.out, HKK.out]; rintro e9 w5 ⟨ao1, co1, rfl, hsl, k⟩; have Beln := hide (below_kept Bel.out k (by omega)); have WAn := hide (WA.out.kept k (by omega)); have WFn := hide (WF.out.kept k (by omega)); have S0n := hide (S0.out.kept k (by omega)); have O3n := hide (O3.out.kept k (by omega)); have VAn := hide (VA.out.kept k (by omega)); clear Bel WA WF S0 O3 VA; have Bel := Beln; have WA := WAn; have WF := WFn; have S0 := S0n; have O3 := O3n; have VA := VAn; clear Beln WAn WFn S0n O3n VAn; have nw5 := k.size; have S1 := hide hsl; clear k hsl))
    go_wp2_with fail
    refine (eqIntS _ ao1 ao0 _ _ V V S1.out.row S0.out.row lV lV).mono ?_
    rintro e9 w6 ⟨rfl, gr⟩
    rw [decide_eq_true (rfl : V = V)]
    have k := kept_grown gr
    clear gr
    have Beln := hide (below_kept Bel.out k (by omega))
    have WAn := hide (WA.out.kept k (by omega))
    have WFn := hide (WF.out.kept k (by omega))
    have S0n := hide (S0.out.kept k (by omega))
    have O3n := hide (O3.out.kept k (by omega))
    have VAn := hide (VA.out.kept k (by omega))
    have S1n := hide (S1.out.kept k (by omega))
    clear Bel WA WF S0 O3 VA S1
    have Bel := Beln
    have WA := WAn
    have WF := WFn
    have S0 := S0n
    have O3 := O3n
    have VA := VAn
    have S1 := S1n
    clear Beln WAn WFn S0n O3n VAn S1n
    have nw6 := k.size
    clear k
    have p0 := WA.out.all
    have p1 := VA.out.all
    go_upto_region 10 with fail
    go_cut [47, 48, 49, 50, 51] (fun _ _ _ _ t wx => t = .bool false ∧ Kept 0 0 w6 wx)
    case first =>
      go_region_with (first | (go_at_call 13; refine (toCpu _ d a b e q ca cb ce cq (HX.out.below Bel.out.drew).1 (HY.out.below Bel.out.drew).1 (HZ.out.below Bel.out.drew).1 (HQ.out.below Bel.out.drew).1 bx by_ bz HLL.out bm).mono ?_; rintro e9 w7 ⟨g9, g10, g11, g12, rfl, hs9, kd⟩; have k := undrewK kd; have VN := hide (VA.out.kept0 k); have u := VN.out.all; have P3 := hide (O3.out.kept k (by omega)); have P5 := hide hs9; have K7 := hide k; clear k kd hs9) | (go_at_call 16; refine (eqCpu _ d _ _ _ _ _ _ _ _ _ _ _ _ _ _ _ _ P3.out.d.row P3.out.a'.row P3.out.b'.row P3.out.l.row P5.out.d.row P5.out.a'.row P5.out.b'.row P5.out.l.row bx by_ bz HLL.out bm).mono ?_; rintro e9 w8 ⟨rfl, k⟩; have K8 := hide (K7.out.trans k); clear k))
      all_goals
        go_wp2_with fail
        go_meet
        case rel => exact ⟨rfl, K8.out⟩
    case rest =>
      clear p0 p1
      rename_i wx
      obtain ⟨rfl, k⟩ := hcut
      have Beln := hide (below_kept Bel.out k (by omega))
      have WAn := hide (WA.out.kept k (by omega))
      have WFn := hide (WF.out.kept k (by omega))
      have S0n := hide (S0.out.kept k (by omega))
      have O3n := hide (O3.out.kept k (by omega))
      have VAn := hide (VA.out.kept k (by omega))
      have S1n := hide (S1.out.kept k (by omega))
      clear Bel WA WF S0 O3 VA S1
      have Bel := Beln
      have WA := WAn
      have WF := WFn
      have S0 := S0n
      have O3 := O3n
      have VA := VAn
      have S1 := S1n
      clear Beln WAn WFn S0n O3n VAn S1n
      have nwx := k.size
      clear k
      have p0 := VA.out.all
      go_wp2_with fail
      clear p0
      refine (markCpu _ w3.heap.size w4.heap.size d _ _ _ _ _ _ _ _ O3.out (by omega) bx by_ bz HLL.out bm).mono ?_
      rintro e9 w9 ⟨rfl, _, k⟩
      clear O3
      have Beln := hide (below_kept Bel.out k (by omega))
      have WAn := hide (WA.out.kept k (by omega))
      have WFn := hide (WF.out.kept k (by omega))
      have S0n := hide (S0.out.kept k (by omega))
      have VAn := hide (VA.out.kept k (by omega))
      have S1n := hide (S1.out.kept k (by omega))
      clear Bel WA WF S0 VA S1
      have Bel := Beln
      have WA := WAn
      have WF := WFn
      have S0 := S0n
      have VA := VAn
      have S1 := S1n
      clear Beln WAn WFn S0n VAn S1n
      have nw9 := k.size
      clear k
      have hmk : ¬ (Pl.mkN d 1 < 0) := by unfold Pl.mkN; omega
      go_wp2_with fail
      refine (eqIntS _ ao1 ao0 _ _ V V S1.out.row S0.out.row lV lV).mono ?_
      rintro e9 w10 ⟨rfl, gr⟩
      rw [decide_eq_true (rfl : V = V)]
      have k := kept_grown gr
      clear gr
      have Beln := hide (below_kept Bel.out k (by omega))
      have WAn := hide (WA.out.kept k (by omega))
      have WFn := hide (WF.out.kept k (by omega))
      have S0n := hide (S0.out.kept k (by omega))
      have VAn := hide (VA.out.kept k (by omega))
      have S1n := hide (S1.out.kept k (by omega))
      clear Bel WA WF S0 VA S1
      have Bel := Beln
      have WA := WAn
      have WF := WFn
      have S0 := S0n
      have VA := VAn
      have S1 := S1n
      clear Beln WAn WFn S0n VAn S1n
      have nw10 := k.size
      clear k
      go_wp2_with fail
      refine (markSlot _ w5b.heap.size _ ao1 V 1 (S1.out.slot (by omega)) lV (by decide) (by decide)).mono ?_
      rintro e9 w11 ⟨rfl, sl, gr⟩
      have k : Kept w5b.heap.size w5.heap.size _ w11 := kept_row gr S1.out.blk_in
      have M := hide (S1.out.again sl)
      clear S1
      have Beln := hide (below_kept Bel.out k (by omega))
      have WAn := hide (WA.out.kept k (by omega))
      have WFn := hide (WF.out.kept k (by omega))
      have S0n := hide (S0.out.kept k (by omega))
      have VAn := hide (VA.out.kept k (by omega))
      clear Bel WA WF S0 VA
      have Bel := Beln
      have WA := WAn
      have WF := WFn
      have S0 := S0n
      have VA := VAn
      clear Beln WAn WFn S0n VAn
      have n11 := k.size
      clear k sl gr
      go_wp2_with fail
      refine (heldIntS _ ao1 _ V.length 1 M.out.row lV (by decide) (by decide)).mono ?_
      rintro e9 w12 ⟨rfl, gr⟩
      have k := kept_grown gr
      clear gr
      have Beln := hide (below_kept Bel.out k (by omega))
      have WAn := hide (WA.out.kept k (by omega))
      have WFn := hide (WF.out.kept k (by omega))
      have S0n := hide (S0.out.kept k (by omega))
      have VAn := hide (VA.out.kept k (by omega))
      have Mn := hide (M.out.kept k (by omega))
      clear Bel WA WF S0 VA M
      have Bel := Beln
      have WA := WAn
      have WF := WFn
      have S0 := S0n
      have VA := VAn
      have M := Mn
      clear Beln WAn WFn S0n VAn Mn
      have nw12 := k.size
      clear k
      have p0 := WA.out.all
      have p1 := WF.out.all
      go_wp2_with fail
      clear p0 p1
      go_region_held3 (fun w' => (∀ i, w'.cell? ⟨w.heap.size, i, none⟩ = (cpA d a b e q ca cb ce cq)[i]?) ∧ (∀ i, w'.cell? ⟨w.heap.size + 1, i, none⟩ = (ftA f)[i]?)) (first | exact ⟨WA.out.all, WF.out.all⟩ | exact ⟨(show Blk _ _ _ _ from WA.out).all, (show Blk _ _ _ _ from WF.out).all⟩) (first | (go_at_call 13; refine (toCpu _ d a b e q ca cb ce cq (HX.out.below Bel.out.drew).1 (HY.out.below Bel.out.drew).1 (HZ.out.below Bel.out.drew).1 (HQ.out.below Bel.out.drew).1 bx by_ bz HLL.out bm).mono ?_; rintro e9 w14a ⟨h1, h2, h3, h4, rfl, hs9, kd⟩; have k := undrewK kd; clear kd; have Beln := hide (below_kept Bel.out k (by omega)); have WAn := hide (WA.out.kept k (by omega)); have WFn := hide (WF.out.kept k (by omega)); have S0n := hide (S0.out.kept k (by omega)); have VAn := hide (VA.out.kept k (by omega)); have Mn := hide (M.out.kept k (by omega)); clear Bel WA WF S0 VA M; have Bel := Beln; have WA := WAn; have WF := WFn; have S0 := S0n; have VA := VAn; have M := Mn; clear Beln WAn WFn S0n VAn Mn; have nw14a := k.size; have O5 : Hid (CpSl w14a w12.heap.size w14a.heap.size d (some ⟨h1, 0, none⟩) (some ⟨h2, 0, none⟩) (some ⟨h3, 0, none⟩) (some ⟨h4, 0, none⟩)) := hide hs9; clear k hs9) | (go_at_call 9; refine (toFault f _).mono ?_; rintro e9 w14b ⟨rfl, k⟩; have Beln := hide (below_kept Bel.out k (by omega)); have WAn := hide (WA.out.kept k (by omega)); have WFn := hide (WF.out.kept k (by omega)); have S0n := hide (S0.out.kept k (by omega)); have VAn := hide (VA.out.kept k (by omega)); have Mn := hide (M.out.kept k (by omega)); have O5n := hide (O5.out.kept k (by omega)); clear Bel WA WF S0 VA M O5; have Bel := Beln; have WA := WAn; have WF := WFn; have S0 := S0n; have VA := VAn; have M := Mn; have O5 := O5n; clear Beln WAn WFn S0n VAn Mn O5n; have nw14b := k.size; clear k) | (go_at_call 14; refine (implFrameOf _ d f _ _ _ _ _ _ _ _ ⟨O5.out.d.row, HX.out.2⟩ ⟨O5.out.a'.row, HY.out.2⟩ ⟨O5.out.b'.row, HZ.out.2⟩ ⟨O5.out.l.row, HQ.out.2⟩ bx by_ bz HLL.out bm HWF.out wff).mono ?_; rw [HVV.out, HKK.out]; rintro e9 w14 ⟨ao2, co2, rfl, hsl, k⟩; have Beln := hide (below_kept Bel.out k (by omega)); have WAn := hide (WA.out.kept k (by omega)); have WFn := hide (WF.out.kept k (by omega)); have S0n := hide (S0.out.kept k (by omega)); have VAn := hide (VA.out.kept k (by omega)); have Mn := hide (M.out.kept k (by omega)); have O5n := hide (O5.out.kept k (by omega)); clear Bel WA WF S0 VA M O5; have Bel := Beln; have WA := WAn; have WF := WFn; have S0 := S0n; have VA := VAn; have M := Mn; have O5 := O5n; clear Beln WAn WFn S0n VAn Mn O5n; have nw14 := k.size; have S2 := hide hsl; clear k hsl))
      clear O5
      go_wp2_with fail
      refine (eqIntS _ ao2 ao0 _ _ V V S2.out.row S0.out.row lV lV).mono ?_
      rintro e9 w15 ⟨rfl, gr⟩
      rw [decide_eq_true (rfl : V = V)]
      have k := kept_grown gr
      clear gr
      have Beln := hide (below_kept Bel.out k (by omega))
      have WAn := hide (WA.out.kept k (by omega))
      have WFn := hide (WF.out.kept k (by omega))
      have S0n := hide (S0.out.kept k (by omega))
      have VAn := hide (VA.out.kept k (by omega))
      have Mn := hide (M.out.kept k (by omega))
      have S2n := hide (S2.out.kept k (by omega))
      clear Bel WA WF S0 VA M S2
      have Bel := Beln
      have WA := WAn
      have WF := WFn
      have S0 := S0n
      have VA := VAn
      have M := Mn
      have S2 := S2n
      clear Beln WAn WFn S0n VAn Mn S2n
      have nw15 := k.size
      clear k
      go_wp2_with fail
      refine (heldIntS _ ao1 _ V.length 1 M.out.row lV (by decide) (by decide)).mono ?_
      rintro e9 w16 ⟨rfl, gr⟩
      have k := kept_grown gr
      clear gr
      have Beln := hide (below_kept Bel.out k (by omega))
      have WAn := hide (WA.out.kept k (by omega))
      have WFn := hide (WF.out.kept k (by omega))
      have S0n := hide (S0.out.kept k (by omega))
      have VAn := hide (VA.out.kept k (by omega))
      have Mn := hide (M.out.kept k (by omega))
      have S2n := hide (S2.out.kept k (by omega))
      clear Bel WA WF S0 VA M S2
      have Bel := Beln
      have WA := WAn
      have WF := WFn
      have S0 := S0n
      have VA := VAn
      have M := Mn
      have S2 := S2n
      clear Beln WAn WFn S0n VAn Mn S2n
      have nw16 := k.size
      clear k
      go_wp2_with fail
      go_ret
      exact ⟨rfl, Bel.out⟩
end Go.Proofs.Ytkkmnnhaailkcaa

namespace Go.Proofs.Ytkkmnnhaailkcaa
open Go.RowKit Go.WideShapes Go.ChangeShapes Go.ChangeAt
set_option linter.unusedVariables false
set_option linter.unusedSimpArgs false

theorem Try.cellsInt : Try.prog.cellsOf 3 = 1 := by kernel_rfl
theorem Try.cellsAcc : Try.prog.cellsOf 102 = 5 := by kernel_rfl
theorem Try.cellsBus : Try.prog.cellsOf 33 = 2 := by kernel_rfl
theorem Try.cellsBool : Try.prog.cellsOf 4 = 1 := by kernel_rfl
theorem Try.cellsInts : Try.prog.cellsOf 28 = 1 := by kernel_rfl
theorem Try.cellsAccs : Try.prog.cellsOf 31 = 1 := by kernel_rfl
theorem Try.cellsRegs : Try.prog.cellsOf 30 = 8 := by kernel_rfl
theorem Try.cellsCpu : Try.prog.cellsOf 35 = 12 := by kernel_rfl


/-- from numbers at each place to the row of them -/
theorem Addr.add_add_own (a : Addr) (i j : Nat) : (a.add i).add j = a.add (i + j) := by
  unfold Addr.add
  by_cases hi : i = 0 <;> by_cases hj : j = 0 <;> simp [hi, hj, Nat.add_assoc]
set_option maxRecDepth 100000 in
theorem came_of {w : World} {x : Addr} {n : Nat} (h : ∀ i, i < n → ∃ z : Int, w.cell? (x.add i) = some (iv z) ∧ (Lit.int .i64 z).wf = true) : ∃ xs : List Int, xs.length = n ∧ Came w (some x) xs := by
  obtain ⟨f, hf⟩ := Go.Deep.choose_lt h
  refine ⟨(List.range n).map f, by simp, ?_, ?_⟩
  · intro i hi
    have hi' : i < n := by simpa using hi
    obtain ⟨g, off, spot⟩ := x
    have hspot : spot = none := by simpa [Addr.add] using World.cell?_spot (hf 0 (by omega)).1
    subst hspot
    refine ⟨g, off, rfl, ?_⟩
    have hc := (hf i hi').1
    by_cases h0 : i = 0
    · subst h0; simpa [Addr.add, hi'] using hc
    · simpa [Addr.add, h0, hi'] using hc
  · intro i hi
    have hi' : i < n := by simpa using hi
    have := bounds_i64 (hf i hi').2
    simpa [hi'] using this

section
variable {H : Type} {enc : TypeId × Value → H} {w : World} {base : Nat} {spare : Nat → Bool} {held : Bool}

set_option maxRecDepth 100000 in
theorem open_intRow {fuel : Nat} {v : Value} {y : DataW H × List MemPlace} (h : DataW.trod enc Try.prog w base spare held fuel 28 [v] = some y) :
    ∃ (a : Option Addr) (cap : Nat) (xs : List Int), v = .slice a xs.length cap ∧ Came w a xs ∧ xs.length ≤ maxLen := by
  rcases open_ints Try.underlying28 Try.underlying3 Try.cellsInt h with ⟨hc, _⟩ | ⟨x, len, cap, zs, hc, _, hl, hm, hz, _, hcell, hwz⟩
  · simp at hc
    exact ⟨none, 0, [], hc, ⟨fun i hi => absurd hi (Nat.not_lt_zero i), fun i hi => absurd hi (Nat.not_lt_zero i)⟩, Nat.zero_le _⟩
  · simp at hc
    have hlen : len ≤ zs.length := by rw [hz]; split <;> omega
    obtain ⟨xs, rfl, hx⟩ := came_of (w := w) (x := x) (n := len) (fun i hi => ⟨zs.getD i 0, hcell i (by omega), hwz _ (by
      have : i < zs.length := by omega
      simp [List.getD, this])⟩)
    exact ⟨some x, cap, xs, hc, hx, by omega⟩

set_option maxRecDepth 100000 in
theorem open_accRow {fuel : Nat} {v : Value} {y : DataW H × List MemPlace} (h : DataW.trod enc Try.prog w base spare held fuel 31 [v] = some y) :
    ∃ (a : Option Addr) (m cap : Nat) (ys : List Int), v = .slice a m cap ∧ Came w a ys ∧ ys.length = 5 * m ∧ m ≤ maxLen := by
  rcases Go.Deep.open_slice Try.underlying31 h with ⟨hc, _⟩ | ⟨x, len, cap, m, n, D, Pl, hc, _, hl, hm, hmm, _, hel⟩
  · simp at hc
    exact ⟨none, 0, 0, [], hc, ⟨fun i hi => absurd hi (Nat.not_lt_zero i), fun i hi => absurd hi (Nat.not_lt_zero i)⟩, rfl, Nat.zero_le _⟩
  · simp at hc
    have hlen : len ≤ m := by rw [hmm]; split <;> omega
    obtain ⟨ys, hy, hx⟩ := came_of (w := w) (x := x) (n := 5 * len) (by
      intro i hi
      obtain ⟨cs', h1, h2⟩ := hel (i / 5) (by omega)
      rw [Try.cellsAcc] at h1
      obtain ⟨_, hl5, hcs⟩ := World.cells?_some h1
      obtain ⟨zs, k, _, _, _, hzl, hf⟩ := DataW.trod_struct Try.underlying102 h2
      have hget := hcs (i % 5) (by omega)
      rw [Addr.add_add_own, show i / 5 * 5 + i % 5 = i from by omega] at hget
      rw [hget]
      obtain ⟨c0, c1, c2, c3, c4, rfl⟩ : ∃ c0 c1 c2 c3 c4, cs' = [c0, c1, c2, c3, c4] := by
        match cs', hl5 with
        | [c0, c1, c2, c3, c4], _ => exact ⟨c0, c1, c2, c3, c4, rfl⟩
      obtain ⟨z0, z1, z2, z3, z4, rfl⟩ : ∃ z0 z1 z2 z3 z4, zs = [z0, z1, z2, z3, z4] := by
        match zs, hzl with
        | [z0, z1, z2, z3, z4], _ => exact ⟨z0, z1, z2, z3, z4, rfl⟩
      have t0 := hf 0 _ rfl
      have t1 := hf 1 _ rfl
      have t2 := hf 2 _ rfl
      have t3 := hf 3 _ rfl
      have t4 := hf 4 _ rfl
      simp [Try.cellsInt] at t0 t1 t2 t3 t4
      obtain ⟨n0, e0, _, b0⟩ := DataW.trod_int Try.underlying3 t0
      obtain ⟨n1, e1, _, b1⟩ := DataW.trod_int Try.underlying3 t1
      obtain ⟨n2, e2, _, b2⟩ := DataW.trod_int Try.underlying3 t2
      obtain ⟨n3, e3, _, b3⟩ := DataW.trod_int Try.underlying3 t3
      obtain ⟨n4, e4, _, b4⟩ := DataW.trod_int Try.underlying3 t4
      simp at e0 e1 e2 e3 e4
      subst e0 e1 e2 e3 e4
      obtain h | h | h | h | h : i % 5 = 0 ∨ i % 5 = 1 ∨ i % 5 = 2 ∨ i % 5 = 3 ∨ i % 5 = 4 := by omega
      all_goals rw [h]
      · exact ⟨n0, rfl, b0⟩
      · exact ⟨n1, rfl, b1⟩
      · exact ⟨n2, rfl, b2⟩
      · exact ⟨n3, rfl, b3⟩
      · exact ⟨n4, rfl, b4⟩)
    exact ⟨some x, len, cap, ys, hc, hx, hy, by omega⟩

set_option maxRecDepth 100000 in
theorem open_Cpu {r : Reach} {b0 : Nat} {v : Value} {d : DataW H} {p : List MemPlace} (hv : Value.okWide Try.prog w r b0 35 v) (h : DataW.Trod enc Try.prog w base spare held 35 v d p) :
    ∃ (a0 : Option Addr) (c0 : Nat) (x0 : List Int) (a1 : Option Addr) (c1 : Nat) (x1 : List Int) (i2 i3 i4 i5 : Int) (i6 i7 : Bool) (a8 : Option Addr) (c8 : Nat) (x8 : List Int) (a9 : Option Addr) (m9 c9 : Nat) (x9 : List Int) (i10 i11 : Bool), v = .agg #[.slice a0 x0.length c0, .slice a1 x1.length c1, iv i2, iv i3, iv i4, iv i5, .bool i6, .bool i7, .slice a8 x8.length c8, .slice a9 m9 c9, .bool i10, .bool i11] ∧ (Came w a0 x0 ∧ x0.length ≤ maxLen) ∧ (Came w a1 x1 ∧ x1.length ≤ maxLen) ∧ (Lit.int .i64 i2).wf = true ∧ (Lit.int .i64 i3).wf = true ∧ (Lit.int .i64 i4).wf = true ∧ (Lit.int .i64 i5).wf = true ∧ (Came w a8 x8 ∧ x8.length ≤ maxLen) ∧ (Came w a9 x9 ∧ x9.length = 5 * m9 ∧ m9 ≤ maxLen) := by
  obtain ⟨cs, rfl, hsz⟩ := okWide_struct Try.underlying35 hv
  rw [Try.cellsCpu] at hsz
  obtain ⟨cl⟩ := cs
  obtain ⟨c_0, c_1, c_2, c_3, c_4, c_5, c_6, c_7, c_8, c_9, c_10, c_11, rfl⟩ : ∃ c_0 c_1 c_2 c_3 c_4 c_5 c_6 c_7 c_8 c_9 c_10 c_11, cl = [c_0, c_1, c_2, c_3, c_4, c_5, c_6, c_7, c_8, c_9, c_10, c_11] := by
    match cl, hsz with
    | [c_0, c_1, c_2, c_3, c_4, c_5, c_6, c_7, c_8, c_9, c_10, c_11], _ => exact ⟨c_0, c_1, c_2, c_3, c_4, c_5, c_6, c_7, c_8, c_9, c_10, c_11, rfl⟩
  obtain ⟨fuel, hf0⟩ := h
  obtain ⟨zs, k, _, _, _, hzl, hf⟩ := DataW.trod_struct Try.underlying35 hf0
  obtain ⟨y_0, y_1, y_2, y_3, rfl⟩ : ∃ y_0 y_1 y_2 y_3, zs = [y_0, y_1, y_2, y_3] := by
    match zs, hzl with
    | [y_0, y_1, y_2, y_3], _ => exact ⟨y_0, y_1, y_2, y_3, rfl⟩
  have s0 := hf 0 _ rfl
  have s1 := hf 1 _ rfl
  have s2 := hf 2 _ rfl
  have s3 := hf 3 _ rfl
  simp [Value.cells, Try.cellsRegs, Try.cellsBus, Try.cellsBool] at s0 s1 s2 s3
  obtain ⟨zs, k2, _, _, _, hzl, hr⟩ := DataW.trod_struct Try.underlying30 s0
  obtain ⟨z_0, z_1, z_2, z_3, z_4, z_5, z_6, z_7, rfl⟩ : ∃ z_0 z_1 z_2 z_3 z_4 z_5 z_6 z_7, zs = [z_0, z_1, z_2, z_3, z_4, z_5, z_6, z_7] := by
    match zs, hzl with
    | [z_0, z_1, z_2, z_3, z_4, z_5, z_6, z_7], _ => exact ⟨z_0, z_1, z_2, z_3, z_4, z_5, z_6, z_7, rfl⟩
  have t0 := hr 0 _ rfl
  have t1 := hr 1 _ rfl
  have t2 := hr 2 _ rfl
  have t3 := hr 3 _ rfl
  have t4 := hr 4 _ rfl
  have t5 := hr 5 _ rfl
  have t6 := hr 6 _ rfl
  have t7 := hr 7 _ rfl
  simp [Value.cells, Try.cellsInt, Try.cellsBool, Try.cellsInts] at t0 t1 t2 t3 t4 t5 t6 t7
  obtain ⟨zs, k3, _, _, _, hzl, hb⟩ := DataW.trod_struct Try.underlying33 s1
  obtain ⟨x_0, x_1, rfl⟩ : ∃ x_0 x_1, zs = [x_0, x_1] := by
    match zs, hzl with
    | [x_0, x_1], _ => exact ⟨x_0, x_1, rfl⟩
  have t8 := hb 0 _ rfl
  have t9 := hb 1 _ rfl
  simp [Value.cells, Try.cellsInts, Try.cellsAccs] at t8 t9
  obtain ⟨a0, c0, x0, q0, hx0, lx0⟩ := open_intRow t0
  obtain ⟨a1, c1, x1, q1, hx1, lx1⟩ := open_intRow t1
  obtain ⟨i2, q2, _, wf2⟩ := DataW.trod_int Try.underlying3 t2
  obtain ⟨i3, q3, _, wf3⟩ := DataW.trod_int Try.underlying3 t3
  obtain ⟨i4, q4, _, wf4⟩ := DataW.trod_int Try.underlying3 t4
  obtain ⟨i5, q5, _, wf5⟩ := DataW.trod_int Try.underlying3 t5
  obtain ⟨i6, q6, _⟩ := DataW.trod_bool Try.underlying4 t6
  obtain ⟨i7, q7, _⟩ := DataW.trod_bool Try.underlying4 t7
  obtain ⟨a8, c8, x8, q8, hx8, lx8⟩ := open_intRow t8
  obtain ⟨a9, m9, c9, x9, q9, hx9, ly9, lm9⟩ := open_accRow t9
  obtain ⟨i10, q10, _⟩ := DataW.trod_bool Try.underlying4 s2
  obtain ⟨i11, q11, _⟩ := DataW.trod_bool Try.underlying4 s3
  simp at q0 q1 q2 q3 q4 q5 q6 q7 q8 q9 q10 q11
  subst q0 q1 q2 q3 q4 q5 q6 q7 q8 q9 q10 q11
  exact ⟨a0, c0, x0, a1, c1, x1, i2, i3, i4, i5, i6, i7, a8, c8, x8, a9, m9, c9, x9, i10, i11, rfl, ⟨hx0, lx0⟩, ⟨hx1, lx1⟩, wf2, wf3, wf4, wf5, ⟨hx8, lx8⟩, ⟨hx9, ly9, lm9⟩⟩
end
end Go.Proofs.Ytkkmnnhaailkcaa

namespace Go.Proofs.Ytkkmnnhaailkcaa
open Go.RowKit Go.WideShapes Go.ChangeShapes Go.ChangeAt
set_option linter.unusedVariables false
set_option linter.unusedSimpArgs false
theorem Try.cellsFault : Try.prog.cellsOf 23 = 5 := by kernel_rfl
section
variable {H : Type} {enc : TypeId × Value → H} {w : World} {base : Nat} {spare : Nat → Bool} {held : Bool}
set_option maxRecDepth 100000 in
theorem open_Fault {r : Reach} {b0 : Nat} {v : Value} {d : DataW H} {p : List MemPlace} (hv : Value.okWide Try.prog w r b0 23 v) (h : DataW.Trod enc Try.prog w base spare held 23 v d p) :
    ∃ (i0 i1 i2 i3 : Int) (i4 : Bool), v = .agg #[iv i0, iv i1, iv i2, iv i3, .bool i4] ∧ (Lit.int .i64 i0).wf = true ∧ (Lit.int .i64 i1).wf = true ∧ (Lit.int .i64 i2).wf = true ∧ (Lit.int .i64 i3).wf = true := by
  obtain ⟨cs, rfl, hsz⟩ := okWide_struct Try.underlying23 hv
  rw [Try.cellsFault] at hsz
  obtain ⟨cl⟩ := cs
  obtain ⟨c_0, c_1, c_2, c_3, c_4, rfl⟩ : ∃ c_0 c_1 c_2 c_3 c_4, cl = [c_0, c_1, c_2, c_3, c_4] := by
    match cl, hsz with
    | [c_0, c_1, c_2, c_3, c_4], _ => exact ⟨c_0, c_1, c_2, c_3, c_4, rfl⟩
  obtain ⟨fuel, hf0⟩ := h
  obtain ⟨zs, k, _, _, _, hzl, hf⟩ := DataW.trod_struct Try.underlying23 hf0
  obtain ⟨y_0, y_1, y_2, y_3, y_4, rfl⟩ : ∃ y_0 y_1 y_2 y_3 y_4, zs = [y_0, y_1, y_2, y_3, y_4] := by
    match zs, hzl with
    | [y_0, y_1, y_2, y_3, y_4], _ => exact ⟨y_0, y_1, y_2, y_3, y_4, rfl⟩
  have s0 := hf 0 _ rfl
  have s1 := hf 1 _ rfl
  have s2 := hf 2 _ rfl
  have s3 := hf 3 _ rfl
  have s4 := hf 4 _ rfl
  simp [Value.cells, Try.cellsInt, Try.cellsBool] at s0 s1 s2 s3 s4
  obtain ⟨i0, q0, _, wf0⟩ := DataW.trod_int Try.underlying3 s0
  obtain ⟨i1, q1, _, wf1⟩ := DataW.trod_int Try.underlying3 s1
  obtain ⟨i2, q2, _, wf2⟩ := DataW.trod_int Try.underlying3 s2
  obtain ⟨i3, q3, _, wf3⟩ := DataW.trod_int Try.underlying3 s3
  obtain ⟨i4, q4⟩ := DataW.trod_bool Try.underlying4 s4
  simp at q0 q1 q2 q3 q4
  subst q0 q1 q2 q3
  exact ⟨i0, i1, i2, i3, i4, by simp [q4], wf0, wf1, wf2, wf3⟩
end
theorem wfF {f : Pl.Ft} (h1 : (Lit.int .i64 f.pc).wf = true) (h2 : (Lit.int .i64 f.ad).wf = true) (h3 : (Lit.int .i64 f.wo).wf = true) : Pl.WfF f :=
  ⟨(bounds_i64 h1).1, (bounds_i64 h1).2, (bounds_i64 h2).1, (bounds_i64 h2).2, (bounds_i64 h3).1, (bounds_i64 h3).2⟩
end Go.Proofs.Ytkkmnnhaailkcaa

