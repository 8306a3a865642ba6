/- What the program's listener does: its line, who is waited for, its value. What the program's GoodCpu answers, for every processor. -/
import Derived.Test.YtndhiaommphegaaJS5
import Derived.StillTailTactics
import Derived.Deep.RegionHeld3
import Derived.Test.YtndhiaommphegaaJS3
import Derived.Test.YtndhiaommphegaaJS4
import Derived.Test.YtndhiaommphegaaJS2
import Derived.Test.YtndhiaommphegaaJS1
namespace Go.Proofs.Ytndhiaommphegaa
open Go.RowKit
set_option linter.unusedVariables false
section
variable {w : World} {lo b g : Nat} {c : Pl.Mc} {h l : Int} {e : Bool}
theorem CAt.cL {ha : Bool} (a : CAt w lo b g c ⟨ha, tlq l e⟩) (lb : c.bx.length = 512) : w.cell? ⟨b, 529, none⟩ = some (iv l) := a.cTl lb (i := 0) rfl
theorem CAt.cE {ha : Bool} (a : CAt w lo b g c ⟨ha, tlq l e⟩) (lb : c.bx.length = 512) : w.cell? ⟨b, 530, none⟩ = some (.bool e) := a.cTl lb (i := 1) rfl
theorem CAt.setL {ha : Bool} (a : CAt w lo b g c ⟨ha, tlq l e⟩) (lb : c.bx.length = 512) (v : Int) : CAt (w.setCell ⟨b, 529, none⟩ (iv v)) lo b g c ⟨ha, tlq v e⟩ := a.setT lb 0 (iv v)
theorem CAt.setE {ha : Bool} (a : CAt w lo b g c ⟨ha, tlq l e⟩) (lb : c.bx.length = 512) (v : Bool) : CAt (w.setCell ⟨b, 530, none⟩ (.bool v)) lo b g c ⟨ha, tlq l v⟩ := a.setT lb 1 (.bool v)
end
theorem lSet (w : World) (lo b g : Nat) (x : Pl.Iq) (v : Int) (ha : Bool) (hC : CAt w lo b g (Pl.Mc.ofC x.c) ⟨ha, tlq x.l x.e⟩) (lb : x.c.bx.length = 512) :
    Calls Try.prog 42 #[.pointer (some ⟨b, 0, none⟩), iv v] w fun r w' => r = .returned (.tuple #[]) ∧ CAt w' lo b g (Pl.Mc.ofC x.c) ⟨ha, tlq (Pl.iqSet x v).l (Pl.iqSet x v).e⟩ ∧ Kept b (b + 1) w w' := by
  have HC := hide hC
  have q0 := hC.cL lb
  have q1 := hC.cE lb
  have fz := hC.fz
  have LB := hide lb
  clear hC lb
  by_cases h7 : v = 7
  · by_cases hl : x.l = 7
    · have E : Hid ((Pl.iqSet x v).l = v ∧ (Pl.iqSet x v).e = x.e) := hide ⟨rfl, by unfold Pl.iqSet; simp [hl]⟩
      go_enter Try.func42, Try.ntmps42
      go_wp2_with fail
      go_end0
      exact ⟨rfl, by rw [E.out.1, E.out.2]; subst h7; exact HC.out.setL LB.out _, kept_one _ _ _ _⟩
    · have E : Hid ((Pl.iqSet x v).l = v ∧ (Pl.iqSet x v).e = true) := hide ⟨rfl, by unfold Pl.iqSet; simp [hl, h7]⟩
      go_enter Try.func42, Try.ntmps42
      go_wp2_with fail
      go_end0
      exact ⟨rfl, by rw [E.out.1, E.out.2]; subst h7; exact (HC.out.setE LB.out true).setL LB.out _, (kept_one _ _ _ _).one _ _⟩
  · have E : Hid ((Pl.iqSet x v).l = v ∧ (Pl.iqSet x v).e = x.e) := hide ⟨rfl, by unfold Pl.iqSet; simp [h7]⟩
    go_enter Try.func42, Try.ntmps42
    go_wp2_with fail
    go_end0
    exact ⟨rfl, by rw [E.out.1, E.out.2]; exact HC.out.setL LB.out _, kept_one _ _ _ _⟩
theorem CAt.le2 {w : World} {lo b g : Nat} {x : Pl.Iq} {ha : Bool} (a : CAt w lo b g (Pl.Mc.ofC x.c) ⟨ha, tlq x.l x.e⟩) (lb : x.c.bx.length = 512) : w.cell? ⟨b, 529, none⟩ = some (iv x.l) ∧ w.cell? ⟨b, 530, none⟩ = some (.bool x.e) := ⟨a.cL lb, a.cE lb⟩
set_option maxRecDepth 100000 in
set_option maxHeartbeats 4000000 in
theorem lIrq (w : World) (lo b g : Nat) (x : Pl.Iq) (hC : CAt w lo b g (Pl.Mc.ofC x.c) ⟨x.c.ha, tlq x.l x.e⟩) (G : Pl.GM (Pl.Mc.ofC x.c)) :
    Calls Try.prog 32 #[.pointer (some ⟨b, 0, none⟩)] w fun r w' => ∃ (a' b' e' q' : Option Addr) (ca' cb' ce' cq' : Nat), r = .returned (.agg (irA x a' b' e' q' ca' cb' ce' cq')) ∧ CpuIn w' lo x.c a' b' e' q' ∧ Kept 0 0 w w' ∧ (∀ z, blk a' = some z ∨ blk b' = some z ∨ blk e' = some z ∨ blk q' = some z → z = g ∨ w.heap.size ≤ z) := by
  obtain ⟨l0, l1, l2, l3, l4⟩ := hC.lt
  have K0 := hide (kept_alloc w (.cells iqZ 38))
  have R0 := hide (Blk.new w iqZ 38)
  have C0 := hide (hC.alloc (.cells iqZ 38))
  have HG := hide G
  have LB : Hid (x.c.bx.length = 512) := hide G.bx
  clear hC G
  obtain ⟨X, hX⟩ : ∃ X : World, w.alloc (.cells iqZ 38) = X := ⟨_, rfl⟩
  rw [hX] at K0 R0 C0
  have sX : w.heap.size < X.heap.size := R0.out.lt
  obtain ⟨i0, i1⟩ := C0.out.le2 LB.out
  go_enter Try.func32, Try.ntmps32
  go_wp2_with fail
  clear hX
  go_region_held3 (fun w' => w'.cell? ⟨b, 529, none⟩ = some (iv x.l) ∧ w'.cell? ⟨b, 530, none⟩ = some (.bool x.e)) (first | with_reducible exact C4.out.le2 LB.out | with_reducible exact C0.out.drew.le2 LB.out | exact (C4.out.kept kept14i (by omega) (by omega)).le2 LB.out)
    (first | (go_at_call 56; refine (cCpuN _ lo b g (Pl.Mc.ofC x.c) ⟨x.c.ha, tlq x.l x.e⟩ C0.out.drew HG.out).mono ?_; rw [show (Pl.Mc.ofC x.c).cpu (Hl.mk x.c.ha (tlq x.l x.e)).a = x.c from rfl]; rintro e9 w4 ⟨a', b', e', q', ca', cb', ce', cq', rfl, hi4, kd, hn4⟩; unfold cpuV; have k4 := undrewK kd; have C4 := hide (C0.out.any k4); have R4 := hide (R0.out.kept0 k4); have p := R4.out.all; have pf := R4.out.fz; have I4 := hide hi4; have N4 := hide hn4; have K4 := hide k4; clear kd k4 hi4 hn4))
  go_wp2_with fail
  have s4 := K4.out.size
  refine bodyPost_ret (v := .agg (irA x a' b' e' q' ca' cb' ce' cq')) ?_ rfl ⟨a', b', e', q', ca', cb', ce', cq', rfl, ?_, kept_over (K0.out.trans K4.out) kept14i (Nat.le_refl _), fun z hz => ?_⟩
  · rw [results_one rfl]; go_simp
  · refine I4.out.pst kept14i (fun z hz => ?_)
    have := N4.out z hz
    have h9 : X.drew.heap.size = X.heap.size := rfl
    omega
  · have := N4.out z hz
    have h9 : X.drew.heap.size = X.heap.size := rfl
    omega
end Go.Proofs.Ytndhiaommphegaa

namespace Go.Proofs.Ytndhiaommphegaa
open Go.RowKit
set_option linter.unusedVariables false
set_option maxHeartbeats 1000000 in
theorem implGoodCpu (w : World) (c : Pl.Cp) (a b e q : Option Addr) (ca cb ce cq : Nat) (ha : Came w a c.r.xs) (hb : Came w b c.r.ys) (he : Came w e c.bx) (hq : Came w q c.bl) (lx : c.r.xs.length ≤ 2000000) (ly : c.r.ys.length ≤ 2000000) (lb : c.bx.length ≤ 2000000) (ll : c.bl.length = 5 * c.bm) (lm : c.bm ≤ 2000000) (wf : Pl.WfR c.r) :
    Calls Try.prog 30 #[.agg #[.slice a c.r.xs.length ca, .slice b c.r.ys.length cb, iv c.r.o, iv c.r.p, iv c.r.f, iv c.r.m, .bool c.r.s, .bool c.r.t, .slice e c.bx.length ce, .slice q c.bm cq, .bool c.st, .bool c.ha]] w fun r w' => r = .returned (.bool (Pl.cpOk c)) ∧ Kept 0 0 w w' := by
  have K0 := hide (kept_alloc w (.cells #[.slice a c.r.xs.length ca, .slice b c.r.ys.length cb, iv c.r.o, iv c.r.p, iv c.r.f, iv c.r.m, .bool c.r.s, .bool c.r.t, .slice e c.bx.length ce, .slice q c.bm cq, .bool c.st, .bool c.ha] 36))
  have HBA := hide (Blk.new w #[.slice a c.r.xs.length ca, .slice b c.r.ys.length cb, iv c.r.o, iv c.r.p, iv c.r.f, iv c.r.m, .bool c.r.s, .bool c.r.t, .slice e c.bx.length ce, .slice q c.bm cq, .bool c.st, .bool c.ha] 36)
  obtain ⟨X, hX⟩ : ∃ X : World, w.alloc (.cells #[.slice a c.r.xs.length ca, .slice b c.r.ys.length cb, iv c.r.o, iv c.r.p, iv c.r.f, iv c.r.m, .bool c.r.s, .bool c.r.t, .slice e c.bx.length ce, .slice q c.bm cq, .bool c.st, .bool c.ha] 36) = X := ⟨_, rfl⟩
  rw [hX] at K0 HBA
  have HA := hide (ha.keptS K0.out)
  have HB := hide (hb.keptS K0.out)
  have HE := hide (he.keptS K0.out)
  have HQ := hide (hq.keptS K0.out)
  clear ha hb he hq
  have p := HBA.out.all
  cases h1 : Pl.rgOk c.r
  · go_enter Try.func30, Try.ntmps30
    go_wp2_with (go_at_call 53; refine (implGoodRegs _ c.r a b ca cb HA.out HB.out lx ly wf).mono ?_; rintro e9 W ⟨rfl, k9⟩; rw [h1]; have HK1 := hide k9; have HB1 := hide (HBA.out.kept0 k9); have HE1 := hide (HE.out.keptS k9); have HQ1 := hide (HQ.out.keptS k9); clear k9 p; have p := HB1.out.all)
    go_ret
    exact ⟨rB (by unfold Pl.cpOk; simp [h1]), K0.out.trans HK1.out⟩
  · cases h2 : Pl.goodBus c.bx c.bl c.bm
    · go_enter Try.func30, Try.ntmps30
      go_wp2_with (first | (go_at_call 54; have z9 := HB1; refine (goodBus _ e q ce cq c.bm c.bx c.bl HE1.out HQ1.out lb ll lm).mono ?_; rintro e9 W2 ⟨rfl, k9⟩; rw [h2]; have HK2 := hide k9; have HB2 := hide (HB1.out.kept0 k9); clear k9 p; have p := HB2.out.all) | (go_at_call 53; refine (implGoodRegs _ c.r a b ca cb HA.out HB.out lx ly wf).mono ?_; rintro e9 W ⟨rfl, k9⟩; rw [h1]; have HK1 := hide k9; have HB1 := hide (HBA.out.kept0 k9); have HE1 := hide (HE.out.keptS k9); have HQ1 := hide (HQ.out.keptS k9); clear k9 p; have p := HB1.out.all))
      go_ret
      exact ⟨rB (by unfold Pl.cpOk; simp [h1, h2]), (K0.out.trans HK1.out).trans HK2.out⟩
    · rcases Bool.eq_false_or_eq_true c.st with h3 | h3
      all_goals
        have H3 := hide h3
        clear h3
        go_enter Try.func30, Try.ntmps30
        go_wp2_with (first | (go_at_call 54; have z9 := HB1; refine (goodBus _ e q ce cq c.bm c.bx c.bl HE1.out HQ1.out lb ll lm).mono ?_; rintro e9 W2 ⟨rfl, k9⟩; rw [h2]; have HK2 := hide k9; have HB2 := hide (HB1.out.kept0 k9); clear k9 p; have p := HB2.out.all; rw [H3.out] at p) | (go_at_call 53; refine (implGoodRegs _ c.r a b ca cb HA.out HB.out lx ly wf).mono ?_; rintro e9 W ⟨rfl, k9⟩; rw [h1]; have HK1 := hide k9; have HB1 := hide (HBA.out.kept0 k9); have HE1 := hide (HE.out.keptS k9); have HQ1 := hide (HQ.out.keptS k9); clear k9 p; have p := HB1.out.all))
        go_ret
        exact ⟨rB (by unfold Pl.cpOk; simp [h1, h2, H3.out]), (K0.out.trans HK1.out).trans HK2.out⟩
end Go.Proofs.Ytndhiaommphegaa

