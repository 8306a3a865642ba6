/- What the laws' own functions over a processor with its line answer. -/
import Derived.Test.YtndhiaommphegaaJO2
import Derived.Test.YtndhiaommphegaaJO6
namespace Go.Proofs.Ytndhiaommphegaa
open Go.RowKit
set_option linter.unusedVariables false
section
variable (w : World) (x : Pl.Iq) (a b e q : Option Addr) (ca cb ce cq : Nat)
theorem szIrq (left : Int) (lx : x.c.r.xs.length ≤ 9223372036854775807) (ly : x.c.r.ys.length ≤ 9223372036854775807) (lb : x.c.bx.length ≤ 9223372036854775807) (lm : x.c.bm ≤ 9223372036854775807) (l0 : 0 ≤ left) (l1 : left ≤ 2000000) :
    Calls Try.prog 16 #[.agg (irA x a b e q ca cb ce cq), iv left] w fun r w' => (∃ v, r = .returned (iv v) ∧ (v < 0 ↔ szC x.c.r.xs.length x.c.r.ys.length x.c.bx.length x.c.bm left < 0)) ∧ Kept 0 0 w w' := by
  have K0 := hide (kept_alloc w (.cells (irA x a b e q ca cb ce cq) 48))
  have p := (Blk.new w (irA x a b e q ca cb ce cq) 48).all
  by_cases h : szC x.c.r.xs.length x.c.r.ys.length x.c.bx.length x.c.bm left < 0
  · have HH := hide h
    go_enter Try.func16, Try.ntmps16
    go_wp2_with (go_at_call 7; refine (szCpu _ x.c a b e q ca cb ce cq left lx ly lb lm l0 l1).mono ?_; rintro e9 W1 ⟨rfl, k⟩; have K1 := hide (K0.out.trans k); clear k)
    go_ret
    exact ⟨⟨-1, rfl, by simp [HH.out]⟩, K1.out⟩
  · have HH := hide h
    obtain ⟨N, hN⟩ : ∃ N, N = szC x.c.r.xs.length x.c.r.ys.length x.c.bx.length x.c.bm left := ⟨_, rfl⟩
    have HN := hide hN
    rw [← hN] at h
    clear hN
    go_enter Try.func16, Try.ntmps16
    go_wp2_with (go_at_call 7; refine (szCpu _ x.c a b e q ca cb ce cq left lx ly lb lm l0 l1).mono ?_; rw [← HN.out]; rintro e9 W1 ⟨rfl, k⟩; have K1 := hide (K0.out.trans k); clear k)
    go_ret
    exact ⟨⟨N, rfl, by rw [HN.out]⟩, K1.out⟩
variable (lx : x.c.r.xs.length ≤ 2000000) (ly : x.c.r.ys.length ≤ 2000000) (lb : x.c.bx.length ≤ 2000000) (ll : x.c.bl.length = 5 * x.c.bm) (lm : x.c.bm ≤ 2000000)
set_option maxRecDepth 100000 in
set_option maxHeartbeats 4000000 in
theorem toIrq (ha : IRow w a x.c.r.xs) (hb : IRow w b x.c.r.ys) (he : IRow w e x.c.bx) (hq : IRow w q x.c.bl) (lx : x.c.r.xs.length ≤ 2000000) (ly : x.c.r.ys.length ≤ 2000000) (lb : x.c.bx.length ≤ 2000000) (ll : x.c.bl.length = 5 * x.c.bm) (lm : x.c.bm ≤ 2000000) :
    Calls Try.prog 18 #[.agg (irA x a b e q ca cb ce cq)] w fun r w' => ∃ g1 g2 g3 g4 : Nat, r = .returned (.agg (irA x (some ⟨g1, 0, none⟩) (some ⟨g2, 0, none⟩) (some ⟨g3, 0, none⟩) (some ⟨g4, 0, none⟩) x.c.r.xs.length x.c.r.ys.length x.c.bx.length x.c.bm)) ∧ CpSl w' w.heap.size w'.heap.size x.c (some ⟨g1, 0, none⟩) (some ⟨g2, 0, none⟩) (some ⟨g3, 0, none⟩) (some ⟨g4, 0, none⟩) ∧ Kept 0 0 w w' := by
  have K0 := hide (kept_new (kept_new (kept_alloc w (.cells (irA x a b e q ca cb ce cq) 48)) (.cells iqZ 38)) (.cells iqZ 38))
  have BA := hide (((Blk.new w (irA x a b e q ca cb ce cq) 48).alloc (.cells iqZ 38)).alloc (.cells iqZ 38))
  have R0 := (Blk.new (w.alloc (.cells (irA x a b e q ca cb ce cq) 48)) iqZ 38).alloc (.cells iqZ 38)
  have Q0 := Blk.new ((w.alloc (.cells (irA x a b e q ca cb ce cq) 48)).alloc (.cells iqZ 38)) iqZ 38
  simp only [World.size_alloc] at R0 Q0
  replace R0 := hide R0
  replace Q0 := hide Q0
  obtain ⟨X, hX⟩ : ∃ X : World, ((w.alloc (.cells (irA x a b e q ca cb ce cq) 48)).alloc (.cells iqZ 38)).alloc (.cells iqZ 38) = X := ⟨_, rfl⟩
  rw [hX] at K0 BA R0 Q0
  have sX : w.heap.size + 1 + 1 < X.heap.size := Q0.out.lt
  have HA := hide (ha.keptS K0.out)
  have HB := hide (hb.keptS K0.out)
  have HE := hide (he.keptS K0.out)
  have HQ := hide (hq.keptS K0.out)
  clear ha hb he hq
  have p := BA.out.all
  go_enter Try.func18, Try.ntmps18
  go_wp2_with (go_at_call 9; refine (toCpu _ x.c a b e q ca cb ce cq HA.out HB.out HE.out HQ.out lx ly lb ll lm).mono ?_; rintro e9 W1 ⟨g1, g2, g3, g4, rfl, hs, k⟩; have S1 := hide hs; have K1 := hide k; have p1 := (BA.out.kept0 k).all; have r1 := (R0.out.kept0 k).all; have rf := (R0.out.kept0 k).fz; have q1 := (Q0.out.kept0 k).all; have qf := (Q0.out.kept0 k).fz; clear hs k p)
  have s1 := K1.out.size
  refine bodyPost_ret (v := .agg (irA x (some ⟨g1, 0, none⟩) (some ⟨g2, 0, none⟩) (some ⟨g3, 0, none⟩) (some ⟨g4, 0, none⟩) x.c.r.xs.length x.c.r.ys.length x.c.bx.length x.c.bm)) ?_ rfl ⟨g1, g2, g3, g4, rfl, ?_, kept_over (kept_over (kept_over (K0.out.trans K1.out) kept12i (by omega)) ((kept_one _ (w.heap.size + 1 + 1) 12 _).one 13 _) (by omega)) kept14i (by omega)⟩
  · rw [results_one rfl]; go_simp
  · exact ((S1.out.mv kept12i (by omega) (Nat.le_refl _)).mv ((kept_one _ (w.heap.size + 1 + 1) 12 _).one 13 _) (by omega) (Nat.le_refl _)).mv kept14i (by omega) (by omega)
theorem eqIrq (a2 b2 e2 q2 : Option Addr) (ca2 cb2 ce2 cq2 : Nat) (ha : IRow w a x.c.r.xs) (hb : IRow w b x.c.r.ys) (he : IRow w e x.c.bx) (hq : IRow w q x.c.bl) (ha2 : IRow w a2 x.c.r.xs) (hb2 : IRow w b2 x.c.r.ys) (he2 : IRow w e2 x.c.bx) (hq2 : IRow w q2 x.c.bl) (lx : x.c.r.xs.length ≤ 2000000) (ly : x.c.r.ys.length ≤ 2000000) (lb : x.c.bx.length ≤ 2000000) (ll : x.c.bl.length = 5 * x.c.bm) (lm : x.c.bm ≤ 2000000) :
    Calls Try.prog 11 #[.agg (irA x a b e q ca cb ce cq), .agg (irA x a2 b2 e2 q2 ca2 cb2 ce2 cq2)] w fun r w' => r = .returned (.bool true) ∧ Kept 0 0 w w' := by
  have K0 := hide (kept_new (kept_alloc w (.cells (irA x a b e q ca cb ce cq) 38)) (.cells (irA x a2 b2 e2 q2 ca2 cb2 ce2 cq2) 38))
  have BA := hide ((Blk.new w (irA x a b e q ca cb ce cq) 38).alloc (.cells (irA x a2 b2 e2 q2 ca2 cb2 ce2 cq2) 38))
  have BB := Blk.new (w.alloc (.cells (irA x a b e q ca cb ce cq) 38)) (irA x a2 b2 e2 q2 ca2 cb2 ce2 cq2) 38
  simp only [World.size_alloc] at BB
  replace BB := hide BB
  obtain ⟨X, hX⟩ : ∃ X : World, (w.alloc (.cells (irA x a b e q ca cb ce cq) 38)).alloc (.cells (irA x a2 b2 e2 q2 ca2 cb2 ce2 cq2) 38) = X := ⟨_, rfl⟩
  rw [hX] at K0 BA BB
  have HR := fun (W : World) (k : Kept 0 0 w W) => eqCpu W x.c a b e q a2 b2 e2 q2 ca cb ce cq ca2 cb2 ce2 cq2 (ha.keptS k) (hb.keptS k) (he.keptS k) (hq.keptS k) (ha2.keptS k) (hb2.keptS k) (he2.keptS k) (hq2.keptS k) lx ly lb ll lm
  clear ha hb he hq ha2 hb2 he2 hq2
  have p := BA.out.all
  have r := BB.out.all
  go_enter Try.func11, Try.ntmps11
  go_wp2_with (go_at_call 12; refine (HR _ K0.out).mono ?_; rintro e9 W1 ⟨rfl, k⟩; have K1 := hide (K0.out.trans k); have p1 := (BA.out.kept0 k).all; have r1 := (BB.out.kept0 k).all; clear k p r)
  go_ret
  exact ⟨rfl, K1.out⟩
end
end Go.Proofs.Ytndhiaommphegaa

