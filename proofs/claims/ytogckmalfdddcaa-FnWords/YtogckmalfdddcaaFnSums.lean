/- The law on sums: of whatever bytes, its Go function returns true, and no block that was there has turned. -/
import Derived.Test.YtogckmalfdddcaaDraws
import Derived.Test.YtogckmalfdddcaaSumlaw
namespace Go.Proofs.Ytogckmalfdddcaa
open Go.RowKit
set_option linter.unusedVariables false

theorem topOf (s : Int) (w : World) :
    Calls Try.prog 19 #[.int .i64 s] w fun e w' => e = .returned (.int .i64 (Pl.top s)) ∧ w' = w := by
  by_cases h1 : s = 1
  · subst h1
    go_enter Try.func19, Try.ntmps19
    go_wp2
    go_ret
    exact ⟨rfl, rfl⟩
  · have k1 : (s == 1) = false := by simpa using h1
    go_enter Try.func19, Try.ntmps19
    go_wp2
    go_ret
    exact ⟨rI (by simp [Pl.top, h1]), rfl⟩

theorem Bytes.kept {w w' : World} {a : Option Addr} {len : Nat} (h : Bytes w a len) (hb : Below w.heap.size w w') : Bytes w' a len := by
  refine ⟨h.1, fun i hi => ?_⟩
  obtain ⟨g, off, z, ea, hc, z0, z1⟩ := h.2 i hi
  exact ⟨g, off, z, ea, by rw [hb.cell (World.block_lt_of_cell? _ _ hc)]; exact hc, z0, z1⟩

set_option maxRecDepth 100000 in
set_option maxHeartbeats 1000000 in
theorem lawSums (a0 a1 : Option Addr) (len0 cap0 len1 cap1 : Nat) (w : World) (h0 : Bytes w a0 len0) (h1 : Bytes w a1 len1) :
    Calls Try.prog 3 #[.slice a0 len0 cap0, .slice a1 len1 cap1] w fun e w' => e = .returned (.bool true) ∧ Below w.heap.size w w' := by
  have l0 := h0.1
  have l1 := h1.1
  unfold maxLen at l0 l1
  by_cases hbig : 1048576 < wrap64 ((len0 : Int) + (len1 : Int))
  · go_enter Try.func3, Try.ntmps3
    go_wp2_with fail
    go_ret
    exact ⟨rfl, Below.refl _ _⟩
  · go_enter Try.func3, Try.ntmps3
    go_wp2_with fail
    refine (drawAddFlags _ a0 len0 cap0 h0).mono ?_
    rintro e w1 ⟨s, x, a, b, rfl, x0, x1, ha0, ha1, hb0, hb1, hw1⟩
    clear hbig
    go_wp2_with fail
    refine (addFlags s x a b _ (by omega) (by omega) (by omega) (by omega)).mono ?_
    rintro e w' ⟨rfl, rfl⟩
    go_wp2_with fail
    refine (specAddFlags s x a b _).mono ?_
    rintro e w' ⟨rfl, rfl⟩
    go_wp2_with fail
    refine (subFlags s x a b _ (by omega) (by omega) (by omega) (by omega)).mono ?_
    rintro e w' ⟨rfl, rfl⟩
    go_wp2_with fail
    refine (specSubFlags s x a b _).mono ?_
    rintro e w' ⟨rfl, rfl⟩
    cases k : Pl.two s x a b
    · go_wp2_with fail
      refine (drawNegFlags _ a1 len1 cap1 (h1.kept hw1)).mono ?_
      rintro e w2 ⟨c, d, rfl, d0, d1, hw2⟩
      have hb2 : Below w.heap.size w w2 := hw1.trans (hw2.mono hw1.size)
      clear hw2
      go_wp2_with fail
      refine (negFlags c d _ (by omega) (by omega)).mono ?_
      rintro e w' ⟨rfl, rfl⟩
      go_wp2_with fail
      refine (specNegFlags c d _).mono ?_
      rintro e w' ⟨rfl, rfl⟩
      cases kn : Pl.two c 0 0 d
      · go_wp2_with fail
        go_ret
        exact ⟨rfl, hb2⟩
      · obtain ⟨nm, n0⟩ := Pl.neg_m kn
        obtain ⟨t0, t1⟩ := Pl.top_bd (Pl.two_ok kn).1
        have n1 : Pl.subV c 0 0 d < Pl.top c := by have := Pl.top_ok (Pl.subV_ok kn); omega
        go_wp2_with fail
        refine (topOf c _).mono ?_
        rintro e w' ⟨rfl, rfl⟩
        go_wp2_with fail
        go_ret
        exact ⟨rfl, hb2⟩
    · obtain ⟨ka, kb, kx⟩ := Pl.two_ok k
      obtain ⟨t0, t1⟩ := Pl.top_bd ka
      obtain ⟨_, a2, a3⟩ := Pl.top_ok ka
      obtain ⟨_, b2, b3⟩ := Pl.top_ok kb
      have kA := Pl.addV_ok k
      have kD := Pl.subV_ok k
      obtain ⟨_, A0, A1⟩ := Pl.top_ok kA
      obtain ⟨_, D0, D1⟩ := Pl.top_ok kD
      obtain ⟨i0, i1⟩ := Pl.sgnV_bd ka
      obtain ⟨j0, j1⟩ := Pl.sgnV_bd kb
      have m1 := Pl.sum_c k
      have m2 := Pl.dif_c k
      have m3 := Pl.sum_v k
      have m4 := Pl.dif_v k
      have m5 := Pl.sum_n k
      have m6 := Pl.sum_z k
      have m7 := Pl.sum_x k
      obtain ⟨m8, n8⟩ := Pl.sum_m k
      obtain ⟨m9, n9⟩ := Pl.dif_m k
      have k2 := Pl.back_two k
      have m10 := Pl.back_is k
      obtain ⟨f0, f1⟩ := Pl.addF_bd s x a b
      go_wp2_with fail
      refine (topOf s _).mono ?_
      rintro e w' ⟨rfl, rfl⟩
      go_wp2_with fail
      refine (signedOf s a _ (by omega) (by omega)).mono ?_
      rintro e w' ⟨rfl, rfl⟩
      go_wp2_with fail
      refine (signedOf s b _ (by omega) (by omega)).mono ?_
      rintro e w' ⟨rfl, rfl⟩
      go_wp2_with fail
      refine (signedOf s (Pl.addV s x a b) _ (by omega) (by omega)).mono ?_
      rintro e w' ⟨rfl, rfl⟩
      go_wp2_with fail
      refine (signedOf s (Pl.subV s x a b) _ (by omega) (by omega)).mono ?_
      rintro e w' ⟨rfl, rfl⟩
      go_wp2_with fail
      refine (subFlags s x (Pl.addV s x a b) b _ (by omega) (by omega) (by omega) (by omega)).mono ?_
      rintro e w' ⟨rfl, rfl⟩
      go_wp2_with fail
      refine (drawNegFlags _ a1 len1 cap1 (h1.kept hw1)).mono ?_
      rintro e w2 ⟨c, d, rfl, d0, d1, hw2⟩
      have hb2 : Below w.heap.size w w2 := hw1.trans (hw2.mono hw1.size)
      clear hw2
      go_wp2_with fail
      refine (negFlags c d _ (by omega) (by omega)).mono ?_
      rintro e w' ⟨rfl, rfl⟩
      go_wp2_with fail
      refine (specNegFlags c d _).mono ?_
      rintro e w' ⟨rfl, rfl⟩
      cases kn : Pl.two c 0 0 d
      · go_wp2_with fail
        go_ret
        exact ⟨rfl, hb2⟩
      · obtain ⟨nm, n0⟩ := Pl.neg_m kn
        obtain ⟨t0, t1⟩ := Pl.top_bd (Pl.two_ok kn).1
        have n1 : Pl.subV c 0 0 d < Pl.top c := by have := Pl.top_ok (Pl.subV_ok kn); omega
        go_wp2_with fail
        refine (topOf c _).mono ?_
        rintro e w' ⟨rfl, rfl⟩
        go_wp2_with fail
        go_ret
        exact ⟨rfl, hb2⟩

end Go.Proofs.Ytogckmalfdddcaa
