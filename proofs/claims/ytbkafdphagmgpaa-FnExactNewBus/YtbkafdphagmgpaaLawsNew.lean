/- The law on NewBus: of whatever two lists, its Go function returns true, and no block that was there has turned. -/
import Derived.Test.YtbkafdphagmgpaaLawsBus
import Derived.Test.YtbkafdphagmgpaaImplNew
namespace Go.Proofs.Ytbkafdphagmgpaa
open Go.RowKit
set_option linter.unusedVariables false

theorem Pl.newB_len (xs us : List Int) : (Pl.newB xs us).length ≤ 512 := by
  unfold Pl.newB; split <;> simp
theorem noRow (w : World) : IRow w none [] := fun i hi => absurd hi (Nat.not_lt_zero i)
theorem SlotIn.keptK {w w' : World} {l h : Nat} {a : Option Addr} {xs : List Int} (s : SlotIn w l h a xs) (k : Kept 0 0 w w') : SlotIn w' l h a xs := s.kept k (by omega)

set_option maxRecDepth 100000 in
set_option maxHeartbeats 8000000 in
theorem lawNewBus (a c : Option Addr) (ca cc : Nat) (xs us : List Int) (w : World) (hx : Came w a xs) (hu : Came w c us) (lx : xs.length ≤ 9223372036854775807) (lu : us.length ≤ 9223372036854775807) :
    Calls Try.prog 3 #[.slice a xs.length ca, .slice c us.length cc] w fun e w' => e = .returned (.bool true) ∧ Below w.heap.size w w' := by
  by_cases h1 : 1048576 < xs.length
  · go_enter Try.func3, Try.ntmps3
    go_wp2_with fail
    go_ret
    exact ⟨rfl, Below.refl _ _⟩
  · by_cases h2 : 1048576 < us.length
    · go_enter Try.func3, Try.ntmps3
      go_wp2_with fail
      go_ret
      exact ⟨rfl, Below.refl _ _⟩
    · have HX := hide hx
      have HU := hide hu
      have hN := Pl.newB_len xs us
      have nB := Pl.newB_len xs us
      have d1 : decide ((1048576 : Int) < (xs.length : Int)) = false := by simp; omega
      have d2 : decide ((1048576 : Int) < (us.length : Int)) = false := by simp; omega
      have bx : xs.length ≤ 2000000 := by omega
      have bu : us.length ≤ 2000000 := by omega
      clear hx hu hN h1 h2
      go_enter Try.func3, Try.ntmps3
      go_wp2_with fail
      -- the model's call
      refine (toIntS _ a ca xs HX.out.1 bx).mono ?_
      rintro e w1 ⟨rfl, o1, z1, g1⟩
      have k1 := kept_grown g1
      have HK1 := hide k1
      have HO1 := hide o1
      clear o1 g1 k1 d1 d2
      go_wp2_with fail
      refine (toIntS _ c cc us (HU.out.keptS HK1.out).1 bu).mono ?_
      rintro e w2 ⟨rfl, o2, z2, g2⟩
      have k2 := kept_grown g2
      have HK2 := hide (HK1.out.trans k2)
      have HP1 := hide (HO1.out.keptS k2 (by omega))
      have HO2 := hide o2
      clear o2 g2 k2 HO1 HK1
      go_wp2_with fail
      refine (specNewBus _ _ _ _ _ xs us HP1.out.row HO2.out.row bx bu).mono ?_
      rintro e w3 ⟨d0, e0, rfl, s3, k3⟩
      have Bel := hide HK2.out.below
      clear HP1 HO2 HK2
      have Beln := hide (below_kept Bel.out k3 (by omega))
      clear Bel
      have Bel := Beln
      clear Beln
      have n3 := k3.size
      have S0 := hide s3
      clear k3 s3
      have ka := kept_alloc w3 (.cells #[.slice d0 (Pl.newB xs us).length e0, .slice none 0 0] 25)
      have Beln := hide (below_kept Bel.out ka (by omega))
      have S0n := hide (S0.out.kept ka (by omega))
      clear Bel S0
      have Bel := Beln
      have S0 := S0n
      clear Beln S0n
      have W0 := hide (Blk.new w3 #[.slice d0 (Pl.newB xs us).length e0, .slice none 0 0] 25)
      obtain ⟨X3, hX3⟩ : ∃ X : World, X = w3.alloc (.cells #[.slice d0 (Pl.newB xs us).length e0, .slice none 0 0] 25) := ⟨_, rfl⟩
      have nX3 : w3.heap.size < X3.heap.size := by rw [hX3]; simp
      rw [← hX3] at Bel S0 W0
      go_wp2_with fail
      rw [← hX3]
      clear ka hX3
      refine (toIntS _ a ca xs (HX.out.below Bel.out).1 bx).mono ?_
      rintro e w4 ⟨rfl, o, z4, g⟩
      have k := kept_grown g
      have Beln := hide (below_kept Bel.out k (by omega))
      have S0n := hide (S0.out.kept k (by omega))
      have W0n := hide (W0.out.kept k (by omega))
      clear Bel S0 W0
      have Bel := Beln
      have S0 := S0n
      have W0 := W0n
      clear Beln S0n W0n
      have O0 := hide o
      clear o g k
      go_wp2_with fail
      refine (toIntS _ c cc us (HU.out.below Bel.out).1 bu).mono ?_
      rintro e w5 ⟨rfl, o, z5, g⟩
      have k := kept_grown g
      have Beln := hide (below_kept Bel.out k (by omega))
      have S0n := hide (S0.out.kept k (by omega))
      have W0n := hide (W0.out.kept k (by omega))
      have O0n := hide (O0.out.keptS k (by omega))
      clear Bel S0 W0 O0
      have Bel := Beln
      have S0 := S0n
      have W0 := W0n
      have O0 := O0n
      clear Beln S0n W0n O0n
      have O1 := hide o
      clear o g k
      go_wp2_with fail
      refine (newBus _ _ _ _ _ xs us (O0.out.came HX.out.2) (O1.out.came HU.out.2) bx bu).mono ?_
      rintro e w6 ⟨d1, e1, rfl, s6, k6⟩
      have Beln := hide (below_kept Bel.out k6 (by omega))
      have S0n := hide (S0.out.kept k6 (by omega))
      have W0n := hide (W0.out.kept k6 (by omega))
      have O0n := hide (O0.out.keptS k6 (by omega))
      have O1n := hide (O1.out.keptS k6 (by omega))
      clear Bel S0 W0 O0 O1
      have Bel := Beln
      have S0 := S0n
      have W0 := W0n
      have O0 := O0n
      have O1 := O1n
      clear Beln S0n W0n O0n O1n
      have n6 := k6.size
      have S1 := hide s6
      clear k6 s6
      have ka := kept_alloc w6 (.cells #[.slice d1 (Pl.newB xs us).length e1, .slice none 0 0] 25)
      have Beln := hide (below_kept Bel.out ka (by omega))
      have S0n := hide (S0.out.kept ka (by omega))
      have W0n := hide (W0.out.kept ka (by omega))
      have O0n := hide (O0.out.keptS ka (by omega))
      have O1n := hide (O1.out.keptS ka (by omega))
      have S1n := hide (S1.out.kept ka (by omega))
      clear Bel S0 W0 O0 O1 S1
      have Bel := Beln
      have S0 := S0n
      have W0 := W0n
      have O0 := O0n
      have O1 := O1n
      have S1 := S1n
      clear Beln S0n W0n O0n O1n S1n
      have W1 := hide (Blk.new w6 #[.slice d1 (Pl.newB xs us).length e1, .slice none 0 0] 25)
      obtain ⟨X6, hX6⟩ : ∃ X : World, X = w6.alloc (.cells #[.slice d1 (Pl.newB xs us).length e1, .slice none 0 0] 25) := ⟨_, rfl⟩
      have nX6 : w6.heap.size < X6.heap.size := by rw [hX6]; simp
      rw [← hX6] at Bel S0 W0 O0 O1 S1 W1
      have p0 := W0.out.cell (i := 0) rfl
      have p1 := W0.out.cell (i := 1) rfl
      have q0 := W1.out.cell (i := 0) rfl
      have q1 := W1.out.cell (i := 1) rfl
      rw [hX6] at p0 p1 q0 q1
      have lt36 : w3.heap.size < w6.heap.size := by omega
      have p2 : w6.cell? ⟨w3.heap.size, 0, none⟩ = some (.slice d0 (Pl.newB xs us).length e0) := (World.cell?_alloc_lt _ _ _ lt36).symm.trans p0
      have p3 : w6.cell? ⟨w3.heap.size, 1, none⟩ = some (.slice none 0 0) := (World.cell?_alloc_lt _ _ _ lt36).symm.trans p1
      go_wp2_with fail
      rw [← hX6]
      clear ka hX6
      clear p0 p1 p2 p3 q0 q1 lt36
      refine (eqBus _ d1 none d0 none _ _ _ _ 0 0 (Pl.newB xs us) [] (Pl.newB xs us) [] S1.out.row (noRow _) S0.out.row (noRow _) (by omega) (by omega) rfl rfl (by decide) (by decide)).mono ?_
      rintro e w7 ⟨rfl, k⟩
      have Beln := hide (below_kept Bel.out k (by omega))
      have S0n := hide (S0.out.kept k (by omega))
      have W0n := hide (W0.out.kept k (by omega))
      have O0n := hide (O0.out.keptS k (by omega))
      have O1n := hide (O1.out.keptS k (by omega))
      have S1n := hide (S1.out.kept k (by omega))
      have W1n := hide (W1.out.kept k (by omega))
      clear Bel S0 W0 O0 O1 S1 W1
      have Bel := Beln
      have S0 := S0n
      have W0 := W0n
      have O0 := O0n
      have O1 := O1n
      have S1 := S1n
      have W1 := W1n
      clear Beln S0n W0n O0n O1n S1n W1n
      have nw7 := k.size
      clear k
      go_wp2_with fail
      refine (toIntS _ a ca xs (HX.out.below Bel.out).1 bx).mono ?_
      rintro e w8 ⟨rfl, o, z8, g⟩
      have k := kept_grown g
      have Beln := hide (below_kept Bel.out k (by omega))
      have S0n := hide (S0.out.kept k (by omega))
      have W0n := hide (W0.out.kept k (by omega))
      have O0n := hide (O0.out.keptS k (by omega))
      have O1n := hide (O1.out.keptS k (by omega))
      have S1n := hide (S1.out.kept k (by omega))
      have W1n := hide (W1.out.kept k (by omega))
      clear Bel S0 W0 O0 O1 S1 W1
      have Bel := Beln
      have S0 := S0n
      have W0 := W0n
      have O0 := O0n
      have O1 := O1n
      have S1 := S1n
      have W1 := W1n
      clear Beln S0n W0n O0n O1n S1n W1n
      have O2 := hide o
      clear o g k
      go_wp2_with fail
      refine (eqIntS _ _ _ _ _ xs xs O0.out.row O2.out.row bx bx).mono ?_
      rintro e w9 ⟨rfl, g⟩
      have k := kept_grown g
      have Beln := hide (below_kept Bel.out k (by omega))
      have S0n := hide (S0.out.kept k (by omega))
      have W0n := hide (W0.out.kept k (by omega))
      have O0n := hide (O0.out.keptS k (by omega))
      have O1n := hide (O1.out.keptS k (by omega))
      have S1n := hide (S1.out.kept k (by omega))
      have W1n := hide (W1.out.kept k (by omega))
      have O2n := hide (O2.out.keptS k (by omega))
      clear Bel S0 W0 O0 O1 S1 W1 O2
      have Bel := Beln
      have S0 := S0n
      have W0 := W0n
      have O0 := O0n
      have O1 := O1n
      have S1 := S1n
      have W1 := W1n
      have O2 := O2n
      clear Beln S0n W0n O0n O1n S1n W1n O2n
      have nw9 := k.size
      clear k g
      clear O2
      go_wp2_with fail
      refine (toIntS _ c cc us (HU.out.below Bel.out).1 bu).mono ?_
      rintro e w10 ⟨rfl, o, z10, g⟩
      have k := kept_grown g
      have Beln := hide (below_kept Bel.out k (by omega))
      have S0n := hide (S0.out.kept k (by omega))
      have W0n := hide (W0.out.kept k (by omega))
      have O0n := hide (O0.out.keptS k (by omega))
      have O1n := hide (O1.out.keptS k (by omega))
      have S1n := hide (S1.out.kept k (by omega))
      have W1n := hide (W1.out.kept k (by omega))
      clear Bel S0 W0 O0 O1 S1 W1
      have Bel := Beln
      have S0 := S0n
      have W0 := W0n
      have O0 := O0n
      have O1 := O1n
      have S1 := S1n
      have W1 := W1n
      clear Beln S0n W0n O0n O1n S1n W1n
      have O3 := hide o
      clear o g k
      go_wp2_with fail
      refine (eqIntS _ _ _ _ _ us us O1.out.row O3.out.row bu bu).mono ?_
      rintro e w11 ⟨rfl, g⟩
      have k := kept_grown g
      have Beln := hide (below_kept Bel.out k (by omega))
      have S0n := hide (S0.out.kept k (by omega))
      have W0n := hide (W0.out.kept k (by omega))
      have O0n := hide (O0.out.keptS k (by omega))
      have O1n := hide (O1.out.keptS k (by omega))
      have S1n := hide (S1.out.kept k (by omega))
      have W1n := hide (W1.out.kept k (by omega))
      have O3n := hide (O3.out.keptS k (by omega))
      clear Bel S0 W0 O0 O1 S1 W1 O3
      have Bel := Beln
      have S0 := S0n
      have W0 := W0n
      have O0 := O0n
      have O1 := O1n
      have S1 := S1n
      have W1 := W1n
      have O3 := O3n
      clear Beln S0n W0n O0n O1n S1n W1n O3n
      have nw11 := k.size
      clear k g
      clear O3
      go_wp2_with fail
      refine (markIntS _ _ _ xs 1 O0.out bx (by omega) (by omega)).mono ?_
      rintro e w12 ⟨rfl, _, g⟩
      clear O0
      have k : Kept X3.heap.size (X3.heap.size + 1) _ w12 := kept_row g (by intro j hj; cases hj; omega)
      have Beln := hide (below_kept Bel.out k (by omega))
      have S0n := hide (S0.out.kept k (by omega))
      have W0n := hide (W0.out.kept k (by omega))
      have O1n := hide (O1.out.keptS k (by omega))
      have S1n := hide (S1.out.kept k (by omega))
      have W1n := hide (W1.out.kept k (by omega))
      clear Bel S0 W0 O1 S1 W1
      have Bel := Beln
      have S0 := S0n
      have W0 := W0n
      have O1 := O1n
      have S1 := S1n
      have W1 := W1n
      clear Beln S0n W0n O1n S1n W1n
      have nw12 := k.size
      clear k g
      go_wp2_with fail
      refine (markIntS _ _ _ us _ O1.out bu (by omega) (by omega)).mono ?_
      rintro e w13 ⟨rfl, _, g⟩
      clear O1
      have k : Kept w4.heap.size (w4.heap.size + 1) _ w13 := kept_row g (by intro j hj; cases hj; omega)
      have Beln := hide (below_kept Bel.out k (by omega))
      have S0n := hide (S0.out.kept k (by omega))
      have W0n := hide (W0.out.kept k (by omega))
      have S1n := hide (S1.out.kept k (by omega))
      have W1n := hide (W1.out.kept k (by omega))
      clear Bel S0 W0 S1 W1
      have Bel := Beln
      have S0 := S0n
      have W0 := W0n
      have S1 := S1n
      have W1 := W1n
      clear Beln S0n W0n S1n W1n
      have nw13 := k.size
      clear k g
      have p00 := W0.out.cell (i := 0) rfl
      have p01 := W0.out.cell (i := 1) rfl
      have p10 := W1.out.cell (i := 0) rfl
      have p11 := W1.out.cell (i := 1) rfl
      go_wp2_with fail
      clear p00 p01 p10 p11
      refine (eqBus _ d1 none d0 none _ _ _ _ 0 0 (Pl.newB xs us) [] (Pl.newB xs us) [] S1.out.row (noRow _) S0.out.row (noRow _) (by omega) (by omega) rfl rfl (by decide) (by decide)).mono ?_
      rintro e w14 ⟨rfl, k⟩
      have Beln := hide (below_kept Bel.out k (by omega))
      have S0n := hide (S0.out.kept k (by omega))
      have W0n := hide (W0.out.kept k (by omega))
      have S1n := hide (S1.out.kept k (by omega))
      have W1n := hide (W1.out.kept k (by omega))
      clear Bel S0 W0 S1 W1
      have Bel := Beln
      have S0 := S0n
      have W0 := W0n
      have S1 := S1n
      have W1 := W1n
      clear Beln S0n W0n S1n W1n
      have nw14 := k.size
      clear k
      have p00 := W1.out.cell (i := 0) rfl
      have p01 := W1.out.cell (i := 1) rfl
      go_wp2_with fail
      clear p00 p01
      refine (markBus _ w5.heap.size w6.heap.size d1 none _ _ 0 (Pl.newB xs us) [] 1 S1.out (.inl ⟨rfl, rfl⟩) (fun g _ => by simp [blk]) (by omega) (by omega) rfl (by decide) (by decide) (by decide)).mono ?_
      rintro e w15 ⟨rfl, sm, _, k⟩
      clear S1
      have Beln := hide (below_kept Bel.out k (by omega))
      have S0n := hide (S0.out.kept k (by omega))
      have W0n := hide (W0.out.kept k (by omega))
      have W1n := hide (W1.out.kept k (by omega))
      clear Bel S0 W0 W1
      have Bel := Beln
      have S0 := S0n
      have W0 := W0n
      have W1 := W1n
      clear Beln S0n W0n W1n
      have nw15 := k.size
      have M1 := hide sm
      clear k sm
      have p00 := W1.out.cell (i := 0) rfl
      have p01 := W1.out.cell (i := 1) rfl
      go_wp2_with fail
      clear p00 p01
      refine (heldBus _ d1 none _ _ (Pl.newB xs us).length 0 1 M1.out.row (noRow _) (by omega) (by decide) (by decide) (by decide)).mono ?_
      rintro e w16 ⟨rfl, k⟩
      have Beln := hide (below_kept Bel.out k (by omega))
      have S0n := hide (S0.out.kept k (by omega))
      have W0n := hide (W0.out.kept k (by omega))
      have W1n := hide (W1.out.kept k (by omega))
      have M1n := hide (M1.out.kept k (by omega))
      clear Bel S0 W0 W1 M1
      have Bel := Beln
      have S0 := S0n
      have W0 := W0n
      have W1 := W1n
      have M1 := M1n
      clear Beln S0n W0n W1n M1n
      have nw16 := k.size
      clear k
      go_wp2_with fail
      refine (toIntS _ a ca xs (HX.out.below Bel.out).1 bx).mono ?_
      rintro e w17 ⟨rfl, o, z17, g⟩
      have k := kept_grown g
      have Beln := hide (below_kept Bel.out k (by omega))
      have S0n := hide (S0.out.kept k (by omega))
      have W0n := hide (W0.out.kept k (by omega))
      have W1n := hide (W1.out.kept k (by omega))
      have M1n := hide (M1.out.kept k (by omega))
      clear Bel S0 W0 W1 M1
      have Bel := Beln
      have S0 := S0n
      have W0 := W0n
      have W1 := W1n
      have M1 := M1n
      clear Beln S0n W0n W1n M1n
      have O4 := hide o
      clear o g k
      go_wp2_with fail
      refine (toIntS _ c cc us (HU.out.below Bel.out).1 bu).mono ?_
      rintro e w18 ⟨rfl, o, z18, g⟩
      have k := kept_grown g
      have Beln := hide (below_kept Bel.out k (by omega))
      have S0n := hide (S0.out.kept k (by omega))
      have W0n := hide (W0.out.kept k (by omega))
      have W1n := hide (W1.out.kept k (by omega))
      have M1n := hide (M1.out.kept k (by omega))
      have O4n := hide (O4.out.keptS k (by omega))
      clear Bel S0 W0 W1 M1 O4
      have Bel := Beln
      have S0 := S0n
      have W0 := W0n
      have W1 := W1n
      have M1 := M1n
      have O4 := O4n
      clear Beln S0n W0n W1n M1n O4n
      have O5 := hide o
      clear o g k
      go_wp2_with fail
      refine (newBus _ _ _ _ _ xs us (O4.out.came HX.out.2) (O5.out.came HU.out.2) bx bu).mono ?_
      rintro e w19 ⟨d2, e2, rfl, s19, k19⟩
      have Beln := hide (below_kept Bel.out k19 (by omega))
      have S0n := hide (S0.out.kept k19 (by omega))
      have W0n := hide (W0.out.kept k19 (by omega))
      have W1n := hide (W1.out.kept k19 (by omega))
      have M1n := hide (M1.out.kept k19 (by omega))
      have O4n := hide (O4.out.keptS k19 (by omega))
      have O5n := hide (O5.out.keptS k19 (by omega))
      clear Bel S0 W0 W1 M1 O4 O5
      have Bel := Beln
      have S0 := S0n
      have W0 := W0n
      have W1 := W1n
      have M1 := M1n
      have O4 := O4n
      have O5 := O5n
      clear Beln S0n W0n W1n M1n O4n O5n
      have n19 := k19.size
      have S2 := hide s19
      clear k19 s19
      clear O4 O5
      have ka := kept_alloc w19 (.cells #[.slice d2 (Pl.newB xs us).length e2, .slice none 0 0] 25)
      have Beln := hide (below_kept Bel.out ka (by omega))
      have S0n := hide (S0.out.kept ka (by omega))
      have W0n := hide (W0.out.kept ka (by omega))
      have W1n := hide (W1.out.kept ka (by omega))
      have M1n := hide (M1.out.kept ka (by omega))
      have S2n := hide (S2.out.kept ka (by omega))
      clear Bel S0 W0 W1 M1 S2
      have Bel := Beln
      have S0 := S0n
      have W0 := W0n
      have W1 := W1n
      have M1 := M1n
      have S2 := S2n
      clear Beln S0n W0n W1n M1n S2n
      have W2 := hide (Blk.new w19 #[.slice d2 (Pl.newB xs us).length e2, .slice none 0 0] 25)
      obtain ⟨X19, hX19⟩ : ∃ X : World, X = w19.alloc (.cells #[.slice d2 (Pl.newB xs us).length e2, .slice none 0 0] 25) := ⟨_, rfl⟩
      have nX19 : w19.heap.size < X19.heap.size := by rw [hX19]; simp
      rw [← hX19] at Bel S0 W0 W1 M1 S2 W2
      have p0 := W0.out.cell (i := 0) rfl
      have p1 := W0.out.cell (i := 1) rfl
      have q0 := W2.out.cell (i := 0) rfl
      have q1 := W2.out.cell (i := 1) rfl
      rw [hX19] at p0 p1 q0 q1
      have lt36 : w3.heap.size < w19.heap.size := by omega
      have p2 : w19.cell? ⟨w3.heap.size, 0, none⟩ = some (.slice d0 (Pl.newB xs us).length e0) := (World.cell?_alloc_lt _ _ _ lt36).symm.trans p0
      have p3 : w19.cell? ⟨w3.heap.size, 1, none⟩ = some (.slice none 0 0) := (World.cell?_alloc_lt _ _ _ lt36).symm.trans p1
      go_wp2_with fail
      rw [← hX19]
      clear ka hX19
      clear p0 p1 p2 p3 q0 q1 lt36
      refine (eqBus _ d2 none d0 none _ _ _ _ 0 0 (Pl.newB xs us) [] (Pl.newB xs us) [] S2.out.row (noRow _) S0.out.row (noRow _) (by omega) (by omega) rfl rfl (by decide) (by decide)).mono ?_
      rintro e w20 ⟨rfl, k⟩
      have Beln := hide (below_kept Bel.out k (by omega))
      have S0n := hide (S0.out.kept k (by omega))
      have W0n := hide (W0.out.kept k (by omega))
      have W1n := hide (W1.out.kept k (by omega))
      have M1n := hide (M1.out.kept k (by omega))
      have S2n := hide (S2.out.kept k (by omega))
      have W2n := hide (W2.out.kept k (by omega))
      clear Bel S0 W0 W1 M1 S2 W2
      have Bel := Beln
      have S0 := S0n
      have W0 := W0n
      have W1 := W1n
      have M1 := M1n
      have S2 := S2n
      have W2 := W2n
      clear Beln S0n W0n W1n M1n S2n W2n
      have nw20 := k.size
      clear k
      have p00 := W1.out.cell (i := 0) rfl
      have p01 := W1.out.cell (i := 1) rfl
      go_wp2_with fail
      clear p00 p01
      refine (heldBus _ d1 none _ _ (Pl.newB xs us).length 0 1 M1.out.row (noRow _) (by omega) (by decide) (by decide) (by decide)).mono ?_
      rintro e w21 ⟨rfl, k⟩
      have Beln := hide (below_kept Bel.out k (by omega))
      have S0n := hide (S0.out.kept k (by omega))
      have W0n := hide (W0.out.kept k (by omega))
      have W1n := hide (W1.out.kept k (by omega))
      have M1n := hide (M1.out.kept k (by omega))
      have S2n := hide (S2.out.kept k (by omega))
      have W2n := hide (W2.out.kept k (by omega))
      clear Bel S0 W0 W1 M1 S2 W2
      have Bel := Beln
      have S0 := S0n
      have W0 := W0n
      have W1 := W1n
      have M1 := M1n
      have S2 := S2n
      have W2 := W2n
      clear Beln S0n W0n W1n M1n S2n W2n
      have nw21 := k.size
      clear k
      go_wp2_with fail
      go_ret
      exact ⟨rfl, Bel.out⟩
end Go.Proofs.Ytbkafdphagmgpaa
