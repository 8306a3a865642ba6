/- The law on AddDigits: of whatever lists, its Go function returns true, and no block that was there has turned. -/
import Derived.Test.YtkahmepoblhbnaaDoorSpecDigits
import Derived.Test.YtkahmepoblhbnaaDoorImplDig
namespace Go.Proofs.YtkahmepoblhbnaaDoor
open Go.RowKit
set_option linter.unusedVariables false

theorem addDigitsS (w : World) (ht : TabS w) (a b : Option Addr) (ca cb : Nat) (xs ys : List Int) (ha : IRow w a xs) (hb : IRow w b ys) (wa : Wide xs) (wb : Wide ys) (lx : xs.length ≤ 2000000) (ly : ys.length ≤ 2000000) :
    Calls Tryd.prog 23 #[.slice a xs.length ca, .slice b ys.length cb] w fun e w' => ∃ (d : Option Addr) (cap : Nat), e = .returned (.tuple #[.slice d (Pl.digL xs ys).length cap, .int .i64 (Pl.digC xs ys), .bool (Pl.digOk xs ys)]) ∧ Slot w' w.heap.size d (Pl.digL xs ys) ∧ w.grownBy w' none := by
  refine (addDigits w ht a b ca cb xs ys ha hb wa wb lx ly).mono ?_
  rintro e w' ⟨v, he, hr, hg⟩
  obtain ⟨d, cap, rfl, hs⟩ := hr.slot
  exact ⟨d, cap, he, hs, hg⟩

set_option maxRecDepth 100000 in
set_option maxHeartbeats 2000000 in
theorem lawAddDigits (a b : Option Addr) (ca cb : Nat) (xs ys : List Int) (w : World) (ht : TabS w) (ha : IRow w a xs) (hb : IRow w b ys) (wa : Wide xs) (wb : Wide ys) (lx : xs.length ≤ 9223372036854775807) (ly : ys.length ≤ 9223372036854775807) :
    Calls Tryd.prog 8 #[.slice a xs.length ca, .slice b ys.length cb] w fun e w' => e = .returned (.bool true) ∧ Below w.heap.size w w' := by
  by_cases h1 : 1048576 < xs.length
  · go_enter Tryd.func8, Tryd.ntmps8
    go_wp2_with fail
    go_ret
    exact ⟨rfl, Below.refl _ _⟩
  · by_cases h2 : 1048576 < ys.length
    · go_enter Tryd.func8, Tryd.ntmps8
      go_wp2_with fail
      go_ret
      exact ⟨rfl, Below.refl _ _⟩
    · have lL := Pl.digL_len xs ys
      have bel0 := Below.refl w.heap.size w
      go_enter Tryd.func8, Tryd.ntmps8
      go_wp2_with fail
      -- the model's call
      refine (toIntS _ a ca xs ha (by omega)).mono ?_
      rintro e w1 ⟨rfl, o1, z1, g1⟩
      have bel1 := below_grown0 bel0 g1
      clear bel0
      go_wp2_with fail
      refine (toIntS _ b cb ys (hb.below bel1) (by omega)).mono ?_
      rintro e w2 ⟨rfl, o2, z2, g2⟩
      have bel2 := below_grown0 bel1 g2
      have o1' := o1.kept g2 (by simp)
      clear o1 g1 g2 bel1
      go_wp2_with fail
      refine (specAddDigitsS _ _ _ _ _ xs ys o1'.row o2.row (by omega) (by omega)).mono ?_
      rintro e w3 ⟨d0, c0, rfl, s0, g3⟩
      have bel3 := below_grown0 bel2 g3
      have n3 := g3.size
      have sl0 := s0.lt
      clear o1' o2 g3 bel2
      go_wp2_with fail
      -- the arguments, copied
      refine (toIntS _ a ca xs (ha.below bel3) (by omega)).mono ?_
      rintro e w4 ⟨rfl, o4, z4, g4⟩
      have bel4 := below_grown0 bel3 g4
      have s0 := s0.kept0 g4
      clear g4
      go_wp2_with fail
      refine (toIntS _ b cb ys (hb.below bel4) (by omega)).mono ?_
      rintro e w5 ⟨rfl, o5, z5, g5⟩
      have bel5 := below_grown0 bel4 g5
      have s0 := s0.kept0 g5
      have o4 := o4.kept g5 (by simp)
      clear g5
      go_wp2_with fail
      refine (addDigitsS _ (ht.below bel5) _ _ _ _ xs ys o4.row o5.row wa wb (by omega) (by omega)).mono ?_
      rintro e w6 ⟨d1, c1, rfl, s1, g6⟩
      have bel6 := below_grown0 bel5 g6
      have n6 := g6.size
      have s0 := s0.kept0 g6
      have o4 := o4.kept g6 (by simp)
      have o5 := o5.kept g6 (by simp)
      clear g6
      go_wp2_with fail
      refine (eqIntS _ d1 d0 c1 c0 _ _ s1.row s0.row (by omega) (by omega)).mono ?_
      rintro e w7 ⟨rfl, g7⟩
      have bel7 := below_grown0 bel6 g7
      have s0 := s0.kept0 g7
      have s1 := s1.kept0 g7
      have o4 := o4.kept g7 (by simp)
      have o5 := o5.kept g7 (by simp)
      have n7 := g7.size
      clear g7
      go_wp2_with fail
      -- the arguments are as they were
      refine (toIntS _ a ca xs (ha.below bel7) (by omega)).mono ?_
      rintro e w8 ⟨rfl, o8, z8, g8⟩
      have bel8 := below_grown0 bel7 g8
      have s0 := s0.kept0 g8
      have s1 := s1.kept0 g8
      have o4 := o4.kept g8 (by simp)
      have o5 := o5.kept g8 (by simp)
      have n8 := g8.size
      clear g8
      go_wp2_with fail
      refine (eqIntS _ _ _ _ _ xs xs o4.row o8.row (by omega) (by omega)).mono ?_
      rintro e w9 ⟨rfl, g9⟩
      have bel9 := below_grown0 bel8 g9
      have s0 := s0.kept0 g9
      have s1 := s1.kept0 g9
      have o4 := o4.kept g9 (by simp)
      have o5 := o5.kept g9 (by simp)
      have n9 := g9.size
      clear g9 o8
      go_wp2_with fail
      refine (toIntS _ b cb ys (hb.below bel9) (by omega)).mono ?_
      rintro e w10 ⟨rfl, o10, z10, g10⟩
      have bel10 := below_grown0 bel9 g10
      have s0 := s0.kept0 g10
      have s1 := s1.kept0 g10
      have o4 := o4.kept g10 (by simp)
      have o5 := o5.kept g10 (by simp)
      have n10 := g10.size
      clear g10
      go_wp2_with fail
      refine (eqIntS _ _ _ _ _ ys ys o5.row o10.row (by omega) (by omega)).mono ?_
      rintro e w11 ⟨rfl, g11⟩
      have bel11 := below_grown0 bel10 g11
      have s0 := s0.kept0 g11
      have s1 := s1.kept0 g11
      have o4 := o4.kept g11 (by simp)
      have o5 := o5.kept g11 (by simp)
      have n11 := g11.size
      clear g11 o10
      have b3 := bel3.size
      go_wp2_with fail
      -- the arguments, marked
      refine (markIntS _ _ _ xs 1 o4 (by omega) (by omega) (by omega)).mono ?_
      rintro e w12 ⟨rfl, o12, g12⟩
      have bel12 := below_grown bel11 g12 (by intro j hj; cases hj; omega)
      have s0 := s0.keptA g12 (by intro g h3 _ h5; cases h5; have := sl0 _ h3; omega)
      have s1 := s1.keptA g12 (by intro g _ h4 h5; cases h5; omega)
      have o5 := o5.kept g12 (by simp; omega)
      have n12 := g12.size
      clear g12 o12 o4
      go_wp2_with fail
      refine (markIntS _ _ _ ys _ o5 (by omega) (by omega) (by omega)).mono ?_
      rintro e w13 ⟨rfl, o13, g13⟩
      have bel13 := below_grown bel12 g13 (by intro j hj; cases hj; omega)
      have s0 := s0.keptA g13 (by intro g h3 _ h5; cases h5; have := sl0 _ h3; omega)
      have s1 := s1.keptA g13 (by intro g _ h4 h5; cases h5; omega)
      have n13 := g13.size
      clear g13 o13 o5
      go_wp2_with fail
      refine (eqIntS _ d1 d0 c1 c0 _ _ s1.row s0.row (by omega) (by omega)).mono ?_
      rintro e w14 ⟨rfl, g14⟩
      have bel14 := below_grown0 bel13 g14
      have s0 := s0.kept0 g14
      have s1 := s1.kept0 g14
      have n14 := g14.size
      clear g14
      go_wp2_with fail
      -- the answer, marked
      refine (markSlot _ _ c1 d1 _ 1 s1 (by omega) (by omega) (by omega)).mono ?_
      rintro e w15 ⟨rfl, m15, g15⟩
      have bel15 := below_grown bel14 g15 (by intro j hj; have := s1.blk_le j hj; omega)
      have s0 := s0.other s1 g15 (by intro g hg; have := sl0 g hg; omega)
      have n15 := g15.size
      clear g15 s1
      go_wp2_with fail
      refine (heldIntS _ d1 c1 _ 1 m15.row (by omega) (by omega) (by omega)).mono ?_
      rintro e w16 ⟨rfl, g16⟩
      have bel16 := below_grown0 bel15 g16
      have s0 := s0.kept0 g16
      have s1 := m15.kept0 g16
      have n16 := g16.size
      clear g16 m15
      go_wp2_with fail
      -- another call
      refine (toIntS _ a ca xs (ha.below bel16) (by omega)).mono ?_
      rintro e w17 ⟨rfl, o17, z17, g17⟩
      have bel17 := below_grown0 bel16 g17
      have s0 := s0.kept0 g17
      have s1 := s1.kept0 g17
      clear g17
      go_wp2_with fail
      refine (toIntS _ b cb ys (hb.below bel17) (by omega)).mono ?_
      rintro e w18 ⟨rfl, o18, z18, g18⟩
      have bel18 := below_grown0 bel17 g18
      have s0 := s0.kept0 g18
      have s1 := s1.kept0 g18
      have o17 := o17.kept g18 (by simp)
      clear g18
      go_wp2_with fail
      refine (addDigitsS _ (ht.below bel18) _ _ _ _ xs ys o17.row o18.row wa wb (by omega) (by omega)).mono ?_
      rintro e w19 ⟨d2, c2, rfl, s2, g19⟩
      have bel19 := below_grown0 bel18 g19
      have s0 := s0.kept0 g19
      have s1 := s1.kept0 g19
      clear g19
      go_wp2_with fail
      refine (eqIntS _ d2 d0 c2 c0 _ _ s2.row s0.row (by omega) (by omega)).mono ?_
      rintro e w20 ⟨rfl, g20⟩
      have bel20 := below_grown0 bel19 g20
      have s1 := s1.kept0 g20
      clear g20
      go_wp2_with fail
      refine (heldIntS _ d1 c1 _ 1 s1.row (by omega) (by omega) (by omega)).mono ?_
      rintro e w21 ⟨rfl, g21⟩
      have bel21 := below_grown0 bel20 g21
      go_wp2_with fail
      go_ret
      exact ⟨rfl, bel21⟩

theorem lawAddDigitsRow (a b : Option Addr) (l0 c0 l1 c1 : Nat) (z0 z1 : List Int) (w : World) (ht : TabS w) (h0 : (a = none ∧ l0 = 0 ∧ c0 = 0 ∧ z0 = []) ∨
    ∃ x, a = some x ∧ l0 ≤ c0 ∧ c0 ≤ maxLen ∧ z0.length = c0 ∧ (∀ i, i < z0.length → w.cell? (x.add i) = some (.int .i64 (z0.getD i 0))) ∧ ∀ n ∈ z0, (Lit.int .i64 n).wf = true) (h1 : (b = none ∧ l1 = 0 ∧ c1 = 0 ∧ z1 = []) ∨
    ∃ x, b = some x ∧ l1 ≤ c1 ∧ c1 ≤ maxLen ∧ z1.length = c1 ∧ (∀ i, i < z1.length → w.cell? (x.add i) = some (.int .i64 (z1.getD i 0))) ∧ ∀ n ∈ z1, (Lit.int .i64 n).wf = true) :
    Calls Tryd.prog 8 #[.slice a l0 c0, .slice b l1 c1] w fun e w' => e = .returned (.bool true) ∧ Below w.heap.size w w' := by
  obtain ⟨xs, rfl, rx, vx, mx⟩ := irowOfRow h0
  obtain ⟨ys, rfl, ry, vy, my⟩ := irowOfRow h1
  unfold maxLen at mx my
  exact lawAddDigits a b c0 c1 xs ys w ht rx ry vx vy (by omega) (by omega)

end Go.Proofs.YtkahmepoblhbnaaDoor
