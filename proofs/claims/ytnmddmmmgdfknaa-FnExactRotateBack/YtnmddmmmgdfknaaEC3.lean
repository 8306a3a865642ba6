/- What the program's choice among the eight moves answers, for each kind, of whatever size: new blocks alone. What the models of chapter 3's shifts answer for every argument: one contract a function; none changes the world. Which kinds of shift go through the kept bit. What the program lays ahead of the first place, and the flags that it tells of a row of bits: one contract a function. What the program's functions of chapter 3 answer, for every argument: one contract a function; new blocks alone. The three laws on shifts of chapter 3 that take whole numbers: each call of the program and of its model answers the same, so each law's Go function returns true. -/
import Derived.Test.YtnmddmmmgdfknaaEC1
import Derived.Test.YtnmddmmmgdfknaaEC2
import Derived.Laws.ResultCell
namespace Go.Proofs.Ytnmddmmmgdfknaa
open Go.RowKit
set_option linter.unusedVariables false
set_option linter.unusedSimpArgs false

theorem arithmeticUp (s v x f W : Int) (t : Bool) (w : World) (h : Pl.Fit s (v, x)) (hW : W = 8 * s) :
    Calls Try.prog 98 #[.agg #[iv v, iv W, iv x, iv f, .bool t]] w fun e w' => e = .returned (.agg #[iv (Pl.nv 0 s x v), iv W, iv (Pl.nx 0 s x v), iv (Pl.fell 0 s v), .bool (Pl.vfl 0 s x v)]) ∧ Below w.heap.size w w' := by
  obtain ⟨hs, v0, v1, x0, x1⟩ := h
  simp only at v0 v1 x0 x1
  subst hW
  rcases Pl.top12 hs with ⟨rfl, e⟩ | ⟨rfl, e⟩ <;> rw [e] at v1
  · exact arithmeticUp1 v x f t w v0 v1 x0 x1
  · exact arithmeticUp2 v x f t w v0 v1 x0 x1
theorem arithmeticDown (s v x f W : Int) (t : Bool) (w : World) (h : Pl.Fit s (v, x)) (hW : W = 8 * s) :
    Calls Try.prog 99 #[.agg #[iv v, iv W, iv x, iv f, .bool t]] w fun e w' => e = .returned (.agg #[iv (Pl.nv 1 s x v), iv W, iv (Pl.nx 1 s x v), iv (Pl.fell 1 s v), .bool t]) ∧ Below w.heap.size w w' := by
  obtain ⟨hs, v0, v1, x0, x1⟩ := h
  simp only at v0 v1 x0 x1
  subst hW
  rcases Pl.top12 hs with ⟨rfl, e⟩ | ⟨rfl, e⟩ <;> rw [e] at v1
  · exact arithmeticDown1 v x f t w v0 v1 x0 x1
  · exact arithmeticDown2 v x f t w v0 v1 x0 x1
theorem plainUp (s v x f W : Int) (t : Bool) (w : World) (h : Pl.Fit s (v, x)) (hW : W = 8 * s) :
    Calls Try.prog 100 #[.agg #[iv v, iv W, iv x, iv f, .bool t]] w fun e w' => e = .returned (.agg #[iv (Pl.nv 2 s x v), iv W, iv (Pl.nx 2 s x v), iv (Pl.fell 2 s v), .bool t]) ∧ Below w.heap.size w w' := by
  obtain ⟨hs, v0, v1, x0, x1⟩ := h
  simp only at v0 v1 x0 x1
  subst hW
  rcases Pl.top12 hs with ⟨rfl, e⟩ | ⟨rfl, e⟩ <;> rw [e] at v1
  · exact plainUp1 v x f t w v0 v1 x0 x1
  · exact plainUp2 v x f t w v0 v1 x0 x1
theorem plainDown (s v x f W : Int) (t : Bool) (w : World) (h : Pl.Fit s (v, x)) (hW : W = 8 * s) :
    Calls Try.prog 101 #[.agg #[iv v, iv W, iv x, iv f, .bool t]] w fun e w' => e = .returned (.agg #[iv (Pl.nv 3 s x v), iv W, iv (Pl.nx 3 s x v), iv (Pl.fell 3 s v), .bool t]) ∧ Below w.heap.size w w' := by
  obtain ⟨hs, v0, v1, x0, x1⟩ := h
  simp only at v0 v1 x0 x1
  subst hW
  rcases Pl.top12 hs with ⟨rfl, e⟩ | ⟨rfl, e⟩ <;> rw [e] at v1
  · exact plainDown1 v x f t w v0 v1 x0 x1
  · exact plainDown2 v x f t w v0 v1 x0 x1
theorem turnUp (s v x f W : Int) (t : Bool) (w : World) (h : Pl.Fit s (v, x)) (hW : W = 8 * s) :
    Calls Try.prog 102 #[.agg #[iv v, iv W, iv x, iv f, .bool t]] w fun e w' => e = .returned (.agg #[iv (Pl.nv 4 s x v), iv W, iv (Pl.nx 4 s x v), iv (Pl.fell 4 s v), .bool t]) ∧ Below w.heap.size w w' := by
  obtain ⟨hs, v0, v1, x0, x1⟩ := h
  simp only at v0 v1 x0 x1
  subst hW
  rcases Pl.top12 hs with ⟨rfl, e⟩ | ⟨rfl, e⟩ <;> rw [e] at v1
  · exact turnUp1 v x f t w v0 v1 x0 x1
  · exact turnUp2 v x f t w v0 v1 x0 x1
theorem turnDown (s v x f W : Int) (t : Bool) (w : World) (h : Pl.Fit s (v, x)) (hW : W = 8 * s) :
    Calls Try.prog 103 #[.agg #[iv v, iv W, iv x, iv f, .bool t]] w fun e w' => e = .returned (.agg #[iv (Pl.nv 5 s x v), iv W, iv (Pl.nx 5 s x v), iv (Pl.fell 5 s v), .bool t]) ∧ Below w.heap.size w w' := by
  obtain ⟨hs, v0, v1, x0, x1⟩ := h
  simp only at v0 v1 x0 x1
  subst hW
  rcases Pl.top12 hs with ⟨rfl, e⟩ | ⟨rfl, e⟩ <;> rw [e] at v1
  · exact turnDown1 v x f t w v0 v1 x0 x1
  · exact turnDown2 v x f t w v0 v1 x0 x1
theorem turnUpThroughExtend (s v x f W : Int) (t : Bool) (w : World) (h : Pl.Fit s (v, x)) (hW : W = 8 * s) :
    Calls Try.prog 104 #[.agg #[iv v, iv W, iv x, iv f, .bool t]] w fun e w' => e = .returned (.agg #[iv (Pl.nv 6 s x v), iv W, iv (Pl.nx 6 s x v), iv (Pl.fell 6 s v), .bool t]) ∧ Below w.heap.size w w' := by
  obtain ⟨hs, v0, v1, x0, x1⟩ := h
  simp only at v0 v1 x0 x1
  subst hW
  rcases Pl.top12 hs with ⟨rfl, e⟩ | ⟨rfl, e⟩ <;> rw [e] at v1
  · exact turnUpThroughExtend1 v x f t w v0 v1 x0 x1
  · exact turnUpThroughExtend2 v x f t w v0 v1 x0 x1
theorem turnDownThroughExtend (s v x f W : Int) (t : Bool) (w : World) (h : Pl.Fit s (v, x)) (hW : W = 8 * s) :
    Calls Try.prog 105 #[.agg #[iv v, iv W, iv x, iv f, .bool t]] w fun e w' => e = .returned (.agg #[iv (Pl.nv 7 s x v), iv W, iv (Pl.nx 7 s x v), iv (Pl.fell 7 s v), .bool t]) ∧ Below w.heap.size w w' := by
  obtain ⟨hs, v0, v1, x0, x1⟩ := h
  simp only at v0 v1 x0 x1
  subst hW
  rcases Pl.top12 hs with ⟨rfl, e⟩ | ⟨rfl, e⟩ <;> rw [e] at v1
  · exact turnDownThroughExtend1 v x f t w v0 v1 x0 x1
  · exact turnDownThroughExtend2 v x f t w v0 v1 x0 x1
set_option maxHeartbeats 4000000 in
theorem moved0 (s v x f W : Int) (t : Bool) (w : World) (h : Pl.Fit s (v, x)) (hW : W = 8 * s) :
    Calls Try.prog 54 #[.agg #[iv v, iv W, iv x, iv f, .bool t], iv 0] w fun e w' => e = .returned (.agg #[iv (Pl.nv 0 s x v), iv W, iv (Pl.nx 0 s x v), iv (Pl.fell 0 s v), .bool (Pl.vfl 0 s x v)]) ∧ Below w.heap.size w w' := by
  have hst := store_func
  have E4 : Hid (Pl.vfl 0 s x v = Pl.vfl 0 s x v) := hide (by rfl)
  have HF := hide h
  have HWW := hide hW
  clear h hW
  go_enter Try.func54, Try.ntmps54
  go_wp2_with fail
  clear hst
  obtain ⟨X, hX⟩ : ∃ X : World, X = (((w.alloc (.cells #[iv v, iv W, iv x, iv f, .bool t] 78)).alloc (.cells ftZ 78)).alloc (.cells #[.func (.func 98) #[] #[], .func (.func 99) #[] #[], .func (.func 100) #[] #[], .func (.func 101) #[] #[], .func (.func 102) #[] #[], .func (.func 103) #[] #[], .func (.func 104) #[] #[], .func (.func 105) #[] #[]] 106)) := ⟨_, rfl⟩
  rw [← hX]
  have B1 : Box X w.heap.size v W x f t := by rw [hX]; exact Box.new1 _ _ _ _ _ _ _ _
  have B2 : Box X (w.heap.size + 1) 0 0 0 0 false := by rw [hX]; exact Box.new2 _ _ _ _ _ _ _ _
  have hF : X.cell? ⟨w.heap.size + 1 + 1, 0, none⟩ = some (.func (.func 98) #[] #[]) := by rw [hX]; go_simp
  have HX : Hid (Below w.heap.size w X) := hide (by rw [hX]; exact (((Below.refl _ _).alloc (by simp) _).alloc (by simp) _).alloc (by simp <;> omega) _)
  clear hX
  obtain ⟨a0, a1, a2, a3, a4, _, _, _, _, _⟩ := B1.cells
  have HB2 := hide B2
  clear B1 B2
  go_region_with (go_at_call 98; refine (arithmeticUp s v x f W t _ HF.out HWW.out).mono ?_; rintro e wt ⟨rfl, hb0⟩; have hb := undrew hb0; clear hb0; have HBt := hide (HB2.out.later hb); obtain ⟨c0, c1, c2, c3, c4, g0, g1, g2, g3, g4⟩ := HBt.out.cells; have HB := hide hb; clear hb a0 a1 a2 a3 a4 hF)
  all_goals
    go_wp2_with fail
    refine bodyPost_ret (v := .agg #[iv (Pl.nv 0 s x v), iv W, iv (Pl.nx 0 s x v), iv (Pl.fell 0 s v), .bool (Pl.vfl 0 s x v)]) ?_ rfl ⟨?_, ?_⟩
    · exact results_box rfl _ rfl (HBt.out.set)
    · exact rA rfl rfl rfl rfl rfl
    · exact (((((HX.out.trans (HB.out.mono HX.out.size)).setCell (by simp) _).setCell (by simp) _).setCell (by simp) _).setCell (by simp) _).setCell (by simp) _
set_option maxHeartbeats 4000000 in
theorem moved1 (s v x f W : Int) (w : World) (h : Pl.Fit s (v, x)) (hW : W = 8 * s) :
    Calls Try.prog 54 #[.agg #[iv v, iv W, iv x, iv f, .bool false], iv 1] w fun e w' => e = .returned (.agg #[iv (Pl.nv 1 s x v), iv W, iv (Pl.nx 1 s x v), iv (Pl.fell 1 s v), .bool (Pl.vfl 1 s x v)]) ∧ Below w.heap.size w w' := by
  have hst := store_func
  have E4 : Hid (false = Pl.vfl 1 s x v) := hide (by simp [Pl.vfl])
  have HF := hide h
  have HWW := hide hW
  clear h hW
  go_enter Try.func54, Try.ntmps54
  go_wp2_with fail
  clear hst
  obtain ⟨X, hX⟩ : ∃ X : World, X = (((w.alloc (.cells #[iv v, iv W, iv x, iv f, .bool false] 78)).alloc (.cells ftZ 78)).alloc (.cells #[.func (.func 98) #[] #[], .func (.func 99) #[] #[], .func (.func 100) #[] #[], .func (.func 101) #[] #[], .func (.func 102) #[] #[], .func (.func 103) #[] #[], .func (.func 104) #[] #[], .func (.func 105) #[] #[]] 106)) := ⟨_, rfl⟩
  rw [← hX]
  have B1 : Box X w.heap.size v W x f false := by rw [hX]; exact Box.new1 _ _ _ _ _ _ _ _
  have B2 : Box X (w.heap.size + 1) 0 0 0 0 false := by rw [hX]; exact Box.new2 _ _ _ _ _ _ _ _
  have hF : X.cell? ⟨w.heap.size + 1 + 1, 1, none⟩ = some (.func (.func 99) #[] #[]) := by rw [hX]; go_simp
  have HX : Hid (Below w.heap.size w X) := hide (by rw [hX]; exact (((Below.refl _ _).alloc (by simp) _).alloc (by simp) _).alloc (by simp <;> omega) _)
  clear hX
  obtain ⟨a0, a1, a2, a3, a4, _, _, _, _, _⟩ := B1.cells
  have HB2 := hide B2
  clear B1 B2
  go_region_with (go_at_call 99; refine (arithmeticDown s v x f W false _ HF.out HWW.out).mono ?_; rintro e wt ⟨rfl, hb0⟩; have hb := undrew hb0; clear hb0; have HBt := hide (HB2.out.later hb); obtain ⟨c0, c1, c2, c3, c4, g0, g1, g2, g3, g4⟩ := HBt.out.cells; have HB := hide hb; clear hb a0 a1 a2 a3 a4 hF)
  all_goals
    go_wp2_with fail
    refine bodyPost_ret (v := .agg #[iv (Pl.nv 1 s x v), iv W, iv (Pl.nx 1 s x v), iv (Pl.fell 1 s v), .bool false]) ?_ rfl ⟨?_, ?_⟩
    · exact results_box rfl _ rfl (HBt.out.set)
    · exact rA rfl rfl rfl rfl E4.out
    · exact (((((HX.out.trans (HB.out.mono HX.out.size)).setCell (by simp) _).setCell (by simp) _).setCell (by simp) _).setCell (by simp) _).setCell (by simp) _
set_option maxHeartbeats 4000000 in
theorem moved2 (s v x f W : Int) (w : World) (h : Pl.Fit s (v, x)) (hW : W = 8 * s) :
    Calls Try.prog 54 #[.agg #[iv v, iv W, iv x, iv f, .bool false], iv 2] w fun e w' => e = .returned (.agg #[iv (Pl.nv 2 s x v), iv W, iv (Pl.nx 2 s x v), iv (Pl.fell 2 s v), .bool (Pl.vfl 2 s x v)]) ∧ Below w.heap.size w w' := by
  have hst := store_func
  have E4 : Hid (false = Pl.vfl 2 s x v) := hide (by simp [Pl.vfl])
  have HF := hide h
  have HWW := hide hW
  clear h hW
  go_enter Try.func54, Try.ntmps54
  go_wp2_with fail
  clear hst
  obtain ⟨X, hX⟩ : ∃ X : World, X = (((w.alloc (.cells #[iv v, iv W, iv x, iv f, .bool false] 78)).alloc (.cells ftZ 78)).alloc (.cells #[.func (.func 98) #[] #[], .func (.func 99) #[] #[], .func (.func 100) #[] #[], .func (.func 101) #[] #[], .func (.func 102) #[] #[], .func (.func 103) #[] #[], .func (.func 104) #[] #[], .func (.func 105) #[] #[]] 106)) := ⟨_, rfl⟩
  rw [← hX]
  have B1 : Box X w.heap.size v W x f false := by rw [hX]; exact Box.new1 _ _ _ _ _ _ _ _
  have B2 : Box X (w.heap.size + 1) 0 0 0 0 false := by rw [hX]; exact Box.new2 _ _ _ _ _ _ _ _
  have hF : X.cell? ⟨w.heap.size + 1 + 1, 2, none⟩ = some (.func (.func 100) #[] #[]) := by rw [hX]; go_simp
  have HX : Hid (Below w.heap.size w X) := hide (by rw [hX]; exact (((Below.refl _ _).alloc (by simp) _).alloc (by simp) _).alloc (by simp <;> omega) _)
  clear hX
  obtain ⟨a0, a1, a2, a3, a4, _, _, _, _, _⟩ := B1.cells
  have HB2 := hide B2
  clear B1 B2
  go_region_with (go_at_call 100; refine (plainUp s v x f W false _ HF.out HWW.out).mono ?_; rintro e wt ⟨rfl, hb0⟩; have hb := undrew hb0; clear hb0; have HBt := hide (HB2.out.later hb); obtain ⟨c0, c1, c2, c3, c4, g0, g1, g2, g3, g4⟩ := HBt.out.cells; have HB := hide hb; clear hb a0 a1 a2 a3 a4 hF)
  all_goals
    go_wp2_with fail
    refine bodyPost_ret (v := .agg #[iv (Pl.nv 2 s x v), iv W, iv (Pl.nx 2 s x v), iv (Pl.fell 2 s v), .bool false]) ?_ rfl ⟨?_, ?_⟩
    · exact results_box rfl _ rfl (HBt.out.set)
    · exact rA rfl rfl rfl rfl E4.out
    · exact (((((HX.out.trans (HB.out.mono HX.out.size)).setCell (by simp) _).setCell (by simp) _).setCell (by simp) _).setCell (by simp) _).setCell (by simp) _
set_option maxHeartbeats 4000000 in
theorem moved3 (s v x f W : Int) (w : World) (h : Pl.Fit s (v, x)) (hW : W = 8 * s) :
    Calls Try.prog 54 #[.agg #[iv v, iv W, iv x, iv f, .bool false], iv 3] w fun e w' => e = .returned (.agg #[iv (Pl.nv 3 s x v), iv W, iv (Pl.nx 3 s x v), iv (Pl.fell 3 s v), .bool (Pl.vfl 3 s x v)]) ∧ Below w.heap.size w w' := by
  have hst := store_func
  have E4 : Hid (false = Pl.vfl 3 s x v) := hide (by simp [Pl.vfl])
  have HF := hide h
  have HWW := hide hW
  clear h hW
  go_enter Try.func54, Try.ntmps54
  go_wp2_with fail
  clear hst
  obtain ⟨X, hX⟩ : ∃ X : World, X = (((w.alloc (.cells #[iv v, iv W, iv x, iv f, .bool false] 78)).alloc (.cells ftZ 78)).alloc (.cells #[.func (.func 98) #[] #[], .func (.func 99) #[] #[], .func (.func 100) #[] #[], .func (.func 101) #[] #[], .func (.func 102) #[] #[], .func (.func 103) #[] #[], .func (.func 104) #[] #[], .func (.func 105) #[] #[]] 106)) := ⟨_, rfl⟩
  rw [← hX]
  have B1 : Box X w.heap.size v W x f false := by rw [hX]; exact Box.new1 _ _ _ _ _ _ _ _
  have B2 : Box X (w.heap.size + 1) 0 0 0 0 false := by rw [hX]; exact Box.new2 _ _ _ _ _ _ _ _
  have hF : X.cell? ⟨w.heap.size + 1 + 1, 3, none⟩ = some (.func (.func 101) #[] #[]) := by rw [hX]; go_simp
  have HX : Hid (Below w.heap.size w X) := hide (by rw [hX]; exact (((Below.refl _ _).alloc (by simp) _).alloc (by simp) _).alloc (by simp <;> omega) _)
  clear hX
  obtain ⟨a0, a1, a2, a3, a4, _, _, _, _, _⟩ := B1.cells
  have HB2 := hide B2
  clear B1 B2
  go_region_with (go_at_call 101; refine (plainDown s v x f W false _ HF.out HWW.out).mono ?_; rintro e wt ⟨rfl, hb0⟩; have hb := undrew hb0; clear hb0; have HBt := hide (HB2.out.later hb); obtain ⟨c0, c1, c2, c3, c4, g0, g1, g2, g3, g4⟩ := HBt.out.cells; have HB := hide hb; clear hb a0 a1 a2 a3 a4 hF)
  all_goals
    go_wp2_with fail
    refine bodyPost_ret (v := .agg #[iv (Pl.nv 3 s x v), iv W, iv (Pl.nx 3 s x v), iv (Pl.fell 3 s v), .bool false]) ?_ rfl ⟨?_, ?_⟩
    · exact results_box rfl _ rfl (HBt.out.set)
    · exact rA rfl rfl rfl rfl E4.out
    · exact (((((HX.out.trans (HB.out.mono HX.out.size)).setCell (by simp) _).setCell (by simp) _).setCell (by simp) _).setCell (by simp) _).setCell (by simp) _
set_option maxHeartbeats 4000000 in
theorem moved4 (s v x f W : Int) (w : World) (h : Pl.Fit s (v, x)) (hW : W = 8 * s) :
    Calls Try.prog 54 #[.agg #[iv v, iv W, iv x, iv f, .bool false], iv 4] w fun e w' => e = .returned (.agg #[iv (Pl.nv 4 s x v), iv W, iv (Pl.nx 4 s x v), iv (Pl.fell 4 s v), .bool (Pl.vfl 4 s x v)]) ∧ Below w.heap.size w w' := by
  have hst := store_func
  have E4 : Hid (false = Pl.vfl 4 s x v) := hide (by simp [Pl.vfl])
  have HF := hide h
  have HWW := hide hW
  clear h hW
  go_enter Try.func54, Try.ntmps54
  go_wp2_with fail
  clear hst
  obtain ⟨X, hX⟩ : ∃ X : World, X = (((w.alloc (.cells #[iv v, iv W, iv x, iv f, .bool false] 78)).alloc (.cells ftZ 78)).alloc (.cells #[.func (.func 98) #[] #[], .func (.func 99) #[] #[], .func (.func 100) #[] #[], .func (.func 101) #[] #[], .func (.func 102) #[] #[], .func (.func 103) #[] #[], .func (.func 104) #[] #[], .func (.func 105) #[] #[]] 106)) := ⟨_, rfl⟩
  rw [← hX]
  have B1 : Box X w.heap.size v W x f false := by rw [hX]; exact Box.new1 _ _ _ _ _ _ _ _
  have B2 : Box X (w.heap.size + 1) 0 0 0 0 false := by rw [hX]; exact Box.new2 _ _ _ _ _ _ _ _
  have hF : X.cell? ⟨w.heap.size + 1 + 1, 4, none⟩ = some (.func (.func 102) #[] #[]) := by rw [hX]; go_simp
  have HX : Hid (Below w.heap.size w X) := hide (by rw [hX]; exact (((Below.refl _ _).alloc (by simp) _).alloc (by simp) _).alloc (by simp <;> omega) _)
  clear hX
  obtain ⟨a0, a1, a2, a3, a4, _, _, _, _, _⟩ := B1.cells
  have HB2 := hide B2
  clear B1 B2
  go_region_with (go_at_call 102; refine (turnUp s v x f W false _ HF.out HWW.out).mono ?_; rintro e wt ⟨rfl, hb0⟩; have hb := undrew hb0; clear hb0; have HBt := hide (HB2.out.later hb); obtain ⟨c0, c1, c2, c3, c4, g0, g1, g2, g3, g4⟩ := HBt.out.cells; have HB := hide hb; clear hb a0 a1 a2 a3 a4 hF)
  all_goals
    go_wp2_with fail
    refine bodyPost_ret (v := .agg #[iv (Pl.nv 4 s x v), iv W, iv (Pl.nx 4 s x v), iv (Pl.fell 4 s v), .bool false]) ?_ rfl ⟨?_, ?_⟩
    · exact results_box rfl _ rfl (HBt.out.set)
    · exact rA rfl rfl rfl rfl E4.out
    · exact (((((HX.out.trans (HB.out.mono HX.out.size)).setCell (by simp) _).setCell (by simp) _).setCell (by simp) _).setCell (by simp) _).setCell (by simp) _
set_option maxHeartbeats 4000000 in
theorem moved5 (s v x f W : Int) (w : World) (h : Pl.Fit s (v, x)) (hW : W = 8 * s) :
    Calls Try.prog 54 #[.agg #[iv v, iv W, iv x, iv f, .bool false], iv 5] w fun e w' => e = .returned (.agg #[iv (Pl.nv 5 s x v), iv W, iv (Pl.nx 5 s x v), iv (Pl.fell 5 s v), .bool (Pl.vfl 5 s x v)]) ∧ Below w.heap.size w w' := by
  have hst := store_func
  have E4 : Hid (false = Pl.vfl 5 s x v) := hide (by simp [Pl.vfl])
  have HF := hide h
  have HWW := hide hW
  clear h hW
  go_enter Try.func54, Try.ntmps54
  go_wp2_with fail
  clear hst
  obtain ⟨X, hX⟩ : ∃ X : World, X = (((w.alloc (.cells #[iv v, iv W, iv x, iv f, .bool false] 78)).alloc (.cells ftZ 78)).alloc (.cells #[.func (.func 98) #[] #[], .func (.func 99) #[] #[], .func (.func 100) #[] #[], .func (.func 101) #[] #[], .func (.func 102) #[] #[], .func (.func 103) #[] #[], .func (.func 104) #[] #[], .func (.func 105) #[] #[]] 106)) := ⟨_, rfl⟩
  rw [← hX]
  have B1 : Box X w.heap.size v W x f false := by rw [hX]; exact Box.new1 _ _ _ _ _ _ _ _
  have B2 : Box X (w.heap.size + 1) 0 0 0 0 false := by rw [hX]; exact Box.new2 _ _ _ _ _ _ _ _
  have hF : X.cell? ⟨w.heap.size + 1 + 1, 5, none⟩ = some (.func (.func 103) #[] #[]) := by rw [hX]; go_simp
  have HX : Hid (Below w.heap.size w X) := hide (by rw [hX]; exact (((Below.refl _ _).alloc (by simp) _).alloc (by simp) _).alloc (by simp <;> omega) _)
  clear hX
  obtain ⟨a0, a1, a2, a3, a4, _, _, _, _, _⟩ := B1.cells
  have HB2 := hide B2
  clear B1 B2
  go_region_with (go_at_call 103; refine (turnDown s v x f W false _ HF.out HWW.out).mono ?_; rintro e wt ⟨rfl, hb0⟩; have hb := undrew hb0; clear hb0; have HBt := hide (HB2.out.later hb); obtain ⟨c0, c1, c2, c3, c4, g0, g1, g2, g3, g4⟩ := HBt.out.cells; have HB := hide hb; clear hb a0 a1 a2 a3 a4 hF)
  all_goals
    go_wp2_with fail
    refine bodyPost_ret (v := .agg #[iv (Pl.nv 5 s x v), iv W, iv (Pl.nx 5 s x v), iv (Pl.fell 5 s v), .bool false]) ?_ rfl ⟨?_, ?_⟩
    · exact results_box rfl _ rfl (HBt.out.set)
    · exact rA rfl rfl rfl rfl E4.out
    · exact (((((HX.out.trans (HB.out.mono HX.out.size)).setCell (by simp) _).setCell (by simp) _).setCell (by simp) _).setCell (by simp) _).setCell (by simp) _
set_option maxHeartbeats 4000000 in
theorem moved6 (s v x f W : Int) (w : World) (h : Pl.Fit s (v, x)) (hW : W = 8 * s) :
    Calls Try.prog 54 #[.agg #[iv v, iv W, iv x, iv f, .bool false], iv 6] w fun e w' => e = .returned (.agg #[iv (Pl.nv 6 s x v), iv W, iv (Pl.nx 6 s x v), iv (Pl.fell 6 s v), .bool (Pl.vfl 6 s x v)]) ∧ Below w.heap.size w w' := by
  have hst := store_func
  have E4 : Hid (false = Pl.vfl 6 s x v) := hide (by simp [Pl.vfl])
  have HF := hide h
  have HWW := hide hW
  clear h hW
  go_enter Try.func54, Try.ntmps54
  go_wp2_with fail
  clear hst
  obtain ⟨X, hX⟩ : ∃ X : World, X = (((w.alloc (.cells #[iv v, iv W, iv x, iv f, .bool false] 78)).alloc (.cells ftZ 78)).alloc (.cells #[.func (.func 98) #[] #[], .func (.func 99) #[] #[], .func (.func 100) #[] #[], .func (.func 101) #[] #[], .func (.func 102) #[] #[], .func (.func 103) #[] #[], .func (.func 104) #[] #[], .func (.func 105) #[] #[]] 106)) := ⟨_, rfl⟩
  rw [← hX]
  have B1 : Box X w.heap.size v W x f false := by rw [hX]; exact Box.new1 _ _ _ _ _ _ _ _
  have B2 : Box X (w.heap.size + 1) 0 0 0 0 false := by rw [hX]; exact Box.new2 _ _ _ _ _ _ _ _
  have hF : X.cell? ⟨w.heap.size + 1 + 1, 6, none⟩ = some (.func (.func 104) #[] #[]) := by rw [hX]; go_simp
  have HX : Hid (Below w.heap.size w X) := hide (by rw [hX]; exact (((Below.refl _ _).alloc (by simp) _).alloc (by simp) _).alloc (by simp <;> omega) _)
  clear hX
  obtain ⟨a0, a1, a2, a3, a4, _, _, _, _, _⟩ := B1.cells
  have HB2 := hide B2
  clear B1 B2
  go_region_with (go_at_call 104; refine (turnUpThroughExtend s v x f W false _ HF.out HWW.out).mono ?_; rintro e wt ⟨rfl, hb0⟩; have hb := undrew hb0; clear hb0; have HBt := hide (HB2.out.later hb); obtain ⟨c0, c1, c2, c3, c4, g0, g1, g2, g3, g4⟩ := HBt.out.cells; have HB := hide hb; clear hb a0 a1 a2 a3 a4 hF)
  all_goals
    go_wp2_with fail
    refine bodyPost_ret (v := .agg #[iv (Pl.nv 6 s x v), iv W, iv (Pl.nx 6 s x v), iv (Pl.fell 6 s v), .bool false]) ?_ rfl ⟨?_, ?_⟩
    · exact results_box rfl _ rfl (HBt.out.set)
    · exact rA rfl rfl rfl rfl E4.out
    · exact (((((HX.out.trans (HB.out.mono HX.out.size)).setCell (by simp) _).setCell (by simp) _).setCell (by simp) _).setCell (by simp) _).setCell (by simp) _
set_option maxHeartbeats 4000000 in
theorem moved7 (s v x f W : Int) (w : World) (h : Pl.Fit s (v, x)) (hW : W = 8 * s) :
    Calls Try.prog 54 #[.agg #[iv v, iv W, iv x, iv f, .bool false], iv 7] w fun e w' => e = .returned (.agg #[iv (Pl.nv 7 s x v), iv W, iv (Pl.nx 7 s x v), iv (Pl.fell 7 s v), .bool (Pl.vfl 7 s x v)]) ∧ Below w.heap.size w w' := by
  have hst := store_func
  have E4 : Hid (false = Pl.vfl 7 s x v) := hide (by simp [Pl.vfl])
  have HF := hide h
  have HWW := hide hW
  clear h hW
  go_enter Try.func54, Try.ntmps54
  go_wp2_with fail
  clear hst
  obtain ⟨X, hX⟩ : ∃ X : World, X = (((w.alloc (.cells #[iv v, iv W, iv x, iv f, .bool false] 78)).alloc (.cells ftZ 78)).alloc (.cells #[.func (.func 98) #[] #[], .func (.func 99) #[] #[], .func (.func 100) #[] #[], .func (.func 101) #[] #[], .func (.func 102) #[] #[], .func (.func 103) #[] #[], .func (.func 104) #[] #[], .func (.func 105) #[] #[]] 106)) := ⟨_, rfl⟩
  rw [← hX]
  have B1 : Box X w.heap.size v W x f false := by rw [hX]; exact Box.new1 _ _ _ _ _ _ _ _
  have B2 : Box X (w.heap.size + 1) 0 0 0 0 false := by rw [hX]; exact Box.new2 _ _ _ _ _ _ _ _
  have hF : X.cell? ⟨w.heap.size + 1 + 1, 7, none⟩ = some (.func (.func 105) #[] #[]) := by rw [hX]; go_simp
  have HX : Hid (Below w.heap.size w X) := hide (by rw [hX]; exact (((Below.refl _ _).alloc (by simp) _).alloc (by simp) _).alloc (by simp <;> omega) _)
  clear hX
  obtain ⟨a0, a1, a2, a3, a4, _, _, _, _, _⟩ := B1.cells
  have HB2 := hide B2
  clear B1 B2
  go_region_with (go_at_call 105; refine (turnDownThroughExtend s v x f W false _ HF.out HWW.out).mono ?_; rintro e wt ⟨rfl, hb0⟩; have hb := undrew hb0; clear hb0; have HBt := hide (HB2.out.later hb); obtain ⟨c0, c1, c2, c3, c4, g0, g1, g2, g3, g4⟩ := HBt.out.cells; have HB := hide hb; clear hb a0 a1 a2 a3 a4 hF)
  all_goals
    go_wp2_with fail
    refine bodyPost_ret (v := .agg #[iv (Pl.nv 7 s x v), iv W, iv (Pl.nx 7 s x v), iv (Pl.fell 7 s v), .bool false]) ?_ rfl ⟨?_, ?_⟩
    · exact results_box rfl _ rfl (HBt.out.set)
    · exact rA rfl rfl rfl rfl E4.out
    · exact (((((HX.out.trans (HB.out.mono HX.out.size)).setCell (by simp) _).setCell (by simp) _).setCell (by simp) _).setCell (by simp) _).setCell (by simp) _

/-- one place, of whatever kind and size -/
theorem moved (k s v x f W : Int) (t : Bool) (w : World) (k0 : 0 ≤ k) (k1 : k ≤ 7) (h : Pl.Fit s (v, x)) (hW : W = 8 * s) (ht : k = 0 ∨ t = false) :
    Calls Try.prog 54 #[.agg #[iv v, iv W, iv x, iv f, .bool t], iv k] w fun e w' => e = .returned (.agg #[iv (Pl.nv k s x v), iv W, iv (Pl.nx k s x v), iv (Pl.fell k s v), .bool (Pl.vfl k s x v)]) ∧ Below w.heap.size w w' := by
  have hk : k = 0 ∨ k = 1 ∨ k = 2 ∨ k = 3 ∨ k = 4 ∨ k = 5 ∨ k = 6 ∨ k = 7 := by omega
  rcases hk with rfl | rfl | rfl | rfl | rfl | rfl | rfl | rfl
  · exact moved0 s v x f W t w h hW
  · obtain rfl : t = false := ht.resolve_left (by decide)
    exact moved1 s v x f W w h hW
  · obtain rfl : t = false := ht.resolve_left (by decide)
    exact moved2 s v x f W w h hW
  · obtain rfl : t = false := ht.resolve_left (by decide)
    exact moved3 s v x f W w h hW
  · obtain rfl : t = false := ht.resolve_left (by decide)
    exact moved4 s v x f W w h hW
  · obtain rfl : t = false := ht.resolve_left (by decide)
    exact moved5 s v x f W w h hW
  · obtain rfl : t = false := ht.resolve_left (by decide)
    exact moved6 s v x f W w h hW
  · obtain rfl : t = false := ht.resolve_left (by decide)
    exact moved7 s v x f W w h hW
end Go.Proofs.Ytnmddmmmgdfknaa

namespace Go.Proofs.Ytnmddmmmgdfknaa
open Go.RowKit
set_option linter.unusedVariables false

theorem rBB {a b c d : Bool} (h : a = b) (k : c = d) : Ending.returned (.tuple #[.bool a, .bool c]) = .returned (.tuple #[.bool b, .bool d]) := by rw [h, k]
theorem Pl.parts_and2 {c x : Int} {o z n : Bool} (hc : c = 0 ∨ c = 1) (hx : x = 0 ∨ x = 1) : bits .and .i64 (c + Pl.fl o 2 + (Pl.fl z 4 + Pl.fl n 8) + 16 * x) 2 = Pl.fl o 2 := by
  rcases hc with rfl | rfl <;> rcases hx with rfl | rfl <;> cases o <;> cases z <;> cases n <;> decide
theorem Pl.parts_or2 {c x : Int} {o z n q : Bool} (hc : c = 0 ∨ c = 1) (hx : x = 0 ∨ x = 1) (hq : o = true → q = true) : bits .or .i64 (c + Pl.fl o 2 + (Pl.fl z 4 + Pl.fl n 8) + 16 * x) (Pl.fl q 2) = c + Pl.fl q 2 + (Pl.fl z 4 + Pl.fl n 8) + 16 * x := by
  rcases hc with rfl | rfl <;> rcases hx with rfl | rfl <;> cases o <;> cases z <;> cases n <;> cases q <;> first | decide | (exact absurd (hq rfl) (by decide))
theorem Pl.onF_and2 {k s : Int} {p : Int × Int} (h : Pl.Fit s p) : bits .and .i64 (Pl.onF k s p.2 p.1) 2 = Pl.fl (Pl.vfl k s p.2 p.1) 2 := by
  have f := Pl.fell_bd k s p.1
  have x := Pl.nx_bd k s p.2 p.1 h.2.2.2.1 h.2.2.2.2
  unfold Pl.onF Pl.zn
  exact Pl.parts_and2 (by omega) (by omega)
theorem Pl.onF_or2 {k s : Int} {p : Int × Int} (h : Pl.Fit s p) {q : Bool} (hq : Pl.vfl k s p.2 p.1 = true → q = true) :
    bits .or .i64 (Pl.onF k s p.2 p.1) (Pl.fl q 2) = Pl.fell k s p.1 + Pl.fl q 2 + Pl.zn s (Pl.nv k s p.2 p.1) + 16 * Pl.nx k s p.2 p.1 := by
  have f := Pl.fell_bd k s p.1
  have x := Pl.nx_bd k s p.2 p.1 h.2.2.2.1 h.2.2.2.2
  unfold Pl.onF Pl.zn
  exact Pl.parts_or2 (by omega) (by omega) hq
theorem Pl.fl_join2 (a b : Bool) : bits .or .i64 (Pl.fl a 2) (Pl.fl b 2) = Pl.fl (a || b) 2 := by cases a <;> cases b <;> decide
/-- one place, of whatever kind and size -/
theorem l3Once (k s f v : Int) (w : World) (k0 : 0 ≤ k) (k1 : k ≤ 7) (f0 : 0 ≤ f) (f1 : f ≤ 31) (h : Pl.Fit s (v, f / 16)) :
    Calls Try.prog 61 #[iv k, iv s, iv f, iv v] w fun e w' => e = .returned (.tuple #[iv (Pl.nv k s (f / 16) v), iv (Pl.onF k s (f / 16) v)]) ∧ w' = w := by
  obtain ⟨hs, v0, v1, _, _⟩ := h
  simp only at v0 v1
  have hk : k = 0 ∨ k = 1 ∨ k = 2 ∨ k = 3 ∨ k = 4 ∨ k = 5 ∨ k = 6 ∨ k = 7 := by omega
  rcases Pl.top12 hs with ⟨rfl, e⟩ | ⟨rfl, e⟩
  · rw [e] at v1
    rcases hk with rfl | rfl | rfl | rfl | rfl | rfl | rfl | rfl
    · exact l3Once01 f v w f0 f1 v0 v1
    · exact l3Once11 f v w f0 f1 v0 v1
    · exact l3Once21 f v w f0 f1 v0 v1
    · exact l3Once31 f v w f0 f1 v0 v1
    · exact l3Once41 f v w f0 f1 v0 v1
    · exact l3Once51 f v w f0 f1 v0 v1
    · exact l3Once61 f v w f0 f1 v0 v1
    · exact l3Once71 f v w f0 f1 v0 v1
  · rw [e] at v1
    rcases hk with rfl | rfl | rfl | rfl | rfl | rfl | rfl | rfl
    · exact l3Once02 f v w f0 f1 v0 v1
    · exact l3Once12 f v w f0 f1 v0 v1
    · exact l3Once22 f v w f0 f1 v0 v1
    · exact l3Once32 f v w f0 f1 v0 v1
    · exact l3Once42 f v w f0 f1 v0 v1
    · exact l3Once52 f v w f0 f1 v0 v1
    · exact l3Once62 f v w f0 f1 v0 v1
    · exact l3Once72 f v w f0 f1 v0 v1

theorem l1ZnS (s v : Int) (w : World) (hs : s = 1 ∨ s = 2) :
    Calls Try.prog 107 #[iv s, iv v] w fun e w' => e = .returned (iv (bits .or .i64 (Pl.fl (v == 0) 4) (Pl.fl (decide (Pl.top s / 2 ≤ v)) 8))) ∧ w' = w := by
  rcases hs with rfl | rfl
  · exact l1Zn1 v w
  · exact l1Zn2 v w

theorem l3By0 (k s f v : Int) (w : World) (k0 : 0 ≤ k) (k1 : k ≤ 7) (f0 : 0 ≤ f) (f1 : f ≤ 31) (h : Pl.Fit s (v, f / 16)) :
    Calls Try.prog 58 #[iv k, iv s, iv f, iv v, iv 0] w fun e w' => e = .returned (.tuple #[iv v, iv (Pl.byF k s (v, f / 16) 0)]) ∧ w' = w := by
  have hB := Pl.and16 f0 f1
  obtain hx | hx : f / 16 = 0 ∨ f / 16 = 1 := by omega
  all_goals
    have E : Hid (Pl.byF k s (v, f / 16) 0 = Pl.fl (decide (f / 16 ≠ 0) && decide (6 ≤ k)) 1 + (Pl.fl (v == 0) 4 + Pl.fl (decide (Pl.top s / 2 ≤ v)) 8) + 16 * (f / 16)) := hide rfl
    have HX := hide hx
    rw [hx] at hB
    have hs := h.1
    clear hx
    go_enter Try.func58, Try.ntmps58
    go_wp2_with fail
    refine (l1ZnS s v _ hs).mono ?_
    rintro e w' ⟨rfl, rfl⟩
    go_wp2_with fail
    refine (l1Flag _ _ _).mono ?_
    rintro e w' ⟨rfl, rfl⟩
    go_wp2_with fail
    go_ret2
    refine ⟨rII rfl ?_, rfl⟩
    rw [E.out, HX.out]
    generalize (v == 0) = z
    generalize decide (Pl.top s / 2 ≤ v) = n
    generalize decide (6 ≤ k) = q
    cases z <;> cases n <;> cases q <;> decide

/-- the flags behind m places -/
def Pl.run (k s f v : Int) : Nat → Int
  | 0 => f
  | m + 1 => Pl.onF k s (Pl.st k s (v, f / 16) m).2 (Pl.st k s (v, f / 16) m).1
theorem Pl.run_ok {k s f v : Int} (f0 : 0 ≤ f) (f1 : f ≤ 31) (h : Pl.Fit s (v, f / 16)) (m : Nat) : 0 ≤ Pl.run k s f v m ∧ Pl.run k s f v m ≤ 31 ∧ Pl.run k s f v m / 16 = (Pl.st k s (v, f / 16) m).2 := by
  cases m with
  | zero => exact ⟨f0, f1, rfl⟩
  | succ m => exact Pl.onF_bd (Pl.st_fit h m)

theorem Pl.run_or {k s f v : Int} (h : Pl.Fit s (v, f / 16)) {n : Nat} (n0 : 0 < n) : bits .or .i64 (Pl.run k s f v n) (Pl.fl (Pl.ov k s (v, f / 16) n) 2) = Pl.byF k s (v, f / 16) n := by
  cases n with
  | zero => omega
  | succ m => exact Pl.onF_or2 (Pl.st_fit h m) (fun hv => by simp [Pl.ov, hv])

theorem l3ByN (k s f v : Int) (n : Nat) (w : World) (k0 : 0 ≤ k) (k1 : k ≤ 7) (f0 : 0 ≤ f) (f1 : f ≤ 31) (h : Pl.Fit s (v, f / 16)) (n0 : 0 < n) (n1 : n ≤ 63) :
    Calls Try.prog 58 #[iv k, iv s, iv f, iv v, iv n] w fun e w' => e = .returned (.tuple #[iv (Pl.st k s (v, f / 16) n).1, iv (Pl.byF k s (v, f / 16) n)]) ∧ w' = w := by
  have kn : (((n : Nat) : Int) == 0) = false := by simp; omega
  go_enter Try.func58, Try.ntmps58
  go_wp2_with fail
  go_loop [2, 3, 4, 13] (fun F V C O => ∃ m : Nat, m ≤ n ∧ F = iv (Pl.run k s f v m) ∧ V = iv (Pl.st k s (v, f / 16) m).1 ∧ C = iv ((n : Int) - (m : Int)) ∧ O = iv (Pl.fl (Pl.ov k s (v, f / 16) m) 2)) (fun _ _ c _ => (intOf c).toNat)
  case atStart => exact ⟨0, Nat.zero_le _, rfl, rfl, by go_num, rfl⟩
  case round =>
    obtain ⟨m, hm, rfl, rfl, rfl, rfl⟩ := hrel
    by_cases hlt : m < n
    · obtain ⟨r0, r1, r2⟩ := Pl.run_ok (k := k) f0 f1 h m
      have hf := Pl.st_fit (k := k) h m
      have hq := Pl.onF_and2 (k := k) hf
      have hj := Pl.fl_join2 (Pl.ov k s (v, f / 16) m) (Pl.vfl k s (Pl.st k s (v, f / 16) m).2 (Pl.st k s (v, f / 16) m).1)
      have hF : Pl.Fit s ((Pl.st k s (v, f / 16) m).1, Pl.run k s f v m / 16) := by rw [r2]; exact hf
      have hc : 0 < (n : Int) - (m : Int) := by omega
      go_wp2_with fail
      refine (l3Once k s _ _ _ k0 k1 r0 r1 hF).mono ?_
      rintro e w' ⟨rfl, rfl⟩
      rw [r2]
      go_wp2_with fail
      go_round
      case rel => exact ⟨m + 1, by omega, rfl, rfl, by go_num, rfl⟩
      case measure => simp [intOf]; omega
    · obtain rfl : m = n := by omega
      have hO := hide (Pl.run_or (k := k) h n0)
      go_wp2_with fail
      go_ret2
      exact ⟨rII rfl hO.out, rfl⟩

theorem l3By (k s f v n : Int) (w : World) (k0 : 0 ≤ k) (k1 : k ≤ 7) (f0 : 0 ≤ f) (f1 : f ≤ 31) (h : Pl.Fit s (v, f / 16)) (n0 : 0 ≤ n) (n1 : n ≤ 63) :
    Calls Try.prog 58 #[iv k, iv s, iv f, iv v, iv n] w fun e w' => e = .returned (.tuple #[iv (Pl.st k s (v, f / 16) n.toNat).1, iv (Pl.byF k s (v, f / 16) n.toNat)]) ∧ w' = w := by
  obtain ⟨m, rfl⟩ := Int.eq_ofNat_of_zero_le n0
  cases m with
  | zero => exact l3By0 k s f v w k0 k1 f0 f1 h
  | succ m => exact l3ByN k s f v (m + 1) w k0 k1 f0 f1 h (by omega) (by omega)

theorem l3Kind (k : Int) (w : World) : Calls Try.prog 63 #[iv k] w fun e w' => e = .returned (.bool (Pl.kin k)) ∧ w' = w := by
  go_enter Try.func63, Try.ntmps63
  go_wp2_with fail
  refine (l1In _ _ _ _).mono ?_
  rintro e w' ⟨rfl, rfl⟩
  go_wp2_with fail
  go_ret
  exact ⟨rfl, rfl⟩

theorem l3Good (k s f v : Int) (w : World) : Calls Try.prog 56 #[iv k, iv s, iv f, iv v] w fun e w' => e = .returned (.bool (Pl.goodK k s f v)) ∧ w' = w := by
  cases h1 : Pl.kin k
  · have K : Hid (Pl.goodK k s f v = false) := hide (by unfold Pl.goodK; unfold Pl.kin at h1; rw [h1]; rfl)
    go_enter Try.func56, Try.ntmps56
    go_wp2_with fail
    refine (l3Kind _ _).mono ?_
    rintro e w' ⟨rfl, rfl⟩
    go_wp2_with fail
    go_ret
    exact ⟨rB K.out.symm, rfl⟩
  · cases h2 : Pl.okv s v
    · have K : Hid (Pl.goodK k s f v = false) := hide (by unfold Pl.goodK; rw [h2]; simp)
      go_enter Try.func56, Try.ntmps56
      go_wp2_with fail
      refine (l3Kind _ _).mono ?_
      rintro e w' ⟨rfl, rfl⟩
      go_wp2_with fail
      refine (l1Value _ _ _).mono ?_
      rintro e w' ⟨rfl, rfl⟩
      go_wp2_with fail
      go_ret
      exact ⟨rB K.out.symm, rfl⟩
    · have K : Hid (Pl.goodK k s f v = Pl.flags f) := hide (by unfold Pl.goodK; unfold Pl.kin at h1; rw [h1, h2]; rfl)
      go_enter Try.func56, Try.ntmps56
      go_wp2_with fail
      refine (l3Kind _ _).mono ?_
      rintro e w' ⟨rfl, rfl⟩
      go_wp2_with fail
      refine (l1Value _ _ _).mono ?_
      rintro e w' ⟨rfl, rfl⟩
      go_wp2_with fail
      refine (l1Flags _ _).mono ?_
      rintro e w' ⟨rfl, rfl⟩
      go_wp2_with fail
      go_ret
      exact ⟨rB K.out.symm, rfl⟩

theorem specRotateBack (k s f v n : Int) (w : World) : Calls Try.prog 26 #[iv k, iv s, iv f, iv v, iv n] w fun e w' => e = .returned (.tuple #[iv (Pl.rbV k s f v n), .bool (Pl.rbOk k s f v n)]) ∧ w' = w := by
  cases h1 : Pl.goodK k s f v
  · have K : Hid (Pl.rbOk k s f v n = false ∧ Pl.rbV k s f v n = 0) := hide (by simp [Pl.rbV, Pl.rbOk, Pl.byOk, h1])
    go_enter Try.func26, Try.ntmps26
    go_wp2_with fail
    refine (l3Good _ _ _ _ _).mono ?_
    rintro e w' ⟨rfl, rfl⟩
    go_wp2_with fail
    go_ret2
    exact ⟨rIB K.out.2.symm K.out.1.symm, rfl⟩
  · cases h2 : Pl.cnt n
    · have K : Hid (Pl.rbOk k s f v n = false ∧ Pl.rbV k s f v n = 0) := hide (by simp [Pl.rbV, Pl.rbOk, Pl.byOk, h2])
      unfold Pl.cnt at h2
      go_enter Try.func26, Try.ntmps26
      go_wp2_with fail
      refine (l3Good _ _ _ _ _).mono ?_
      rintro e w' ⟨rfl, rfl⟩
      go_wp2_with fail
      refine (l1In _ _ _ _).mono ?_
      rintro e w' ⟨rfl, rfl⟩
      go_wp2_with fail
      go_ret2
      exact ⟨rIB K.out.2.symm K.out.1.symm, rfl⟩
    · obtain ⟨k0, k1, _, f0, f1, hf⟩ := Pl.goodK_ok h1
      have hby : Pl.byOk k s f v n = true := by simp [Pl.byOk, h1, h2]
      obtain ⟨_, n0, n1⟩ := Pl.byOk_ok hby
      by_cases h4 : k < 4
      · have K : Hid (Pl.rbOk k s f v n = false ∧ Pl.rbV k s f v n = 0) := hide (by
          have : ¬ 4 ≤ k := by omega
          simp [Pl.rbV, Pl.rbOk, this])
        unfold Pl.cnt at h2
        clear hby
        go_enter Try.func26, Try.ntmps26
        go_wp2_with fail
        refine (l3Good _ _ _ _ _).mono ?_
        rintro e w' ⟨rfl, rfl⟩
        go_wp2_with fail
        refine (l1In _ _ _ _).mono ?_
        rintro e w' ⟨rfl, rfl⟩
        go_wp2_with fail
        go_ret2
        exact ⟨rIB K.out.2.symm K.out.1.symm, rfl⟩
      · have kr : Pl.rbOk k s f v n = true := by simp [Pl.rbOk, hby]; omega
        have K : Hid (Pl.rbOk k s f v n = true ∧ Pl.rbV k s f v n = v) := hide (by simp [Pl.rbV, kr])
        have hF := Pl.byF_bd (k := k) hf n.toNat
        obtain ⟨F0, F1, F2⟩ := hF
        have hf2 : Pl.Fit s ((Pl.st k s (v, f / 16) n.toNat).1, Pl.byF k s (v, f / 16) n.toNat / 16) := by rw [F2]; exact Pl.st_fit hf n.toNat
        have hxor := Pl.flip_xor k0 k1
        have hfl : 0 ≤ Pl.flip k ∧ Pl.flip k ≤ 7 := by unfold Pl.flip; split <;> omega
        have hB : Hid ((Pl.st (Pl.flip k) s ((Pl.st k s (v, f / 16) n.toNat).1, (Pl.st k s (v, f / 16) n.toNat).2) n.toNat).1 = v) := hide (by
          show (Pl.st (Pl.flip k) s (Pl.st k s (v, f / 16) n.toNat) n.toNat).1 = v
          rw [Pl.st_back (by omega) k1 n.toNat hf])
        unfold Pl.cnt at h2
        clear hby kr
        go_enter Try.func26, Try.ntmps26
        go_wp2_with fail
        refine (l3Good _ _ _ _ _).mono ?_
        rintro e w' ⟨rfl, rfl⟩
        go_wp2_with fail
        refine (l1In _ _ _ _).mono ?_
        rintro e w' ⟨rfl, rfl⟩
        go_wp2_with fail
        refine (l3By k s f v n _ k0 k1 f0 f1 hf n0 n1).mono ?_
        rintro e w' ⟨rfl, rfl⟩
        go_wp2_with fail
        refine (l3By (Pl.flip k) s _ _ n _ hfl.1 hfl.2 F0 F1 hf2 n0 n1).mono ?_
        rintro e w' ⟨rfl, rfl⟩
        go_wp2_with fail
        go_ret2
        exact ⟨rIB (hB.out.trans K.out.2.symm) K.out.1.symm, rfl⟩

end Go.Proofs.Ytnmddmmmgdfknaa

namespace Go.Proofs.Ytnmddmmmgdfknaa
open Go.RowKit
set_option linter.unusedVariables false
def Pl.thr (k : Int) : Bool := (k == 6) || (k == 7)
theorem goesX (k : Int) (w : World) : Calls Try.prog 97 #[iv k] w fun e w' => e = .returned (.bool (Pl.thr k)) ∧ w' = w := by
  by_cases h : k = 6
  all_goals
    go_enter Try.func97, Try.ntmps97
    go_wp2
    go_ret
    exact ⟨rB (by simp [Pl.thr, h]), rfl⟩
end Go.Proofs.Ytnmddmmmgdfknaa

namespace Go.Proofs.Ytnmddmmmgdfknaa
open Go.RowKit
set_option linter.unusedVariables false
set_option linter.unusedSimpArgs false

theorem flagsIfR (b : Bool) (f : Int) (w : World) :
    Calls Try.prog 81 #[.bool b, iv f] w fun e w' => e = .returned (iv (Pl.fl b f)) ∧ w' = w := by
  cases b
  all_goals
    go_enter Try.func81, Try.ntmps81
    go_wp2
    go_ret
    exact ⟨rfl, rfl⟩
theorem widthOf (s : Int) (w : World) (s0 : 0 ≤ s) (s1 : s ≤ 2) :
    Calls Try.prog 69 #[iv s] w fun e w' => e = .returned (iv (8 * s)) ∧ w' = w := by
  go_enter Try.func69, Try.ntmps69
  go_wp2
  go_ret
  exact ⟨rI (by omega), rfl⟩
theorem isShift (k : Int) (w : World) :
    Calls Try.prog 62 #[iv k] w fun e w' => e = .returned (.bool (Pl.kin k)) ∧ w' = w := by
  by_cases h0 : 0 ≤ k
  all_goals
    by_cases h1 : k ≤ 7
    all_goals
      go_enter Try.func62, Try.ntmps62
      go_wp2
      go_ret
      exact ⟨rB (by simp [Pl.kin]; omega), rfl⟩
theorem isFlagsR (f : Int) (w : World) :
    Calls Try.prog 82 #[iv f] w fun e w' => e = .returned (.bool (Pl.flags f)) ∧ w' = w := by
  by_cases h0 : 0 ≤ f
  all_goals
    by_cases h1 : f ≤ 31
    all_goals
      go_enter Try.func82, Try.ntmps82
      go_wp2
      go_ret
      exact ⟨rB (by simp [Pl.flags]; omega), rfl⟩
theorem isLeft (k : Int) (w : World) :
    Calls Try.prog 22 #[iv k] w fun e w' => e = .returned (.tuple #[.bool (Pl.left k), .bool (Pl.kin k)]) ∧ w' = w := by
  cases h1 : Pl.kin k
  · have K : Hid (Pl.left k = false) := hide (by simp [Pl.left, h1])
    go_enter Try.func22, Try.ntmps22
    go_wp2_with fail
    refine (isShift _ _).mono ?_
    rintro e w' ⟨rfl, rfl⟩
    go_wp2_with fail
    go_ret2
    exact ⟨rBB K.out.symm rfl, rfl⟩
  · have hk : 0 ≤ k ∧ k ≤ 7 := by simpa [Pl.kin] using h1
    have : k = 0 ∨ k = 1 ∨ k = 2 ∨ k = 3 ∨ k = 4 ∨ k = 5 ∨ k = 6 ∨ k = 7 := by omega
    clear hk
    rcases this with rfl | rfl | rfl | rfl | rfl | rfl | rfl | rfl
    all_goals
      go_enter Try.func22, Try.ntmps22
      go_wp2_with fail
      refine (isShift _ _).mono ?_
      rintro e w' ⟨rfl, rfl⟩
      go_wp2_with fail
      go_ret2
      exact ⟨rfl, rfl⟩
theorem Pl.five {x f h : Int} {t z : Bool} (hx : x = 0 ∨ x = 1) (hf : f = 0 ∨ f = 1) (hh : h = 0 ∨ h = 1) :
    bits .or .i64 (bits .or .i64 (bits .or .i64 (bits .or .i64 (Pl.fl (f == 1) 1) (Pl.fl t 2)) (Pl.fl z 4)) (Pl.fl (h == 1) 8)) (Pl.fl (x == 1) 16) = f + Pl.fl t 2 + (Pl.fl z 4 + Pl.fl (h == 1) 8) + 16 * x := by
  rcases hx with rfl | rfl <;> rcases hf with rfl | rfl <;> rcases hh with rfl | rfl <;> cases t <;> cases z <;> decide
theorem Pl.hi_top (s v : Int) : (Pl.hi s v == 1) = decide (Pl.top s / 2 ≤ v) := by
  unfold Pl.hi; split
  · rename_i h; simp [h]
  · rename_i h; simp [h]
theorem flags1 (v x f : Int) (t : Bool) (w : World) (h0 : 0 ≤ v) (h1 : v < 256) (x0 : 0 ≤ x) (x1 : x ≤ 1) (f0 : 0 ≤ f) (f1 : f ≤ 1) :
    Calls Try.prog 55 #[.agg #[iv v, iv 8, iv x, iv f, .bool t]] w fun e w' => e = .returned (iv (f + Pl.fl t 2 + Pl.zn 1 v + 16 * x)) ∧ ∃ o1 o2, w' = (w.alloc o1).alloc o2 := by
  go_enter Try.func55, Try.ntmps55
  go_wp2_with (first | (go_at_call 81; refine (flagsIfR _ _ _).mono ?_; rintro e w' ⟨rfl, rfl⟩) | (go_at_call 106; refine (highest1 _ _ _ _ _ h0 h1).mono ?_; rintro e w' ⟨rfl, o, rfl⟩))
  go_ret
  obtain ⟨b0, b1⟩ := Pl.hi_bd 1 v
  refine ⟨rI ?_, _, _, rfl⟩
  show bits .or .i64 _ _ = _
  rw [Pl.five (by omega) (by omega) (by omega), Pl.hi_top]; rfl
theorem flags2 (v x f : Int) (t : Bool) (w : World) (h0 : 0 ≤ v) (h1 : v < 65536) (x0 : 0 ≤ x) (x1 : x ≤ 1) (f0 : 0 ≤ f) (f1 : f ≤ 1) :
    Calls Try.prog 55 #[.agg #[iv v, iv 16, iv x, iv f, .bool t]] w fun e w' => e = .returned (iv (f + Pl.fl t 2 + Pl.zn 2 v + 16 * x)) ∧ ∃ o1 o2, w' = (w.alloc o1).alloc o2 := by
  go_enter Try.func55, Try.ntmps55
  go_wp2_with (first | (go_at_call 81; refine (flagsIfR _ _ _).mono ?_; rintro e w' ⟨rfl, rfl⟩) | (go_at_call 106; refine (highest2 _ _ _ _ _ h0 h1).mono ?_; rintro e w' ⟨rfl, o, rfl⟩))
  go_ret
  obtain ⟨b0, b1⟩ := Pl.hi_bd 2 v
  refine ⟨rI ?_, _, _, rfl⟩
  show bits .or .i64 _ _ = _
  rw [Pl.five (by omega) (by omega) (by omega), Pl.hi_top]; rfl
theorem flags5 (s v x f W : Int) (t : Bool) (w : World) (h : Pl.Fit s (v, x)) (hW : W = 8 * s) (f0 : 0 ≤ f) (f1 : f ≤ 1) :
    Calls Try.prog 55 #[.agg #[iv v, iv W, iv x, iv f, .bool t]] w fun e w' => e = .returned (iv (f + Pl.fl t 2 + Pl.zn s v + 16 * x)) ∧ ∃ o1 o2, w' = (w.alloc o1).alloc o2 := by
  obtain ⟨hs, v0, v1, x0, x1⟩ := h
  simp only at v0 v1 x0 x1
  subst hW
  rcases Pl.top12 hs with ⟨rfl, e⟩ | ⟨rfl, e⟩ <;> rw [e] at v1
  · exact flags1 v x f t w v0 v1 x0 x1 f0 f1
  · exact flags2 v x f t w v0 v1 x0 x1 f0 f1
theorem rowOf_bad (k s f v : Int) (w : World) (lo : -9223372036854775808 ≤ v) (hi : v ≤ 9223372036854775807) (h : Pl.goodK k s f v = false) :
    Calls Try.prog 53 #[iv k, iv s, iv f, iv v] w fun e w' => e = .returned (.tuple #[.agg ftZ, .bool false]) ∧ Below w.heap.size w w' := by
  have H : (Pl.okv s v = false) ∨ (Pl.okv s v = true ∧ Pl.flags f = false) ∨ (Pl.okv s v = true ∧ Pl.flags f = true ∧ Pl.kin k = false) := by
    unfold Pl.goodK at h
    unfold Pl.kin
    revert h
    cases Pl.okv s v <;> cases Pl.flags f <;> simp
  clear h
  rcases H with h1 | ⟨h1, h2⟩ | ⟨h1, h2, h3⟩
  all_goals
    go_enter Try.func53, Try.ntmps53
    go_wp2_with (first | (go_at_call 18; refine (signedOf _ _ _ lo hi).mono ?_; rintro e w' ⟨rfl, rfl⟩) | (go_at_call 82; refine (isFlagsR _ _).mono ?_; rintro e w' ⟨rfl, rfl⟩) | (go_at_call 62; refine (isShift _ _).mono ?_; rintro e w' ⟨rfl, rfl⟩))
    refine bodyPost_ret (v := .tuple #[.agg ftZ, .bool false]) ?_ rfl ⟨rfl, ?_⟩
    · rw [results_cell_tmp rfl]; go_simp
    · (repeat' (first | with_reducible exact Below.refl _ _ | with_reducible refine Below.drew ?_ | with_reducible refine Below.alloc ?_ ?_ _ | (simp; done) | (simp; omega)))
def Pl.fal0 (k f : Int) : Int := if 6 ≤ k then f / 16 else 0
theorem rowOf (k s f v : Int) (w : World) (h : Pl.goodK k s f v = true) :
    Calls Try.prog 53 #[iv k, iv s, iv f, iv v] w fun e w' => e = .returned (.tuple #[.agg #[iv v, iv (8 * s), iv (f / 16), iv (Pl.fal0 k f), .bool false], .bool true]) ∧ Below w.heap.size w w' := by
  obtain ⟨k0, k1, h1, f0, f1, hs, v0, v1, _, _⟩ := Pl.goodK_ok h
  have h2 : Pl.flags f = true := by simp [Pl.flags, f0, f1]
  have h3 : Pl.kin k = true := by simp [Pl.kin, k0, k1]
  have vb : v < 65536 := by
    simp only at v1
    rcases Pl.top12 hs with ⟨_, e⟩ | ⟨_, e⟩ <;> rw [e] at v1 <;> omega
  simp only at v0 v1
  clear h v1
  have s0 : 0 ≤ s := by omega
  have s1 : s ≤ 2 := by omega
  cases hx : Pl.thr k
  · have E : Hid (0 = Pl.fal0 k f) := hide (by
      have hx2 := hx
      simp [Pl.thr] at hx2
      simp [Pl.fal0]; omega)
    have HX := hide hx
    clear hx
    go_enter Try.func53, Try.ntmps53
    go_wp2_with (first | (go_at_call 18; refine (signedOf _ _ _ (by omega) (by omega)).mono ?_; rintro e w' ⟨rfl, rfl⟩) | (go_at_call 82; refine (isFlagsR _ _).mono ?_; rintro e w' ⟨rfl, rfl⟩) | (go_at_call 62; refine (isShift _ _).mono ?_; rintro e w' ⟨rfl, rfl⟩) | (go_at_call 69; refine (widthOf _ _ s0 s1).mono ?_; rintro e w' ⟨rfl, rfl⟩) | (go_at_call 97; refine st (goesX _ _) ?_; rw [HX.out]))
    refine bodyPost_ret (v := .tuple #[.agg #[iv v, iv (8 * s), iv (f / 16), iv 0, .bool false], .bool true]) ?_ rfl ⟨by rw [E.out], ?_⟩
    · rw [results_cell_tmp rfl]; go_simp
    · (repeat' (first | with_reducible exact Below.refl _ _ | with_reducible refine Below.drew ?_ | with_reducible refine Below.alloc ?_ ?_ _ | (simp; done) | (simp; omega)))
  · have E : Hid (f / 16 = Pl.fal0 k f) := hide (by
      have hx2 := hx
      simp [Pl.thr] at hx2
      simp [Pl.fal0]; omega)
    have HX := hide hx
    clear hx
    go_enter Try.func53, Try.ntmps53
    go_wp2_with (first | (go_at_call 18; refine (signedOf _ _ _ (by omega) (by omega)).mono ?_; rintro e w' ⟨rfl, rfl⟩) | (go_at_call 82; refine (isFlagsR _ _).mono ?_; rintro e w' ⟨rfl, rfl⟩) | (go_at_call 62; refine (isShift _ _).mono ?_; rintro e w' ⟨rfl, rfl⟩) | (go_at_call 69; refine (widthOf _ _ s0 s1).mono ?_; rintro e w' ⟨rfl, rfl⟩) | (go_at_call 97; refine st (goesX _ _) ?_; rw [HX.out]))
    refine bodyPost_ret (v := .tuple #[.agg #[iv v, iv (8 * s), iv (f / 16), iv (f / 16), .bool false], .bool true]) ?_ rfl ⟨by rw [E.out], ?_⟩
    · rw [results_cell_tmp rfl]; go_simp
    · (repeat' (first | with_reducible exact Below.refl _ _ | with_reducible refine Below.drew ?_ | with_reducible refine Below.alloc ?_ ?_ _ | (simp; done) | (simp; omega)))
end Go.Proofs.Ytnmddmmmgdfknaa

namespace Go.Proofs.Ytnmddmmmgdfknaa
open Go.RowKit
set_option linter.unusedVariables false

/-- the bit that fell out last, ahead of the first place too; whether the last place told it -/
def Pl.falN (k s f v : Int) : Nat → Int
  | 0 => Pl.fal0 k f
  | m + 1 => Pl.fell k s (Pl.st k s (v, f / 16) m).1
def Pl.lastV (k s f v : Int) : Nat → Bool
  | 0 => false
  | m + 1 => Pl.vfl k s (Pl.st k s (v, f / 16) m).2 (Pl.st k s (v, f / 16) m).1
theorem Pl.lastV_not (k s f v : Int) (m : Nat) : k = 0 ∨ Pl.lastV k s f v m = false := by
  cases m with
  | zero => exact .inr rfl
  | succ m =>
    by_cases h : k = 0
    · exact .inl h
    · exact .inr (by simp [Pl.lastV, Pl.vfl, h])
theorem Pl.falN_bd {k s f v : Int} (h : Pl.Fit s (v, f / 16)) (m : Nat) : 0 ≤ Pl.falN k s f v m ∧ Pl.falN k s f v m ≤ 1 := by
  cases m with
  | zero =>
    obtain ⟨_, _, _, x0, x1⟩ := h
    simp only at x0 x1
    unfold Pl.falN Pl.fal0
    split <;> omega
  | succ m => exact Pl.fell_bd _ _ _
theorem Pl.byF_end {k s f v : Int} (h : Pl.Fit s (v, f / 16)) (m : Nat) : Pl.falN k s f v m + Pl.fl (Pl.ov k s (v, f / 16) m) 2 + Pl.zn s (Pl.st k s (v, f / 16) m).1 + 16 * (Pl.st k s (v, f / 16) m).2 = Pl.byF k s (v, f / 16) m := by
  cases m with
  | zero =>
    obtain ⟨_, _, _, x0, x1⟩ := h
    simp only at x0 x1
    have hx : f / 16 = 0 ∨ f / 16 = 1 := by omega
    unfold Pl.falN Pl.fal0 Pl.byF Pl.ov Pl.st
    simp only
    by_cases h6 : 6 ≤ k
    · rcases hx with hx | hx <;> simp [hx, h6, Pl.fl]
    · simp [h6, Pl.fl]
  | succ m => rfl
set_option maxHeartbeats 4000000 in
theorem shiftBy_good (k s f v n : Int) (w : World) (h : Pl.goodK k s f v = true) (n0 : 0 ≤ n) (n1 : n ≤ 63) :
    Calls Try.prog 14 #[iv k, iv s, iv f, iv v, iv n] w fun e w' => e = .returned (.tuple #[iv (Pl.st k s (v, f / 16) n.toNat).1, iv (Pl.byF k s (v, f / 16) n.toNat), .bool true]) ∧ Below w.heap.size w w' := by
  have HG := hide h
  obtain ⟨k0, k1, _, f0, f1, hf⟩ := Pl.goodK_ok h
  have HF := hide hf
  have d0 : decide (n < 0) = false := by simp; omega
  have d1 : decide (63 < n) = false := by simp; omega
  clear h hf
  go_enter Try.func14, Try.ntmps14
  go_wp2_with fail
  refine (rowOf k s f v _ HG.out).mono ?_
  rintro e w1 ⟨rfl, hb⟩
  have HB := hide hb
  clear hb
  go_wp2_with fail
  go_loopw [15, 35] (fun T I wr => ∃ m : Nat, (m : Int) ≤ n ∧ T = .bool (Pl.ov k s (v, f / 16) m) ∧ I = iv m ∧ Box wr w1.heap.size (Pl.st k s (v, f / 16) m).1 (8 * s) (Pl.st k s (v, f / 16) m).2 (Pl.falN k s f v m) (Pl.lastV k s f v m) ∧ Below w.heap.size w wr) (fun _ I _ => n.toNat - (intOf I).toNat)
  case atStart => exact ⟨0, n0, rfl, rfl, Box.new0 _ _ _ _ _ _, HB.out.alloc HB.out.size _⟩
  case round =>
    obtain ⟨m, hm, rfl, rfl, hB, hW⟩ := hrel
    have HBm := hide hB
    have HW := hide hW
    have hst := hide (Pl.st_fit (k := k) HF.out m)
    obtain ⟨c0, c1, c2, c3, c4, g0, g1, g2, g3, g4⟩ := hB.cells
    clear hB hW
    by_cases hlt : (m : Int) < n
    · clear g0 g1 g2 g3 g4
      cases ho : Pl.ov k s (v, f / 16) m
      all_goals
        go_wp2_with fail
        refine (moved k s _ _ _ _ _ _ k0 k1 hst.out rfl (Pl.lastV_not k s f v m)).mono ?_
        rintro e wt ⟨rfl, hb2⟩
        have Bt := hide (HBm.out.later hb2)
        have HX : Hid (Below w.heap.size w wt) := hide (HW.out.trans (hb2.mono HW.out.size))
        clear hb2 c0 c1 c2 c3 c4
        obtain ⟨c0, c1, c2, c3, c4, g0, g1, g2, g3, g4⟩ := Bt.out.cells
        go_wp2_with fail
        go_roundw
        case rel => exact ⟨m + 1, by omega, by simp [Pl.ov, ho], by go_num, Bt.out.set, Below.set5 HX.out HB.out.size _ _ _ _ _⟩
        case measure => simp [intOf]; omega
    · obtain rfl : n = (m : Int) := by omega
      have hfa := Pl.falN_bd (k := k) HF.out m
      have HE := hide (Pl.byF_end (k := k) HF.out m)
      have d2 : decide ((m : Int) < (m : Int)) = false := by simp
      go_wp2_with fail
      obtain ⟨X, hX⟩ : ∃ X : World, X = wr.setCell ⟨w1.heap.size, 4, none⟩ (.bool (Pl.ov k s (v, f / 16) m)) := ⟨_, rfl⟩
      rw [← hX]
      have B2 := hide (HBm.out.set4 (t' := Pl.ov k s (v, f / 16) m))
      rw [← hX] at B2
      have HY : Hid (Below w.heap.size w X) := hide (by rw [hX]; exact HW.out.setCell HB.out.size _)
      clear hX c0 c1 c2 c3 c4 g0 g1 g2 g3 g4
      obtain ⟨c0, c1, c2, c3, c4, _, _, _, _, _⟩ := B2.out.cells
      go_region_with (go_at_call 55; refine (flags5 s _ _ _ _ _ _ hst.out rfl hfa.1 hfa.2).mono ?_; rintro e wx ⟨rfl, o1, o2, rfl⟩; obtain ⟨z0, z1, z2, z3, z4, _, _, _, _, _⟩ := (B2.out.two o1 o2).cells)
      all_goals
        go_wp2_with fail
        go_ret3
        exact ⟨rIIB rfl HE.out rfl, ((HY.out.alloc HY.out.size _).alloc (by simpa using Nat.le_succ_of_le HY.out.size) _).drew⟩

theorem shiftBy (k s f v n : Int) (w : World) (hv : W64 v) :
    Calls Try.prog 14 #[iv k, iv s, iv f, iv v, iv n] w fun e w' => e = .returned (.tuple #[iv (Pl.byVal k s f v n), iv (Pl.byFl k s f v n), .bool (Pl.byOk k s f v n)]) ∧ Below w.heap.size w w' := by
  cases h : Pl.goodK k s f v
  · have K : Hid (Pl.byOk k s f v n = false ∧ Pl.byVal k s f v n = 0 ∧ Pl.byFl k s f v n = 0) := hide (by simp [Pl.byVal, Pl.byFl, Pl.byOk, h])
    go_enter Try.func14, Try.ntmps14
    go_wp2_with fail
    refine (rowOf_bad k s f v _ hv.1 hv.2 h).mono ?_
    rintro e w1 ⟨rfl, hb⟩
    go_wp2_with fail
    go_ret3
    exact ⟨rIIB K.out.2.1.symm K.out.2.2.symm K.out.1.symm, hb.alloc hb.size _⟩
  · by_cases hn : 0 ≤ n ∧ n ≤ 63
    · have hk : Pl.byOk k s f v n = true := Pl.byOk_mk h hn.1 hn.2
      refine (shiftBy_good k s f v n w h hn.1 hn.2).mono ?_
      rintro e w' ⟨rfl, hb⟩
      exact ⟨rIIB (by simp [Pl.byVal, hk]) (by simp [Pl.byFl, hk]) hk.symm, hb⟩
    · have K : Hid (Pl.byOk k s f v n = false ∧ Pl.byVal k s f v n = 0 ∧ Pl.byFl k s f v n = 0) := by
        have : Pl.cnt n = false := by simp [Pl.cnt]; omega
        exact hide (by simp [Pl.byVal, Pl.byFl, Pl.byOk, this])
      obtain d0 | ⟨d0, d1⟩ : decide (n < 0) = true ∨ (decide (n < 0) = false ∧ decide (63 < n) = true) := by simp; omega
      all_goals
        clear hn
        go_enter Try.func14, Try.ntmps14
        go_wp2_with fail
        refine (rowOf k s f v _ h).mono ?_
        rintro e w1 ⟨rfl, hb⟩
        go_wp2_with fail
        go_ret3
        exact ⟨rIIB K.out.2.1.symm K.out.2.2.symm K.out.1.symm, hb.alloc hb.size _⟩

theorem otherWay (k : Int) (w : World) (k0 : 4 ≤ k) (k1 : k ≤ 7) :
    Calls Try.prog 65 #[iv k] w fun e w' => e = .returned (iv (Pl.flip k)) ∧ w' = w := by
  have : k = 4 ∨ k = 5 ∨ k = 6 ∨ k = 7 := by omega
  clear k0 k1
  rcases this with rfl | rfl | rfl | rfl
  all_goals
    go_enter Try.func65, Try.ntmps65
    go_wp2_with fail
    refine (isLeft _ _).mono ?_
    rintro e w' ⟨rfl, rfl⟩
    go_wp2_with (simp only [Pl.left, Pl.kin])
    go_ret
    exact ⟨rfl, rfl⟩

theorem rotateBack (k s f v n : Int) (w : World) (hv : W64 v) :
    Calls Try.prog 25 #[iv k, iv s, iv f, iv v, iv n] w fun e w' => e = .returned (.tuple #[iv (Pl.rbV k s f v n), .bool (Pl.rbOk k s f v n)]) ∧ Below w.heap.size w w' := by
  by_cases hk : 4 ≤ k ∧ k ≤ 7
  · obtain ⟨k0, k1⟩ := hk
    have d0 : decide (k < 4) = false := by simp; omega
    have d1 : decide (7 < k) = false := by simp; omega
    cases ho : Pl.byOk k s f v n
    · have K : Hid (Pl.rbOk k s f v n = false ∧ Pl.rbV k s f v n = 0) := hide (by simp [Pl.rbV, Pl.rbOk, ho])
      go_enter Try.func25, Try.ntmps25
      go_wp2_with fail
      refine (shiftBy k s f v n _ hv).mono ?_
      rintro e w1 ⟨rfl, hb⟩
      go_wp2_with fail
      go_ret2
      exact ⟨rIB K.out.2.symm K.out.1.symm, hb⟩
    · have kr : Pl.rbOk k s f v n = true := by simp [Pl.rbOk, ho, k0]
      have K : Hid (Pl.rbOk k s f v n = true ∧ Pl.rbV k s f v n = v) := hide (by simp [Pl.rbV, kr])
      obtain ⟨_, t1, t2⟩ := Pl.turned_back kr
      have T2 := hide t2
      have hw : W64 (Pl.byVal k s f v n) := by
        obtain ⟨hg, n0, n1⟩ := Pl.byOk_ok ho
        obtain ⟨_, _, _, _, _, hf⟩ := Pl.goodK_ok hg
        obtain ⟨hs, u0, u1, _, _⟩ := Pl.st_fit (k := k) hf n.toNat
        have e : Pl.byVal k s f v n = (Pl.st k s (v, f / 16) n.toNat).1 := by simp [Pl.byVal, ho]
        rw [e]
        rcases Pl.top12 hs with ⟨_, e⟩ | ⟨_, e⟩ <;> rw [e] at u1 <;> exact ⟨by omega, by omega⟩
      clear t2 kr
      go_enter Try.func25, Try.ntmps25
      go_wp2_with fail
      refine (shiftBy k s f v n _ hv).mono ?_
      rintro e w1 ⟨rfl, hb⟩
      go_wp2_with fail
      refine (otherWay k _ k0 k1).mono ?_
      rintro e w2 ⟨rfl, rfl⟩
      go_wp2_with fail
      refine (shiftBy (Pl.flip k) s _ _ n _ hw).mono ?_
      rintro e w3 ⟨rfl, hb2⟩
      go_wp2_with fail
      go_ret2
      exact ⟨rIB (T2.out.trans K.out.2.symm) K.out.1.symm, hb.trans (hb2.mono hb.size)⟩
  · have K : Hid (Pl.rbOk k s f v n = false ∧ Pl.rbV k s f v n = 0) := by
      have : Pl.rbOk k s f v n = false := by
        cases h : Pl.rbOk k s f v n
        · rfl
        · simp only [Pl.rbOk, Bool.and_eq_true, decide_eq_true_eq] at h
          have := Pl.goodK_ok (Pl.byOk_ok h.1).1
          omega
      exact hide (by simp [Pl.rbV, this])
    obtain d0 | ⟨d0, d1⟩ : decide (k < 4) = true ∨ (decide (k < 4) = false ∧ decide (7 < k) = true) := by simp; omega
    all_goals
      clear hk
      go_enter Try.func25, Try.ntmps25
      go_wp2_with fail
      go_ret2
      exact ⟨rIB K.out.2.symm K.out.1.symm, Below.refl _ _⟩
end Go.Proofs.Ytnmddmmmgdfknaa

namespace Go.Proofs.Ytnmddmmmgdfknaa
open Go.RowKit
set_option linter.unusedVariables false

theorem lawRotateBack (a0 a1 a2 a3 a4 : Int) (w0 : (Lit.int .i64 a0).wf = true) (w1 : (Lit.int .i64 a1).wf = true) (w2 : (Lit.int .i64 a2).wf = true) (w3 : (Lit.int .i64 a3).wf = true) (w4 : (Lit.int .i64 a4).wf = true) (w : World) :
    Calls Try.prog 7 #[.int .i64 a0, .int .i64 a1, .int .i64 a2, .int .i64 a3, .int .i64 a4] w fun e w' => e = .returned (.bool true) ∧ Below w.heap.size w w' := by
  go_enter Try.func7, Try.ntmps7
  go_wp2_with fail
  refine (specRotateBack a0 a1 a2 a3 a4 _).mono ?_
  rintro e w' ⟨rfl, rfl⟩
  go_wp2_with fail
  refine (rotateBack a0 a1 a2 a3 a4 _ (w64_of w3)).mono ?_
  rintro e w' ⟨rfl, hb⟩
  go_wp2_with fail
  go_ret
  exact ⟨rfl, hb⟩

end Go.Proofs.Ytnmddmmmgdfknaa

