/- What the program's choice among the eight moves answers, for each kind, of whatever size: new blocks alone. Which kinds of shift go through the kept bit. What the program lays ahead of the first place, and the flags that it tells of a row of bits: one contract a function. What the program's functions of chapter 3 answer, for every argument: one contract a function; new blocks alone. A region that draws its order, by what holds whatever has come up so far: every order at once. A frame of which some slots alone are written: for a drawn region walked by what holds, the frame a variable. -/
import Derived.Test.YtnmddmmmgdfknaaED2
import Derived.Test.YtnmddmmmgdfknaaED3
import Derived.Test.YtnmddmmmgdfknaaED1
import Derived.Laws.ResultCell
import Derived.RegionTactic
namespace Go.Proofs.Ytnmddmmmgdfknaa
open Go.RowKit
set_option linter.unusedVariables false
set_option linter.unusedSimpArgs false

theorem arithmeticUp (s v x f W : Int) (t : Bool) (w : World) (h : Pl.Fit s (v, x)) (hW : W = 8 * s) :
    Calls Try.prog 98 #[.agg #[iv v, iv W, iv x, iv f, .bool t]] w fun e w' => e = .returned (.agg #[iv (Pl.nv 0 s x v), iv W, iv (Pl.nx 0 s x v), iv (Pl.fell 0 s v), .bool (Pl.vfl 0 s x v)]) ∧ Below w.heap.size w w' := by
  obtain ⟨hs, v0, v1, x0, x1⟩ := h
  simp only at v0 v1 x0 x1
  subst hW
  rcases Pl.top12 hs with ⟨rfl, e⟩ | ⟨rfl, e⟩ <;> rw [e] at v1
  · exact arithmeticUp1 v x f t w v0 v1 x0 x1
  · exact arithmeticUp2 v x f t w v0 v1 x0 x1
theorem arithmeticDown (s v x f W : Int) (t : Bool) (w : World) (h : Pl.Fit s (v, x)) (hW : W = 8 * s) :
    Calls Try.prog 99 #[.agg #[iv v, iv W, iv x, iv f, .bool t]] w fun e w' => e = .returned (.agg #[iv (Pl.nv 1 s x v), iv W, iv (Pl.nx 1 s x v), iv (Pl.fell 1 s v), .bool t]) ∧ Below w.heap.size w w' := by
  obtain ⟨hs, v0, v1, x0, x1⟩ := h
  simp only at v0 v1 x0 x1
  subst hW
  rcases Pl.top12 hs with ⟨rfl, e⟩ | ⟨rfl, e⟩ <;> rw [e] at v1
  · exact arithmeticDown1 v x f t w v0 v1 x0 x1
  · exact arithmeticDown2 v x f t w v0 v1 x0 x1
theorem plainUp (s v x f W : Int) (t : Bool) (w : World) (h : Pl.Fit s (v, x)) (hW : W = 8 * s) :
    Calls Try.prog 100 #[.agg #[iv v, iv W, iv x, iv f, .bool t]] w fun e w' => e = .returned (.agg #[iv (Pl.nv 2 s x v), iv W, iv (Pl.nx 2 s x v), iv (Pl.fell 2 s v), .bool t]) ∧ Below w.heap.size w w' := by
  obtain ⟨hs, v0, v1, x0, x1⟩ := h
  simp only at v0 v1 x0 x1
  subst hW
  rcases Pl.top12 hs with ⟨rfl, e⟩ | ⟨rfl, e⟩ <;> rw [e] at v1
  · exact plainUp1 v x f t w v0 v1 x0 x1
  · exact plainUp2 v x f t w v0 v1 x0 x1
theorem plainDown (s v x f W : Int) (t : Bool) (w : World) (h : Pl.Fit s (v, x)) (hW : W = 8 * s) :
    Calls Try.prog 101 #[.agg #[iv v, iv W, iv x, iv f, .bool t]] w fun e w' => e = .returned (.agg #[iv (Pl.nv 3 s x v), iv W, iv (Pl.nx 3 s x v), iv (Pl.fell 3 s v), .bool t]) ∧ Below w.heap.size w w' := by
  obtain ⟨hs, v0, v1, x0, x1⟩ := h
  simp only at v0 v1 x0 x1
  subst hW
  rcases Pl.top12 hs with ⟨rfl, e⟩ | ⟨rfl, e⟩ <;> rw [e] at v1
  · exact plainDown1 v x f t w v0 v1 x0 x1
  · exact plainDown2 v x f t w v0 v1 x0 x1
theorem turnUp (s v x f W : Int) (t : Bool) (w : World) (h : Pl.Fit s (v, x)) (hW : W = 8 * s) :
    Calls Try.prog 102 #[.agg #[iv v, iv W, iv x, iv f, .bool t]] w fun e w' => e = .returned (.agg #[iv (Pl.nv 4 s x v), iv W, iv (Pl.nx 4 s x v), iv (Pl.fell 4 s v), .bool t]) ∧ Below w.heap.size w w' := by
  obtain ⟨hs, v0, v1, x0, x1⟩ := h
  simp only at v0 v1 x0 x1
  subst hW
  rcases Pl.top12 hs with ⟨rfl, e⟩ | ⟨rfl, e⟩ <;> rw [e] at v1
  · exact turnUp1 v x f t w v0 v1 x0 x1
  · exact turnUp2 v x f t w v0 v1 x0 x1
theorem turnDown (s v x f W : Int) (t : Bool) (w : World) (h : Pl.Fit s (v, x)) (hW : W = 8 * s) :
    Calls Try.prog 103 #[.agg #[iv v, iv W, iv x, iv f, .bool t]] w fun e w' => e = .returned (.agg #[iv (Pl.nv 5 s x v), iv W, iv (Pl.nx 5 s x v), iv (Pl.fell 5 s v), .bool t]) ∧ Below w.heap.size w w' := by
  obtain ⟨hs, v0, v1, x0, x1⟩ := h
  simp only at v0 v1 x0 x1
  subst hW
  rcases Pl.top12 hs with ⟨rfl, e⟩ | ⟨rfl, e⟩ <;> rw [e] at v1
  · exact turnDown1 v x f t w v0 v1 x0 x1
  · exact turnDown2 v x f t w v0 v1 x0 x1
theorem turnUpThroughExtend (s v x f W : Int) (t : Bool) (w : World) (h : Pl.Fit s (v, x)) (hW : W = 8 * s) :
    Calls Try.prog 104 #[.agg #[iv v, iv W, iv x, iv f, .bool t]] w fun e w' => e = .returned (.agg #[iv (Pl.nv 6 s x v), iv W, iv (Pl.nx 6 s x v), iv (Pl.fell 6 s v), .bool t]) ∧ Below w.heap.size w w' := by
  obtain ⟨hs, v0, v1, x0, x1⟩ := h
  simp only at v0 v1 x0 x1
  subst hW
  rcases Pl.top12 hs with ⟨rfl, e⟩ | ⟨rfl, e⟩ <;> rw [e] at v1
  · exact turnUpThroughExtend1 v x f t w v0 v1 x0 x1
  · exact turnUpThroughExtend2 v x f t w v0 v1 x0 x1
theorem turnDownThroughExtend (s v x f W : Int) (t : Bool) (w : World) (h : Pl.Fit s (v, x)) (hW : W = 8 * s) :
    Calls Try.prog 105 #[.agg #[iv v, iv W, iv x, iv f, .bool t]] w fun e w' => e = .returned (.agg #[iv (Pl.nv 7 s x v), iv W, iv (Pl.nx 7 s x v), iv (Pl.fell 7 s v), .bool t]) ∧ Below w.heap.size w w' := by
  obtain ⟨hs, v0, v1, x0, x1⟩ := h
  simp only at v0 v1 x0 x1
  subst hW
  rcases Pl.top12 hs with ⟨rfl, e⟩ | ⟨rfl, e⟩ <;> rw [e] at v1
  · exact turnDownThroughExtend1 v x f t w v0 v1 x0 x1
  · exact turnDownThroughExtend2 v x f t w v0 v1 x0 x1
set_option maxHeartbeats 4000000 in
theorem moved0 (s v x f W : Int) (t : Bool) (w : World) (h : Pl.Fit s (v, x)) (hW : W = 8 * s) :
    Calls Try.prog 54 #[.agg #[iv v, iv W, iv x, iv f, .bool t], iv 0] w fun e w' => e = .returned (.agg #[iv (Pl.nv 0 s x v), iv W, iv (Pl.nx 0 s x v), iv (Pl.fell 0 s v), .bool (Pl.vfl 0 s x v)]) ∧ Below w.heap.size w w' := by
  have hst := store_func
  have E4 : Hid (Pl.vfl 0 s x v = Pl.vfl 0 s x v) := hide (by rfl)
  have HF := hide h
  have HWW := hide hW
  clear h hW
  go_enter Try.func54, Try.ntmps54
  go_wp2_with fail
  clear hst
  obtain ⟨X, hX⟩ : ∃ X : World, X = (((w.alloc (.cells #[iv v, iv W, iv x, iv f, .bool t] 78)).alloc (.cells ftZ 78)).alloc (.cells #[.func (.func 98) #[] #[], .func (.func 99) #[] #[], .func (.func 100) #[] #[], .func (.func 101) #[] #[], .func (.func 102) #[] #[], .func (.func 103) #[] #[], .func (.func 104) #[] #[], .func (.func 105) #[] #[]] 106)) := ⟨_, rfl⟩
  rw [← hX]
  have B1 : Box X w.heap.size v W x f t := by rw [hX]; exact Box.new1 _ _ _ _ _ _ _ _
  have B2 : Box X (w.heap.size + 1) 0 0 0 0 false := by rw [hX]; exact Box.new2 _ _ _ _ _ _ _ _
  have hF : X.cell? ⟨w.heap.size + 1 + 1, 0, none⟩ = some (.func (.func 98) #[] #[]) := by rw [hX]; go_simp
  have HX : Hid (Below w.heap.size w X) := hide (by rw [hX]; exact (((Below.refl _ _).alloc (by simp) _).alloc (by simp) _).alloc (by simp <;> omega) _)
  clear hX
  obtain ⟨a0, a1, a2, a3, a4, _, _, _, _, _⟩ := B1.cells
  have HB2 := hide B2
  clear B1 B2
  go_region_with (go_at_call 98; refine (arithmeticUp s v x f W t _ HF.out HWW.out).mono ?_; rintro e wt ⟨rfl, hb0⟩; have hb := undrew hb0; clear hb0; have HBt := hide (HB2.out.later hb); obtain ⟨c0, c1, c2, c3, c4, g0, g1, g2, g3, g4⟩ := HBt.out.cells; have HB := hide hb; clear hb a0 a1 a2 a3 a4 hF)
  all_goals
    go_wp2_with fail
    refine bodyPost_ret (v := .agg #[iv (Pl.nv 0 s x v), iv W, iv (Pl.nx 0 s x v), iv (Pl.fell 0 s v), .bool (Pl.vfl 0 s x v)]) ?_ rfl ⟨?_, ?_⟩
    · exact results_box rfl _ rfl (HBt.out.set)
    · exact rA rfl rfl rfl rfl rfl
    · exact (((((HX.out.trans (HB.out.mono HX.out.size)).setCell (by simp) _).setCell (by simp) _).setCell (by simp) _).setCell (by simp) _).setCell (by simp) _
set_option maxHeartbeats 4000000 in
theorem moved1 (s v x f W : Int) (w : World) (h : Pl.Fit s (v, x)) (hW : W = 8 * s) :
    Calls Try.prog 54 #[.agg #[iv v, iv W, iv x, iv f, .bool false], iv 1] w fun e w' => e = .returned (.agg #[iv (Pl.nv 1 s x v), iv W, iv (Pl.nx 1 s x v), iv (Pl.fell 1 s v), .bool (Pl.vfl 1 s x v)]) ∧ Below w.heap.size w w' := by
  have hst := store_func
  have E4 : Hid (false = Pl.vfl 1 s x v) := hide (by simp [Pl.vfl])
  have HF := hide h
  have HWW := hide hW
  clear h hW
  go_enter Try.func54, Try.ntmps54
  go_wp2_with fail
  clear hst
  obtain ⟨X, hX⟩ : ∃ X : World, X = (((w.alloc (.cells #[iv v, iv W, iv x, iv f, .bool false] 78)).alloc (.cells ftZ 78)).alloc (.cells #[.func (.func 98) #[] #[], .func (.func 99) #[] #[], .func (.func 100) #[] #[], .func (.func 101) #[] #[], .func (.func 102) #[] #[], .func (.func 103) #[] #[], .func (.func 104) #[] #[], .func (.func 105) #[] #[]] 106)) := ⟨_, rfl⟩
  rw [← hX]
  have B1 : Box X w.heap.size v W x f false := by rw [hX]; exact Box.new1 _ _ _ _ _ _ _ _
  have B2 : Box X (w.heap.size + 1) 0 0 0 0 false := by rw [hX]; exact Box.new2 _ _ _ _ _ _ _ _
  have hF : X.cell? ⟨w.heap.size + 1 + 1, 1, none⟩ = some (.func (.func 99) #[] #[]) := by rw [hX]; go_simp
  have HX : Hid (Below w.heap.size w X) := hide (by rw [hX]; exact (((Below.refl _ _).alloc (by simp) _).alloc (by simp) _).alloc (by simp <;> omega) _)
  clear hX
  obtain ⟨a0, a1, a2, a3, a4, _, _, _, _, _⟩ := B1.cells
  have HB2 := hide B2
  clear B1 B2
  go_region_with (go_at_call 99; refine (arithmeticDown s v x f W false _ HF.out HWW.out).mono ?_; rintro e wt ⟨rfl, hb0⟩; have hb := undrew hb0; clear hb0; have HBt := hide (HB2.out.later hb); obtain ⟨c0, c1, c2, c3, c4, g0, g1, g2, g3, g4⟩ := HBt.out.cells; have HB := hide hb; clear hb a0 a1 a2 a3 a4 hF)
  all_goals
    go_wp2_with fail
    refine bodyPost_ret (v := .agg #[iv (Pl.nv 1 s x v), iv W, iv (Pl.nx 1 s x v), iv (Pl.fell 1 s v), .bool false]) ?_ rfl ⟨?_, ?_⟩
    · exact results_box rfl _ rfl (HBt.out.set)
    · exact rA rfl rfl rfl rfl E4.out
    · exact (((((HX.out.trans (HB.out.mono HX.out.size)).setCell (by simp) _).setCell (by simp) _).setCell (by simp) _).setCell (by simp) _).setCell (by simp) _
set_option maxHeartbeats 4000000 in
theorem moved2 (s v x f W : Int) (w : World) (h : Pl.Fit s (v, x)) (hW : W = 8 * s) :
    Calls Try.prog 54 #[.agg #[iv v, iv W, iv x, iv f, .bool false], iv 2] w fun e w' => e = .returned (.agg #[iv (Pl.nv 2 s x v), iv W, iv (Pl.nx 2 s x v), iv (Pl.fell 2 s v), .bool (Pl.vfl 2 s x v)]) ∧ Below w.heap.size w w' := by
  have hst := store_func
  have E4 : Hid (false = Pl.vfl 2 s x v) := hide (by simp [Pl.vfl])
  have HF := hide h
  have HWW := hide hW
  clear h hW
  go_enter Try.func54, Try.ntmps54
  go_wp2_with fail
  clear hst
  obtain ⟨X, hX⟩ : ∃ X : World, X = (((w.alloc (.cells #[iv v, iv W, iv x, iv f, .bool false] 78)).alloc (.cells ftZ 78)).alloc (.cells #[.func (.func 98) #[] #[], .func (.func 99) #[] #[], .func (.func 100) #[] #[], .func (.func 101) #[] #[], .func (.func 102) #[] #[], .func (.func 103) #[] #[], .func (.func 104) #[] #[], .func (.func 105) #[] #[]] 106)) := ⟨_, rfl⟩
  rw [← hX]
  have B1 : Box X w.heap.size v W x f false := by rw [hX]; exact Box.new1 _ _ _ _ _ _ _ _
  have B2 : Box X (w.heap.size + 1) 0 0 0 0 false := by rw [hX]; exact Box.new2 _ _ _ _ _ _ _ _
  have hF : X.cell? ⟨w.heap.size + 1 + 1, 2, none⟩ = some (.func (.func 100) #[] #[]) := by rw [hX]; go_simp
  have HX : Hid (Below w.heap.size w X) := hide (by rw [hX]; exact (((Below.refl _ _).alloc (by simp) _).alloc (by simp) _).alloc (by simp <;> omega) _)
  clear hX
  obtain ⟨a0, a1, a2, a3, a4, _, _, _, _, _⟩ := B1.cells
  have HB2 := hide B2
  clear B1 B2
  go_region_with (go_at_call 100; refine (plainUp s v x f W false _ HF.out HWW.out).mono ?_; rintro e wt ⟨rfl, hb0⟩; have hb := undrew hb0; clear hb0; have HBt := hide (HB2.out.later hb); obtain ⟨c0, c1, c2, c3, c4, g0, g1, g2, g3, g4⟩ := HBt.out.cells; have HB := hide hb; clear hb a0 a1 a2 a3 a4 hF)
  all_goals
    go_wp2_with fail
    refine bodyPost_ret (v := .agg #[iv (Pl.nv 2 s x v), iv W, iv (Pl.nx 2 s x v), iv (Pl.fell 2 s v), .bool false]) ?_ rfl ⟨?_, ?_⟩
    · exact results_box rfl _ rfl (HBt.out.set)
    · exact rA rfl rfl rfl rfl E4.out
    · exact (((((HX.out.trans (HB.out.mono HX.out.size)).setCell (by simp) _).setCell (by simp) _).setCell (by simp) _).setCell (by simp) _).setCell (by simp) _
set_option maxHeartbeats 4000000 in
theorem moved3 (s v x f W : Int) (w : World) (h : Pl.Fit s (v, x)) (hW : W = 8 * s) :
    Calls Try.prog 54 #[.agg #[iv v, iv W, iv x, iv f, .bool false], iv 3] w fun e w' => e = .returned (.agg #[iv (Pl.nv 3 s x v), iv W, iv (Pl.nx 3 s x v), iv (Pl.fell 3 s v), .bool (Pl.vfl 3 s x v)]) ∧ Below w.heap.size w w' := by
  have hst := store_func
  have E4 : Hid (false = Pl.vfl 3 s x v) := hide (by simp [Pl.vfl])
  have HF := hide h
  have HWW := hide hW
  clear h hW
  go_enter Try.func54, Try.ntmps54
  go_wp2_with fail
  clear hst
  obtain ⟨X, hX⟩ : ∃ X : World, X = (((w.alloc (.cells #[iv v, iv W, iv x, iv f, .bool false] 78)).alloc (.cells ftZ 78)).alloc (.cells #[.func (.func 98) #[] #[], .func (.func 99) #[] #[], .func (.func 100) #[] #[], .func (.func 101) #[] #[], .func (.func 102) #[] #[], .func (.func 103) #[] #[], .func (.func 104) #[] #[], .func (.func 105) #[] #[]] 106)) := ⟨_, rfl⟩
  rw [← hX]
  have B1 : Box X w.heap.size v W x f false := by rw [hX]; exact Box.new1 _ _ _ _ _ _ _ _
  have B2 : Box X (w.heap.size + 1) 0 0 0 0 false := by rw [hX]; exact Box.new2 _ _ _ _ _ _ _ _
  have hF : X.cell? ⟨w.heap.size + 1 + 1, 3, none⟩ = some (.func (.func 101) #[] #[]) := by rw [hX]; go_simp
  have HX : Hid (Below w.heap.size w X) := hide (by rw [hX]; exact (((Below.refl _ _).alloc (by simp) _).alloc (by simp) _).alloc (by simp <;> omega) _)
  clear hX
  obtain ⟨a0, a1, a2, a3, a4, _, _, _, _, _⟩ := B1.cells
  have HB2 := hide B2
  clear B1 B2
  go_region_with (go_at_call 101; refine (plainDown s v x f W false _ HF.out HWW.out).mono ?_; rintro e wt ⟨rfl, hb0⟩; have hb := undrew hb0; clear hb0; have HBt := hide (HB2.out.later hb); obtain ⟨c0, c1, c2, c3, c4, g0, g1, g2, g3, g4⟩ := HBt.out.cells; have HB := hide hb; clear hb a0 a1 a2 a3 a4 hF)
  all_goals
    go_wp2_with fail
    refine bodyPost_ret (v := .agg #[iv (Pl.nv 3 s x v), iv W, iv (Pl.nx 3 s x v), iv (Pl.fell 3 s v), .bool false]) ?_ rfl ⟨?_, ?_⟩
    · exact results_box rfl _ rfl (HBt.out.set)
    · exact rA rfl rfl rfl rfl E4.out
    · exact (((((HX.out.trans (HB.out.mono HX.out.size)).setCell (by simp) _).setCell (by simp) _).setCell (by simp) _).setCell (by simp) _).setCell (by simp) _
set_option maxHeartbeats 4000000 in
theorem moved4 (s v x f W : Int) (w : World) (h : Pl.Fit s (v, x)) (hW : W = 8 * s) :
    Calls Try.prog 54 #[.agg #[iv v, iv W, iv x, iv f, .bool false], iv 4] w fun e w' => e = .returned (.agg #[iv (Pl.nv 4 s x v), iv W, iv (Pl.nx 4 s x v), iv (Pl.fell 4 s v), .bool (Pl.vfl 4 s x v)]) ∧ Below w.heap.size w w' := by
  have hst := store_func
  have E4 : Hid (false = Pl.vfl 4 s x v) := hide (by simp [Pl.vfl])
  have HF := hide h
  have HWW := hide hW
  clear h hW
  go_enter Try.func54, Try.ntmps54
  go_wp2_with fail
  clear hst
  obtain ⟨X, hX⟩ : ∃ X : World, X = (((w.alloc (.cells #[iv v, iv W, iv x, iv f, .bool false] 78)).alloc (.cells ftZ 78)).alloc (.cells #[.func (.func 98) #[] #[], .func (.func 99) #[] #[], .func (.func 100) #[] #[], .func (.func 101) #[] #[], .func (.func 102) #[] #[], .func (.func 103) #[] #[], .func (.func 104) #[] #[], .func (.func 105) #[] #[]] 106)) := ⟨_, rfl⟩
  rw [← hX]
  have B1 : Box X w.heap.size v W x f false := by rw [hX]; exact Box.new1 _ _ _ _ _ _ _ _
  have B2 : Box X (w.heap.size + 1) 0 0 0 0 false := by rw [hX]; exact Box.new2 _ _ _ _ _ _ _ _
  have hF : X.cell? ⟨w.heap.size + 1 + 1, 4, none⟩ = some (.func (.func 102) #[] #[]) := by rw [hX]; go_simp
  have HX : Hid (Below w.heap.size w X) := hide (by rw [hX]; exact (((Below.refl _ _).alloc (by simp) _).alloc (by simp) _).alloc (by simp <;> omega) _)
  clear hX
  obtain ⟨a0, a1, a2, a3, a4, _, _, _, _, _⟩ := B1.cells
  have HB2 := hide B2
  clear B1 B2
  go_region_with (go_at_call 102; refine (turnUp s v x f W false _ HF.out HWW.out).mono ?_; rintro e wt ⟨rfl, hb0⟩; have hb := undrew hb0; clear hb0; have HBt := hide (HB2.out.later hb); obtain ⟨c0, c1, c2, c3, c4, g0, g1, g2, g3, g4⟩ := HBt.out.cells; have HB := hide hb; clear hb a0 a1 a2 a3 a4 hF)
  all_goals
    go_wp2_with fail
    refine bodyPost_ret (v := .agg #[iv (Pl.nv 4 s x v), iv W, iv (Pl.nx 4 s x v), iv (Pl.fell 4 s v), .bool false]) ?_ rfl ⟨?_, ?_⟩
    · exact results_box rfl _ rfl (HBt.out.set)
    · exact rA rfl rfl rfl rfl E4.out
    · exact (((((HX.out.trans (HB.out.mono HX.out.size)).setCell (by simp) _).setCell (by simp) _).setCell (by simp) _).setCell (by simp) _).setCell (by simp) _
set_option maxHeartbeats 4000000 in
theorem moved5 (s v x f W : Int) (w : World) (h : Pl.Fit s (v, x)) (hW : W = 8 * s) :
    Calls Try.prog 54 #[.agg #[iv v, iv W, iv x, iv f, .bool false], iv 5] w fun e w' => e = .returned (.agg #[iv (Pl.nv 5 s x v), iv W, iv (Pl.nx 5 s x v), iv (Pl.fell 5 s v), .bool (Pl.vfl 5 s x v)]) ∧ Below w.heap.size w w' := by
  have hst := store_func
  have E4 : Hid (false = Pl.vfl 5 s x v) := hide (by simp [Pl.vfl])
  have HF := hide h
  have HWW := hide hW
  clear h hW
  go_enter Try.func54, Try.ntmps54
  go_wp2_with fail
  clear hst
  obtain ⟨X, hX⟩ : ∃ X : World, X = (((w.alloc (.cells #[iv v, iv W, iv x, iv f, .bool false] 78)).alloc (.cells ftZ 78)).alloc (.cells #[.func (.func 98) #[] #[], .func (.func 99) #[] #[], .func (.func 100) #[] #[], .func (.func 101) #[] #[], .func (.func 102) #[] #[], .func (.func 103) #[] #[], .func (.func 104) #[] #[], .func (.func 105) #[] #[]] 106)) := ⟨_, rfl⟩
  rw [← hX]
  have B1 : Box X w.heap.size v W x f false := by rw [hX]; exact Box.new1 _ _ _ _ _ _ _ _
  have B2 : Box X (w.heap.size + 1) 0 0 0 0 false := by rw [hX]; exact Box.new2 _ _ _ _ _ _ _ _
  have hF : X.cell? ⟨w.heap.size + 1 + 1, 5, none⟩ = some (.func (.func 103) #[] #[]) := by rw [hX]; go_simp
  have HX : Hid (Below w.heap.size w X) := hide (by rw [hX]; exact (((Below.refl _ _).alloc (by simp) _).alloc (by simp) _).alloc (by simp <;> omega) _)
  clear hX
  obtain ⟨a0, a1, a2, a3, a4, _, _, _, _, _⟩ := B1.cells
  have HB2 := hide B2
  clear B1 B2
  go_region_with (go_at_call 103; refine (turnDown s v x f W false _ HF.out HWW.out).mono ?_; rintro e wt ⟨rfl, hb0⟩; have hb := undrew hb0; clear hb0; have HBt := hide (HB2.out.later hb); obtain ⟨c0, c1, c2, c3, c4, g0, g1, g2, g3, g4⟩ := HBt.out.cells; have HB := hide hb; clear hb a0 a1 a2 a3 a4 hF)
  all_goals
    go_wp2_with fail
    refine bodyPost_ret (v := .agg #[iv (Pl.nv 5 s x v), iv W, iv (Pl.nx 5 s x v), iv (Pl.fell 5 s v), .bool false]) ?_ rfl ⟨?_, ?_⟩
    · exact results_box rfl _ rfl (HBt.out.set)
    · exact rA rfl rfl rfl rfl E4.out
    · exact (((((HX.out.trans (HB.out.mono HX.out.size)).setCell (by simp) _).setCell (by simp) _).setCell (by simp) _).setCell (by simp) _).setCell (by simp) _
set_option maxHeartbeats 4000000 in
theorem moved6 (s v x f W : Int) (w : World) (h : Pl.Fit s (v, x)) (hW : W = 8 * s) :
    Calls Try.prog 54 #[.agg #[iv v, iv W, iv x, iv f, .bool false], iv 6] w fun e w' => e = .returned (.agg #[iv (Pl.nv 6 s x v), iv W, iv (Pl.nx 6 s x v), iv (Pl.fell 6 s v), .bool (Pl.vfl 6 s x v)]) ∧ Below w.heap.size w w' := by
  have hst := store_func
  have E4 : Hid (false = Pl.vfl 6 s x v) := hide (by simp [Pl.vfl])
  have HF := hide h
  have HWW := hide hW
  clear h hW
  go_enter Try.func54, Try.ntmps54
  go_wp2_with fail
  clear hst
  obtain ⟨X, hX⟩ : ∃ X : World, X = (((w.alloc (.cells #[iv v, iv W, iv x, iv f, .bool false] 78)).alloc (.cells ftZ 78)).alloc (.cells #[.func (.func 98) #[] #[], .func (.func 99) #[] #[], .func (.func 100) #[] #[], .func (.func 101) #[] #[], .func (.func 102) #[] #[], .func (.func 103) #[] #[], .func (.func 104) #[] #[], .func (.func 105) #[] #[]] 106)) := ⟨_, rfl⟩
  rw [← hX]
  have B1 : Box X w.heap.size v W x f false := by rw [hX]; exact Box.new1 _ _ _ _ _ _ _ _
  have B2 : Box X (w.heap.size + 1) 0 0 0 0 false := by rw [hX]; exact Box.new2 _ _ _ _ _ _ _ _
  have hF : X.cell? ⟨w.heap.size + 1 + 1, 6, none⟩ = some (.func (.func 104) #[] #[]) := by rw [hX]; go_simp
  have HX : Hid (Below w.heap.size w X) := hide (by rw [hX]; exact (((Below.refl _ _).alloc (by simp) _).alloc (by simp) _).alloc (by simp <;> omega) _)
  clear hX
  obtain ⟨a0, a1, a2, a3, a4, _, _, _, _, _⟩ := B1.cells
  have HB2 := hide B2
  clear B1 B2
  go_region_with (go_at_call 104; refine (turnUpThroughExtend s v x f W false _ HF.out HWW.out).mono ?_; rintro e wt ⟨rfl, hb0⟩; have hb := undrew hb0; clear hb0; have HBt := hide (HB2.out.later hb); obtain ⟨c0, c1, c2, c3, c4, g0, g1, g2, g3, g4⟩ := HBt.out.cells; have HB := hide hb; clear hb a0 a1 a2 a3 a4 hF)
  all_goals
    go_wp2_with fail
    refine bodyPost_ret (v := .agg #[iv (Pl.nv 6 s x v), iv W, iv (Pl.nx 6 s x v), iv (Pl.fell 6 s v), .bool false]) ?_ rfl ⟨?_, ?_⟩
    · exact results_box rfl _ rfl (HBt.out.set)
    · exact rA rfl rfl rfl rfl E4.out
    · exact (((((HX.out.trans (HB.out.mono HX.out.size)).setCell (by simp) _).setCell (by simp) _).setCell (by simp) _).setCell (by simp) _).setCell (by simp) _
set_option maxHeartbeats 4000000 in
theorem moved7 (s v x f W : Int) (w : World) (h : Pl.Fit s (v, x)) (hW : W = 8 * s) :
    Calls Try.prog 54 #[.agg #[iv v, iv W, iv x, iv f, .bool false], iv 7] w fun e w' => e = .returned (.agg #[iv (Pl.nv 7 s x v), iv W, iv (Pl.nx 7 s x v), iv (Pl.fell 7 s v), .bool (Pl.vfl 7 s x v)]) ∧ Below w.heap.size w w' := by
  have hst := store_func
  have E4 : Hid (false = Pl.vfl 7 s x v) := hide (by simp [Pl.vfl])
  have HF := hide h
  have HWW := hide hW
  clear h hW
  go_enter Try.func54, Try.ntmps54
  go_wp2_with fail
  clear hst
  obtain ⟨X, hX⟩ : ∃ X : World, X = (((w.alloc (.cells #[iv v, iv W, iv x, iv f, .bool false] 78)).alloc (.cells ftZ 78)).alloc (.cells #[.func (.func 98) #[] #[], .func (.func 99) #[] #[], .func (.func 100) #[] #[], .func (.func 101) #[] #[], .func (.func 102) #[] #[], .func (.func 103) #[] #[], .func (.func 104) #[] #[], .func (.func 105) #[] #[]] 106)) := ⟨_, rfl⟩
  rw [← hX]
  have B1 : Box X w.heap.size v W x f false := by rw [hX]; exact Box.new1 _ _ _ _ _ _ _ _
  have B2 : Box X (w.heap.size + 1) 0 0 0 0 false := by rw [hX]; exact Box.new2 _ _ _ _ _ _ _ _
  have hF : X.cell? ⟨w.heap.size + 1 + 1, 7, none⟩ = some (.func (.func 105) #[] #[]) := by rw [hX]; go_simp
  have HX : Hid (Below w.heap.size w X) := hide (by rw [hX]; exact (((Below.refl _ _).alloc (by simp) _).alloc (by simp) _).alloc (by simp <;> omega) _)
  clear hX
  obtain ⟨a0, a1, a2, a3, a4, _, _, _, _, _⟩ := B1.cells
  have HB2 := hide B2
  clear B1 B2
  go_region_with (go_at_call 105; refine (turnDownThroughExtend s v x f W false _ HF.out HWW.out).mono ?_; rintro e wt ⟨rfl, hb0⟩; have hb := undrew hb0; clear hb0; have HBt := hide (HB2.out.later hb); obtain ⟨c0, c1, c2, c3, c4, g0, g1, g2, g3, g4⟩ := HBt.out.cells; have HB := hide hb; clear hb a0 a1 a2 a3 a4 hF)
  all_goals
    go_wp2_with fail
    refine bodyPost_ret (v := .agg #[iv (Pl.nv 7 s x v), iv W, iv (Pl.nx 7 s x v), iv (Pl.fell 7 s v), .bool false]) ?_ rfl ⟨?_, ?_⟩
    · exact results_box rfl _ rfl (HBt.out.set)
    · exact rA rfl rfl rfl rfl E4.out
    · exact (((((HX.out.trans (HB.out.mono HX.out.size)).setCell (by simp) _).setCell (by simp) _).setCell (by simp) _).setCell (by simp) _).setCell (by simp) _

/-- one place, of whatever kind and size -/
theorem moved (k s v x f W : Int) (t : Bool) (w : World) (k0 : 0 ≤ k) (k1 : k ≤ 7) (h : Pl.Fit s (v, x)) (hW : W = 8 * s) (ht : k = 0 ∨ t = false) :
    Calls Try.prog 54 #[.agg #[iv v, iv W, iv x, iv f, .bool t], iv k] w fun e w' => e = .returned (.agg #[iv (Pl.nv k s x v), iv W, iv (Pl.nx k s x v), iv (Pl.fell k s v), .bool (Pl.vfl k s x v)]) ∧ Below w.heap.size w w' := by
  have hk : k = 0 ∨ k = 1 ∨ k = 2 ∨ k = 3 ∨ k = 4 ∨ k = 5 ∨ k = 6 ∨ k = 7 := by omega
  rcases hk with rfl | rfl | rfl | rfl | rfl | rfl | rfl | rfl
  · exact moved0 s v x f W t w h hW
  · obtain rfl : t = false := ht.resolve_left (by decide)
    exact moved1 s v x f W w h hW
  · obtain rfl : t = false := ht.resolve_left (by decide)
    exact moved2 s v x f W w h hW
  · obtain rfl : t = false := ht.resolve_left (by decide)
    exact moved3 s v x f W w h hW
  · obtain rfl : t = false := ht.resolve_left (by decide)
    exact moved4 s v x f W w h hW
  · obtain rfl : t = false := ht.resolve_left (by decide)
    exact moved5 s v x f W w h hW
  · obtain rfl : t = false := ht.resolve_left (by decide)
    exact moved6 s v x f W w h hW
  · obtain rfl : t = false := ht.resolve_left (by decide)
    exact moved7 s v x f W w h hW
end Go.Proofs.Ytnmddmmmgdfknaa

namespace Go.Proofs.Ytnmddmmmgdfknaa
open Go.RowKit
set_option linter.unusedVariables false
def Pl.thr (k : Int) : Bool := (k == 6) || (k == 7)
theorem goesX (k : Int) (w : World) : Calls Try.prog 97 #[iv k] w fun e w' => e = .returned (.bool (Pl.thr k)) ∧ w' = w := by
  by_cases h : k = 6
  all_goals
    go_enter Try.func97, Try.ntmps97
    go_wp2
    go_ret
    exact ⟨rB (by simp [Pl.thr, h]), rfl⟩
end Go.Proofs.Ytnmddmmmgdfknaa

namespace Go.Proofs.Ytnmddmmmgdfknaa
open Go.RowKit
set_option linter.unusedVariables false
set_option linter.unusedSimpArgs false

theorem flagsIfR (b : Bool) (f : Int) (w : World) :
    Calls Try.prog 81 #[.bool b, iv f] w fun e w' => e = .returned (iv (Pl.fl b f)) ∧ w' = w := by
  cases b
  all_goals
    go_enter Try.func81, Try.ntmps81
    go_wp2
    go_ret
    exact ⟨rfl, rfl⟩
theorem widthOf (s : Int) (w : World) (s0 : 0 ≤ s) (s1 : s ≤ 2) :
    Calls Try.prog 69 #[iv s] w fun e w' => e = .returned (iv (8 * s)) ∧ w' = w := by
  go_enter Try.func69, Try.ntmps69
  go_wp2
  go_ret
  exact ⟨rI (by omega), rfl⟩
theorem isShift (k : Int) (w : World) :
    Calls Try.prog 62 #[iv k] w fun e w' => e = .returned (.bool (Pl.kin k)) ∧ w' = w := by
  by_cases h0 : 0 ≤ k
  all_goals
    by_cases h1 : k ≤ 7
    all_goals
      go_enter Try.func62, Try.ntmps62
      go_wp2
      go_ret
      exact ⟨rB (by simp [Pl.kin]; omega), rfl⟩
theorem isFlagsR (f : Int) (w : World) :
    Calls Try.prog 82 #[iv f] w fun e w' => e = .returned (.bool (Pl.flags f)) ∧ w' = w := by
  by_cases h0 : 0 ≤ f
  all_goals
    by_cases h1 : f ≤ 31
    all_goals
      go_enter Try.func82, Try.ntmps82
      go_wp2
      go_ret
      exact ⟨rB (by simp [Pl.flags]; omega), rfl⟩
theorem Pl.five {x f h : Int} {t z : Bool} (hx : x = 0 ∨ x = 1) (hf : f = 0 ∨ f = 1) (hh : h = 0 ∨ h = 1) :
    bits .or .i64 (bits .or .i64 (bits .or .i64 (bits .or .i64 (Pl.fl (f == 1) 1) (Pl.fl t 2)) (Pl.fl z 4)) (Pl.fl (h == 1) 8)) (Pl.fl (x == 1) 16) = f + Pl.fl t 2 + (Pl.fl z 4 + Pl.fl (h == 1) 8) + 16 * x := by
  rcases hx with rfl | rfl <;> rcases hf with rfl | rfl <;> rcases hh with rfl | rfl <;> cases t <;> cases z <;> decide
theorem Pl.hi_top (s v : Int) : (Pl.hi s v == 1) = decide (Pl.top s / 2 ≤ v) := by
  unfold Pl.hi; split
  · rename_i h; simp [h]
  · rename_i h; simp [h]
theorem flags1 (v x f : Int) (t : Bool) (w : World) (h0 : 0 ≤ v) (h1 : v < 256) (x0 : 0 ≤ x) (x1 : x ≤ 1) (f0 : 0 ≤ f) (f1 : f ≤ 1) :
    Calls Try.prog 55 #[.agg #[iv v, iv 8, iv x, iv f, .bool t]] w fun e w' => e = .returned (iv (f + Pl.fl t 2 + Pl.zn 1 v + 16 * x)) ∧ ∃ o1 o2, w' = (w.alloc o1).alloc o2 := by
  go_enter Try.func55, Try.ntmps55
  go_wp2_with (first | (go_at_call 81; refine (flagsIfR _ _ _).mono ?_; rintro e w' ⟨rfl, rfl⟩) | (go_at_call 106; refine (highest1 _ _ _ _ _ h0 h1).mono ?_; rintro e w' ⟨rfl, o, rfl⟩))
  go_ret
  obtain ⟨b0, b1⟩ := Pl.hi_bd 1 v
  refine ⟨rI ?_, _, _, rfl⟩
  show bits .or .i64 _ _ = _
  rw [Pl.five (by omega) (by omega) (by omega), Pl.hi_top]; rfl
theorem flags2 (v x f : Int) (t : Bool) (w : World) (h0 : 0 ≤ v) (h1 : v < 65536) (x0 : 0 ≤ x) (x1 : x ≤ 1) (f0 : 0 ≤ f) (f1 : f ≤ 1) :
    Calls Try.prog 55 #[.agg #[iv v, iv 16, iv x, iv f, .bool t]] w fun e w' => e = .returned (iv (f + Pl.fl t 2 + Pl.zn 2 v + 16 * x)) ∧ ∃ o1 o2, w' = (w.alloc o1).alloc o2 := by
  go_enter Try.func55, Try.ntmps55
  go_wp2_with (first | (go_at_call 81; refine (flagsIfR _ _ _).mono ?_; rintro e w' ⟨rfl, rfl⟩) | (go_at_call 106; refine (highest2 _ _ _ _ _ h0 h1).mono ?_; rintro e w' ⟨rfl, o, rfl⟩))
  go_ret
  obtain ⟨b0, b1⟩ := Pl.hi_bd 2 v
  refine ⟨rI ?_, _, _, rfl⟩
  show bits .or .i64 _ _ = _
  rw [Pl.five (by omega) (by omega) (by omega), Pl.hi_top]; rfl
theorem flags5 (s v x f W : Int) (t : Bool) (w : World) (h : Pl.Fit s (v, x)) (hW : W = 8 * s) (f0 : 0 ≤ f) (f1 : f ≤ 1) :
    Calls Try.prog 55 #[.agg #[iv v, iv W, iv x, iv f, .bool t]] w fun e w' => e = .returned (iv (f + Pl.fl t 2 + Pl.zn s v + 16 * x)) ∧ ∃ o1 o2, w' = (w.alloc o1).alloc o2 := by
  obtain ⟨hs, v0, v1, x0, x1⟩ := h
  simp only at v0 v1 x0 x1
  subst hW
  rcases Pl.top12 hs with ⟨rfl, e⟩ | ⟨rfl, e⟩ <;> rw [e] at v1
  · exact flags1 v x f t w v0 v1 x0 x1 f0 f1
  · exact flags2 v x f t w v0 v1 x0 x1 f0 f1
theorem rowOf_bad (k s f v : Int) (w : World) (lo : -9223372036854775808 ≤ v) (hi : v ≤ 9223372036854775807) (h : Pl.goodK k s f v = false) :
    Calls Try.prog 53 #[iv k, iv s, iv f, iv v] w fun e w' => e = .returned (.tuple #[.agg ftZ, .bool false]) ∧ Below w.heap.size w w' := by
  have H : (Pl.okv s v = false) ∨ (Pl.okv s v = true ∧ Pl.flags f = false) ∨ (Pl.okv s v = true ∧ Pl.flags f = true ∧ Pl.kin k = false) := by
    unfold Pl.goodK at h
    unfold Pl.kin
    revert h
    cases Pl.okv s v <;> cases Pl.flags f <;> simp
  clear h
  rcases H with h1 | ⟨h1, h2⟩ | ⟨h1, h2, h3⟩
  all_goals
    go_enter Try.func53, Try.ntmps53
    go_wp2_with (first | (go_at_call 18; refine (signedOf _ _ _ lo hi).mono ?_; rintro e w' ⟨rfl, rfl⟩) | (go_at_call 82; refine (isFlagsR _ _).mono ?_; rintro e w' ⟨rfl, rfl⟩) | (go_at_call 62; refine (isShift _ _).mono ?_; rintro e w' ⟨rfl, rfl⟩))
    refine bodyPost_ret (v := .tuple #[.agg ftZ, .bool false]) ?_ rfl ⟨rfl, ?_⟩
    · rw [results_cell_tmp rfl]; go_simp
    · (repeat' (first | with_reducible exact Below.refl _ _ | with_reducible refine Below.drew ?_ | with_reducible refine Below.alloc ?_ ?_ _ | (simp; done) | (simp; omega)))
def Pl.fal0 (k f : Int) : Int := if 6 ≤ k then f / 16 else 0
theorem rowOf (k s f v : Int) (w : World) (h : Pl.goodK k s f v = true) :
    Calls Try.prog 53 #[iv k, iv s, iv f, iv v] w fun e w' => e = .returned (.tuple #[.agg #[iv v, iv (8 * s), iv (f / 16), iv (Pl.fal0 k f), .bool false], .bool true]) ∧ Below w.heap.size w w' := by
  obtain ⟨k0, k1, h1, f0, f1, hs, v0, v1, _, _⟩ := Pl.goodK_ok h
  have h2 : Pl.flags f = true := by simp [Pl.flags, f0, f1]
  have h3 : Pl.kin k = true := by simp [Pl.kin, k0, k1]
  have vb : v < 65536 := by
    simp only at v1
    rcases Pl.top12 hs with ⟨_, e⟩ | ⟨_, e⟩ <;> rw [e] at v1 <;> omega
  simp only at v0 v1
  clear h v1
  have s0 : 0 ≤ s := by omega
  have s1 : s ≤ 2 := by omega
  cases hx : Pl.thr k
  · have E : Hid (0 = Pl.fal0 k f) := hide (by
      have hx2 := hx
      simp [Pl.thr] at hx2
      simp [Pl.fal0]; omega)
    have HX := hide hx
    clear hx
    go_enter Try.func53, Try.ntmps53
    go_wp2_with (first | (go_at_call 18; refine (signedOf _ _ _ (by omega) (by omega)).mono ?_; rintro e w' ⟨rfl, rfl⟩) | (go_at_call 82; refine (isFlagsR _ _).mono ?_; rintro e w' ⟨rfl, rfl⟩) | (go_at_call 62; refine (isShift _ _).mono ?_; rintro e w' ⟨rfl, rfl⟩) | (go_at_call 69; refine (widthOf _ _ s0 s1).mono ?_; rintro e w' ⟨rfl, rfl⟩) | (go_at_call 97; refine st (goesX _ _) ?_; rw [HX.out]))
    refine bodyPost_ret (v := .tuple #[.agg #[iv v, iv (8 * s), iv (f / 16), iv 0, .bool false], .bool true]) ?_ rfl ⟨by rw [E.out], ?_⟩
    · rw [results_cell_tmp rfl]; go_simp
    · (repeat' (first | with_reducible exact Below.refl _ _ | with_reducible refine Below.drew ?_ | with_reducible refine Below.alloc ?_ ?_ _ | (simp; done) | (simp; omega)))
  · have E : Hid (f / 16 = Pl.fal0 k f) := hide (by
      have hx2 := hx
      simp [Pl.thr] at hx2
      simp [Pl.fal0]; omega)
    have HX := hide hx
    clear hx
    go_enter Try.func53, Try.ntmps53
    go_wp2_with (first | (go_at_call 18; refine (signedOf _ _ _ (by omega) (by omega)).mono ?_; rintro e w' ⟨rfl, rfl⟩) | (go_at_call 82; refine (isFlagsR _ _).mono ?_; rintro e w' ⟨rfl, rfl⟩) | (go_at_call 62; refine (isShift _ _).mono ?_; rintro e w' ⟨rfl, rfl⟩) | (go_at_call 69; refine (widthOf _ _ s0 s1).mono ?_; rintro e w' ⟨rfl, rfl⟩) | (go_at_call 97; refine st (goesX _ _) ?_; rw [HX.out]))
    refine bodyPost_ret (v := .tuple #[.agg #[iv v, iv (8 * s), iv (f / 16), iv (f / 16), .bool false], .bool true]) ?_ rfl ⟨by rw [E.out], ?_⟩
    · rw [results_cell_tmp rfl]; go_simp
    · (repeat' (first | with_reducible exact Below.refl _ _ | with_reducible refine Below.drew ?_ | with_reducible refine Below.alloc ?_ ?_ _ | (simp; done) | (simp; omega)))
end Go.Proofs.Ytnmddmmmgdfknaa

namespace Go.Proofs.Ytnmddmmmgdfknaa
open Go.RowKit
set_option linter.unusedVariables false

theorem shiftOnce (k s f v : Int) (w : World) (hv : W64 v) :
    Calls Try.prog 16 #[iv k, iv s, iv f, iv v] w fun e w' => e = .returned (.tuple #[iv (Pl.onceV k s f v), iv (Pl.onceF k s f v), .bool (Pl.goodK k s f v)]) ∧ Below w.heap.size w w' := by
  cases h : Pl.goodK k s f v
  · have K : Hid (Pl.onceV k s f v = 0 ∧ Pl.onceF k s f v = 0) := hide (by simp [Pl.onceV, Pl.onceF, h])
    go_enter Try.func16, Try.ntmps16
    go_wp2_with fail
    refine (rowOf_bad k s f v _ hv.1 hv.2 h).mono ?_
    rintro e w1 ⟨rfl, hb⟩
    go_wp2_with fail
    go_ret3
    exact ⟨rIIB K.out.1.symm K.out.2.symm rfl, hb.alloc hb.size _⟩
  · have K : Hid (Pl.onceV k s f v = Pl.nv k s (f / 16) v ∧ Pl.onceF k s f v = Pl.onF k s (f / 16) v) := hide (by simp [Pl.onceV, Pl.onceF, h])
    have HG := hide h
    obtain ⟨k0, k1, _, f0, f1, hf⟩ := Pl.goodK_ok h
    have hf2 : Hid (Pl.Fit s (Pl.nv k s (f / 16) v, Pl.nx k s (f / 16) v)) := hide (Pl.stp_fit (k := k) hf)
    have HF := hide hf
    have hfe := Pl.fell_bd k s v
    clear h hf
    go_enter Try.func16, Try.ntmps16
    go_wp2_with fail
    refine (rowOf k s f v _ HG.out).mono ?_
    rintro e w1 ⟨rfl, hb⟩
    have HB := hide hb
    clear hb
    go_wp2_with fail
    refine (moved k s v (f / 16) _ _ false _ k0 k1 HF.out rfl (.inr rfl)).mono ?_
    rintro e wt ⟨rfl, hb2⟩
    have Bt := hide ((Box.new0 w1 _ _ _ _ _).later hb2)
    have HX : Hid (Below w.heap.size w wt) := hide ((HB.out.alloc HB.out.size _).trans (hb2.mono (by simpa using Nat.le_succ_of_le HB.out.size)))
    clear hb2
    obtain ⟨c0, c1, c2, c3, c4, g0, g1, g2, g3, g4⟩ := Bt.out.cells
    go_wp2_with fail
    obtain ⟨X, hX⟩ : ∃ X : World, X = (((((wt.setCell ⟨w1.heap.size, 0, none⟩ (iv (Pl.nv k s (f / 16) v))).setCell ⟨w1.heap.size, 1, none⟩ (iv (8 * s))).setCell ⟨w1.heap.size, 2, none⟩ (iv (Pl.nx k s (f / 16) v))).setCell ⟨w1.heap.size, 3, none⟩ (iv (Pl.fell k s v))).setCell ⟨w1.heap.size, 4, none⟩ (.bool (Pl.vfl k s (f / 16) v))) := ⟨_, rfl⟩
    rw [← hX]
    have B2 : Hid (Box X w1.heap.size (Pl.nv k s (f / 16) v) (8 * s) (Pl.nx k s (f / 16) v) (Pl.fell k s v) (Pl.vfl k s (f / 16) v)) := hide (by rw [hX]; exact Bt.out.set)
    have HY : Hid (Below w.heap.size w X) := hide (by rw [hX]; exact Below.set5 HX.out HB.out.size _ _ _ _ _)
    clear hX c0 c1 c2 c3 c4 g0 g1 g2 g3 g4
    obtain ⟨c0, c1, c2, c3, c4, _, _, _, _, _⟩ := B2.out.cells
    go_region_with (go_at_call 55; refine (flags5 s _ _ _ _ _ _ hf2.out rfl hfe.1 hfe.2).mono ?_; rintro e wx ⟨rfl, o1, o2, rfl⟩; obtain ⟨z0, z1, z2, z3, z4, _, _, _, _, _⟩ := (B2.out.two o1 o2).cells)
    all_goals
      go_wp2_with fail
      go_ret3
      exact ⟨rIIB K.out.1.symm K.out.2.symm rfl, ((HY.out.alloc HY.out.size _).alloc (by simpa using Nat.le_succ_of_le HY.out.size) _).drew⟩

end Go.Proofs.Ytnmddmmmgdfknaa

namespace Go.Proofs.Ytnmddmmmgdfknaa
open Go.RowKit
set_option linter.unusedVariables false

/-- operation k of the region waits for operation j -/
def waitsB (md : Region.Mode) (ops : Array Oper) (i k : Nat) : Bool := ((ops[i]?).map fun o => o.after.any fun e => Region.binds md e && e.on == k).getD false
theorem ready_new {md : Region.Mode} {ops : Array Oper} {l : Array Bool} {i : Nat} (h : i ∈ Region.ready md ops l) : i < ops.size ∧ l.getD i true = false := by
  unfold Region.ready at h
  rw [List.mem_filter, Bool.and_eq_true] at h
  refine ⟨List.mem_range.1 h.1, ?_⟩
  have := h.2.1
  revert this
  cases l.getD i true <;> simp
theorem getD_true {l : Array Bool} {k : Nat} (h : l.getD k false = true) : l.getD k true = true := by
  unfold Array.getD at *
  split
  · rename_i hk; simpa [hk] using h
  · rfl
theorem ready_dep {md : Region.Mode} {ops : Array Oper} {l : Array Bool} {i : Nat} (h : i ∈ Region.ready md ops l) (k : Nat) (hk : waitsB md ops i k = true) : l.getD k true = true := by
  unfold Region.ready at h
  rw [List.mem_filter, Bool.and_eq_true] at h
  have h2 := h.2.2
  unfold waitsB at hk
  cases ho : ops[i]? with
  | none => rw [ho] at hk; simp at hk
  | some o =>
    rw [ho] at hk h2
    simp only [Option.map_some, Option.getD_some] at hk h2
    rw [Array.any_eq_true'] at hk
    obtain ⟨e, he, hb⟩ := hk
    rw [Array.all_eq_true'] at h2
    have h3 := h2 e he
    rw [Bool.and_eq_true] at hb
    rw [hb.1] at h3
    have h4 : e.on = k := by simpa using hb.2
    rw [h4] at h3
    exact getD_true (by simpa using h3)
theorem filter_lt {xs : List Nat} {p q : Nat → Bool} (hpq : ∀ x, q x = true → p x = true) {i : Nat} (hi : i ∈ xs) (hp : p i = true) (hq : q i = false) : (xs.filter q).length < (xs.filter p).length := by
  induction xs with
  | nil => cases hi
  | cons x t ih =>
    have hle : (t.filter q).length ≤ (t.filter p).length := by
      clear ih hi
      induction t with
      | nil => simp
      | cons y t ih =>
        cases h1 : q y
        · cases h2 : p y <;> simp [h1, h2] <;> omega
        · simp [h1, hpq y h1]; exact ih
    rcases List.mem_cons.1 hi with rfl | hi
    · simp [hp, hq]; omega
    · have := ih hi
      cases h1 : q x
      · cases h2 : p x <;> simp [h1, h2] <;> omega
      · simp [h1, hpq x h1]; exact this
theorem getD_set_ne {l : Array Bool} {i j : Nat} (h : j ≠ i) : (l.setIfInBounds i true).getD j true = l.getD j true := by
  simp only [Array.getD_eq_getD_getElem?]
  rw [Array.getElem?_setIfInBounds_ne (Ne.symm h)]
theorem getD_set_eq {l : Array Bool} {i : Nat} : (l.setIfInBounds i true).getD i true = true := by
  simp only [Array.getD_eq_getD_getElem?, Array.getElem?_setIfInBounds]
  split
  · split <;> rfl
  · rename_i h; exact absurd trivial h

theorem wpAny_inv {P : Program} {md : Region.Mode} {ops : Array Oper} {Q : Exit → Act → World → Prop} {I : Array Bool → Act → World → Prop}
    (hfin : ∀ l a w, l.size = ops.size → I l a w → Region.ready md ops l = [] → Q .normal a w)
    (hstep : ∀ l a w i, I l a w → i ∈ Region.ready md ops l → wpOp P ops Q i (I (l.setIfInBounds i true)) a w) :
    ∀ (fuel : Nat) (l : Array Bool) (a : Act) (w : World), l.size = ops.size → ((List.range ops.size).filter fun i => !l.getD i true).length ≤ fuel → I l a w → wpAny P md ops Q fuel l a w := by
  intro fuel
  induction fuel with
  | zero =>
    intro l a w hz hn hI
    have h0 : Region.ready md ops l = [] := by
      cases hr : Region.ready md ops l with
      | nil => rfl
      | cons i t =>
        exfalso
        have hi : i ∈ Region.ready md ops l := by rw [hr]; simp
        obtain ⟨h1, h2⟩ := ready_new hi
        have : i ∈ (List.range ops.size).filter fun i => !l.getD i true := List.mem_filter.2 ⟨List.mem_range.2 h1, by rw [h2]; rfl⟩
        have := List.length_pos_of_mem this
        omega
    exact ⟨h0, hfin l a w hz hI h0⟩
  | succ n ih =>
    intro l a w hz hn hI
    refine ⟨fun h0 => hfin l a w hz hI h0, fun i hi => ?_⟩
    refine wpOp_mono (fun a' w' h' => ih _ a' w' (by simp [hz]) ?_ h') (hstep l a w i hI hi)
    obtain ⟨h1, h2⟩ := ready_new hi
    have := filter_lt (xs := List.range ops.size) (p := fun j => !l.getD j true) (q := fun j => !(l.setIfInBounds i true).getD j true) (i := i) (by
      intro x hx
      by_cases e : x = i
      · subst e; rw [h2]; rfl
      · rw [getD_set_ne e] at hx; exact hx) (List.mem_range.2 h1) (by rw [h2]; rfl) (by rw [getD_set_eq]; rfl)
    omega

/-- an operation waits for earlier ones alone -/
def lowB (md : Region.Mode) (ops : Array Oper) : Bool := (List.range ops.size).all fun i => ((ops[i]?).map fun o => o.after.all fun e => !Region.binds md e || decide (e.on < i)).getD true
theorem ready_none {md : Region.Mode} {ops : Array Oper} {l : Array Bool} (hz : l.size = ops.size) (hB : lowB md ops = true) (h0 : Region.ready md ops l = []) : ∀ i, i < ops.size → l.getD i true = true := by
  intro i
  induction i using Nat.strongRecOn with
  | ind i ih =>
    intro hi
    cases hl : l.getD i true
    · exfalso
      have hm : i ∈ Region.ready md ops l := by
        unfold Region.ready
        rw [List.mem_filter, Bool.and_eq_true]
        refine ⟨List.mem_range.2 hi, by rw [hl]; rfl, ?_⟩
        have hb := List.all_eq_true.1 hB i (List.mem_range.2 hi)
        rw [Array.getElem?_eq_getElem hi] at hb ⊢
        simp only [Option.map_some, Option.getD_some] at hb ⊢
        rw [Array.all_eq_true'] at hb ⊢
        intro e he
        have h1 := hb e he
        rw [Bool.or_eq_true] at h1 ⊢
        rcases h1 with h1 | h1
        · exact .inl h1
        · have h2 : e.on < i := by simpa using h1
          have h3 := ih e.on h2 (by omega)
          refine .inr ?_
          unfold Array.getD at h3 ⊢
          split
          · rename_i hk; simpa [hk] using h3
          · rename_i hk; omega
      rw [h0] at hm
      cases hm
    · rfl
theorem wp_region_inv {P : Program} {ops : Array Oper} {Q : Exit → Act → World → Prop} {id : Nat} {a : Act} {w : World} (I : Array Bool → Act → World → Prop) (hm : P.follows .mixedOrders = true) (hB : lowB .any ops = true)
    (hstart : I (Array.replicate ops.size false) a w.drew)
    (hfin : ∀ l a w, I l a w → (∀ i, i < ops.size → l.getD i true = true) → Q .normal a w)
    (hstep : ∀ l a w i, I l a w → i ∈ Region.ready .any ops l → wpOp P ops Q i (I (l.setIfInBounds i true)) a w) :
    (Code.region id ops true).wp P Q a w := by
  refine wp_region_any hm (wpAny_inv (I := I) (fun l a w hz h h0 => hfin l a w h (ready_none hz hB h0)) hstep _ _ _ _ (by simp) ?_ hstart)
  exact Nat.le_trans (List.length_filter_le _ _) (by simp)

/-- what holds once operation i has come up -/
def Once (l : Array Bool) (i : Nat) (p : Prop) : Prop := l.getD i true = true → p
theorem Once.past {l : Array Bool} {i j : Nat} {p q : Prop} (h : Once l j p) (hn : j ≠ i) (hp : p → q) : Once (l.setIfInBounds i true) j q := fun e => hp (h (by rwa [getD_set_ne hn] at e))
theorem Once.now {l : Array Bool} {i j : Nat} {p : Prop} (h : p) : Once (l.setIfInBounds i true) j p := fun _ => h
theorem once_start {n i : Nat} {p : Prop} (hi : i < n) : Once (Array.replicate n false) i p := by
  intro e
  simp [Array.getD_eq_getD_getElem?, hi] at e
end Go.Proofs.Ytnmddmmmgdfknaa

namespace Go.Proofs.Ytnmddmmmgdfknaa
open Go.RowKit
set_option linter.unusedVariables false

/-- the frame A is A0 but for these slots -/
structure FR (SL : List Nat) (A0 A : Act) : Prop where
  size : A.tmps.size = A0.tmps.size
  defers : A.defers = A0.defers
  out : ∀ k, k ∉ SL → A.tmps[k]? = A0.tmps[k]?
theorem FR.refl (SL : List Nat) (A : Act) : FR SL A A := ⟨rfl, rfl, fun _ _ => rfl⟩
theorem put_ne {A : Act} {j k : Nat} {v : Value} (h : k ≠ j) : (A.put (some j) v).tmps[k]? = A.tmps[k]? := by
  show (A.tmps.setIfInBounds j v)[k]? = _
  rw [Array.getElem?_setIfInBounds_ne (Ne.symm h)]
theorem put_eq {A : Act} {k : Nat} {v : Value} (h : k < A.tmps.size) : (A.put (some k) v).tmps[k]? = some v := by
  show (A.tmps.setIfInBounds k v)[k]? = _
  rw [Array.getElem?_setIfInBounds]
  simp [h]
theorem FR.put {SL : List Nat} {A0 A : Act} (h : FR SL A0 A) {k : Nat} (hk : k ∈ SL) (v : Value) : FR SL A0 (A.put (some k) v) := by
  refine ⟨?_, h.defers, fun j hj => ?_⟩
  · show (A.tmps.setIfInBounds k v).size = _
    rw [Array.size_setIfInBounds]; exact h.size
  · rw [put_ne (fun e => hj (by rw [e]; exact hk))]; exact h.out j hj
theorem act_ext {A B : Act} (hs : A.tmps.size = B.tmps.size) (hd : A.defers = B.defers) (h : ∀ k : Nat, A.tmps[k]? = B.tmps[k]?) : A = B := by
  cases A; cases B
  simp only at hs hd h
  subst hd
  congr 1
  exact Array.ext_getElem? h
theorem chain_of {A : Act} : ∀ (SL : List Nat) (B : Act), A.tmps.size = B.tmps.size → A.defers = B.defers → (∀ k, k ∉ SL → A.tmps[k]? = B.tmps[k]?) → A = SL.foldl (fun a k => a.put (some k) (A.tmps.getD k undef)) B
  | [], B, hs, hd, h => act_ext hs hd (fun k => h k (by simp))
  | k :: t, B, hs, hd, h => by
    refine chain_of t (B.put (some k) (A.tmps.getD k undef)) ?_ hd (fun j hj => ?_)
    · show _ = (B.tmps.setIfInBounds k _).size
      rw [Array.size_setIfInBounds]; exact hs
    · by_cases e : j = k
      · subst e
        by_cases hb : j < B.tmps.size
        · rw [put_eq hb]
          have : j < A.tmps.size := by omega
          rw [Array.getElem?_eq_getElem this]
          simp [Array.getD_eq_getD_getElem?, this]
        · show _ = (B.tmps.setIfInBounds j _)[j]?
          rw [Array.getElem?_eq_none (by omega), Array.getElem?_eq_none (by rw [Array.size_setIfInBounds]; omega)]
      · rw [put_ne e]
        exact h j (by simp [e, hj])
theorem FR.chain {SL : List Nat} {A0 A : Act} (h : FR SL A0 A) : A = SL.foldl (fun a k => a.put (some k) (A.tmps.getD k undef)) A0 := chain_of SL A0 h.size h.defers h.out
theorem getD_of {A : Act} {k : Nat} {v : Value} (h : A.tmps[k]? = some v) : A.tmps.getD k undef = v := by
  rw [Array.getD_eq_getD_getElem?, h]; rfl
theorem wp_region_inv2 {P : Program} {ops : Array Oper} {Q : Exit → Act → World → Prop} {id : Nat} {a : Act} {w : World} (I : Act → Array Bool → Act → World → Prop) (hm : P.follows .mixedOrders = true) (hB : lowB .any ops = true)
    (hstart : I a (Array.replicate ops.size false) a w.drew)
    (hfin : ∀ l A w, I a l A w → (∀ i, i < ops.size → l.getD i true = true) → Q .normal A w)
    (hstep : ∀ l A w i, I a l A w → i ∈ Region.ready .any ops l → wpOp P ops Q i (I a (l.setIfInBounds i true)) A w) :
    (Code.region id ops true).wp P Q a w := wp_region_inv (I a) hm hB hstart hfin hstep
end Go.Proofs.Ytnmddmmmgdfknaa

