/- What the program's choice among the eight moves answers, for each kind, of whatever size: new blocks alone. Which kinds of shift go through the kept bit. What the program lays ahead of the first place, and the flags that it tells of a row of bits: one contract a function. What the program's functions of chapter 3 answer, for every argument: one contract a function; new blocks alone. How many bits are 1, and the bits the other way round: what the program's two functions answer, by the library's two tables. What the models of CountOnes and ReverseBits answer for every argument; none changes the world. -/
import Derived.Test.YtnmddmmmgdfknaaEI2
import Derived.Test.YtnmddmmmgdfknaaEI3
import Derived.Test.YtnmddmmmgdfknaaEI1
import Derived.Laws.ResultCell
import Derived.Lib.BitFns
import Derived.Lib.EndianBits
import Derived.Deep.QuietTactic
import Derived.BigQuiet
namespace Go.Proofs.Ytnmddmmmgdfknaa
open Go.RowKit
set_option linter.unusedVariables false
set_option linter.unusedSimpArgs false

theorem arithmeticUp (s v x f W : Int) (t : Bool) (w : World) (h : Pl.Fit s (v, x)) (hW : W = 8 * s) :
    Calls Try.prog 98 #[.agg #[iv v, iv W, iv x, iv f, .bool t]] w fun e w' => e = .returned (.agg #[iv (Pl.nv 0 s x v), iv W, iv (Pl.nx 0 s x v), iv (Pl.fell 0 s v), .bool (Pl.vfl 0 s x v)]) ∧ Below w.heap.size w w' := by
  obtain ⟨hs, v0, v1, x0, x1⟩ := h
  simp only at v0 v1 x0 x1
  subst hW
  rcases Pl.top12 hs with ⟨rfl, e⟩ | ⟨rfl, e⟩ <;> rw [e] at v1
  · exact arithmeticUp1 v x f t w v0 v1 x0 x1
  · exact arithmeticUp2 v x f t w v0 v1 x0 x1
theorem arithmeticDown (s v x f W : Int) (t : Bool) (w : World) (h : Pl.Fit s (v, x)) (hW : W = 8 * s) :
    Calls Try.prog 99 #[.agg #[iv v, iv W, iv x, iv f, .bool t]] w fun e w' => e = .returned (.agg #[iv (Pl.nv 1 s x v), iv W, iv (Pl.nx 1 s x v), iv (Pl.fell 1 s v), .bool t]) ∧ Below w.heap.size w w' := by
  obtain ⟨hs, v0, v1, x0, x1⟩ := h
  simp only at v0 v1 x0 x1
  subst hW
  rcases Pl.top12 hs with ⟨rfl, e⟩ | ⟨rfl, e⟩ <;> rw [e] at v1
  · exact arithmeticDown1 v x f t w v0 v1 x0 x1
  · exact arithmeticDown2 v x f t w v0 v1 x0 x1
theorem plainUp (s v x f W : Int) (t : Bool) (w : World) (h : Pl.Fit s (v, x)) (hW : W = 8 * s) :
    Calls Try.prog 100 #[.agg #[iv v, iv W, iv x, iv f, .bool t]] w fun e w' => e = .returned (.agg #[iv (Pl.nv 2 s x v), iv W, iv (Pl.nx 2 s x v), iv (Pl.fell 2 s v), .bool t]) ∧ Below w.heap.size w w' := by
  obtain ⟨hs, v0, v1, x0, x1⟩ := h
  simp only at v0 v1 x0 x1
  subst hW
  rcases Pl.top12 hs with ⟨rfl, e⟩ | ⟨rfl, e⟩ <;> rw [e] at v1
  · exact plainUp1 v x f t w v0 v1 x0 x1
  · exact plainUp2 v x f t w v0 v1 x0 x1
theorem plainDown (s v x f W : Int) (t : Bool) (w : World) (h : Pl.Fit s (v, x)) (hW : W = 8 * s) :
    Calls Try.prog 101 #[.agg #[iv v, iv W, iv x, iv f, .bool t]] w fun e w' => e = .returned (.agg #[iv (Pl.nv 3 s x v), iv W, iv (Pl.nx 3 s x v), iv (Pl.fell 3 s v), .bool t]) ∧ Below w.heap.size w w' := by
  obtain ⟨hs, v0, v1, x0, x1⟩ := h
  simp only at v0 v1 x0 x1
  subst hW
  rcases Pl.top12 hs with ⟨rfl, e⟩ | ⟨rfl, e⟩ <;> rw [e] at v1
  · exact plainDown1 v x f t w v0 v1 x0 x1
  · exact plainDown2 v x f t w v0 v1 x0 x1
theorem turnUp (s v x f W : Int) (t : Bool) (w : World) (h : Pl.Fit s (v, x)) (hW : W = 8 * s) :
    Calls Try.prog 102 #[.agg #[iv v, iv W, iv x, iv f, .bool t]] w fun e w' => e = .returned (.agg #[iv (Pl.nv 4 s x v), iv W, iv (Pl.nx 4 s x v), iv (Pl.fell 4 s v), .bool t]) ∧ Below w.heap.size w w' := by
  obtain ⟨hs, v0, v1, x0, x1⟩ := h
  simp only at v0 v1 x0 x1
  subst hW
  rcases Pl.top12 hs with ⟨rfl, e⟩ | ⟨rfl, e⟩ <;> rw [e] at v1
  · exact turnUp1 v x f t w v0 v1 x0 x1
  · exact turnUp2 v x f t w v0 v1 x0 x1
theorem turnDown (s v x f W : Int) (t : Bool) (w : World) (h : Pl.Fit s (v, x)) (hW : W = 8 * s) :
    Calls Try.prog 103 #[.agg #[iv v, iv W, iv x, iv f, .bool t]] w fun e w' => e = .returned (.agg #[iv (Pl.nv 5 s x v), iv W, iv (Pl.nx 5 s x v), iv (Pl.fell 5 s v), .bool t]) ∧ Below w.heap.size w w' := by
  obtain ⟨hs, v0, v1, x0, x1⟩ := h
  simp only at v0 v1 x0 x1
  subst hW
  rcases Pl.top12 hs with ⟨rfl, e⟩ | ⟨rfl, e⟩ <;> rw [e] at v1
  · exact turnDown1 v x f t w v0 v1 x0 x1
  · exact turnDown2 v x f t w v0 v1 x0 x1
theorem turnUpThroughExtend (s v x f W : Int) (t : Bool) (w : World) (h : Pl.Fit s (v, x)) (hW : W = 8 * s) :
    Calls Try.prog 104 #[.agg #[iv v, iv W, iv x, iv f, .bool t]] w fun e w' => e = .returned (.agg #[iv (Pl.nv 6 s x v), iv W, iv (Pl.nx 6 s x v), iv (Pl.fell 6 s v), .bool t]) ∧ Below w.heap.size w w' := by
  obtain ⟨hs, v0, v1, x0, x1⟩ := h
  simp only at v0 v1 x0 x1
  subst hW
  rcases Pl.top12 hs with ⟨rfl, e⟩ | ⟨rfl, e⟩ <;> rw [e] at v1
  · exact turnUpThroughExtend1 v x f t w v0 v1 x0 x1
  · exact turnUpThroughExtend2 v x f t w v0 v1 x0 x1
theorem turnDownThroughExtend (s v x f W : Int) (t : Bool) (w : World) (h : Pl.Fit s (v, x)) (hW : W = 8 * s) :
    Calls Try.prog 105 #[.agg #[iv v, iv W, iv x, iv f, .bool t]] w fun e w' => e = .returned (.agg #[iv (Pl.nv 7 s x v), iv W, iv (Pl.nx 7 s x v), iv (Pl.fell 7 s v), .bool t]) ∧ Below w.heap.size w w' := by
  obtain ⟨hs, v0, v1, x0, x1⟩ := h
  simp only at v0 v1 x0 x1
  subst hW
  rcases Pl.top12 hs with ⟨rfl, e⟩ | ⟨rfl, e⟩ <;> rw [e] at v1
  · exact turnDownThroughExtend1 v x f t w v0 v1 x0 x1
  · exact turnDownThroughExtend2 v x f t w v0 v1 x0 x1
set_option maxHeartbeats 4000000 in
theorem moved0 (s v x f W : Int) (t : Bool) (w : World) (h : Pl.Fit s (v, x)) (hW : W = 8 * s) :
    Calls Try.prog 54 #[.agg #[iv v, iv W, iv x, iv f, .bool t], iv 0] w fun e w' => e = .returned (.agg #[iv (Pl.nv 0 s x v), iv W, iv (Pl.nx 0 s x v), iv (Pl.fell 0 s v), .bool (Pl.vfl 0 s x v)]) ∧ Below w.heap.size w w' := by
  have hst := store_func
  have E4 : Hid (Pl.vfl 0 s x v = Pl.vfl 0 s x v) := hide (by rfl)
  have HF := hide h
  have HWW := hide hW
  clear h hW
  go_enter Try.func54, Try.ntmps54
  go_wp2_with fail
  clear hst
  obtain ⟨X, hX⟩ : ∃ X : World, X = (((w.alloc (.cells #[iv v, iv W, iv x, iv f, .bool t] 78)).alloc (.cells ftZ 78)).alloc (.cells #[.func (.func 98) #[] #[], .func (.func 99) #[] #[], .func (.func 100) #[] #[], .func (.func 101) #[] #[], .func (.func 102) #[] #[], .func (.func 103) #[] #[], .func (.func 104) #[] #[], .func (.func 105) #[] #[]] 106)) := ⟨_, rfl⟩
  rw [← hX]
  have B1 : Box X w.heap.size v W x f t := by rw [hX]; exact Box.new1 _ _ _ _ _ _ _ _
  have B2 : Box X (w.heap.size + 1) 0 0 0 0 false := by rw [hX]; exact Box.new2 _ _ _ _ _ _ _ _
  have hF : X.cell? ⟨w.heap.size + 1 + 1, 0, none⟩ = some (.func (.func 98) #[] #[]) := by rw [hX]; go_simp
  have HX : Hid (Below w.heap.size w X) := hide (by rw [hX]; exact (((Below.refl _ _).alloc (by simp) _).alloc (by simp) _).alloc (by simp <;> omega) _)
  clear hX
  obtain ⟨a0, a1, a2, a3, a4, _, _, _, _, _⟩ := B1.cells
  have HB2 := hide B2
  clear B1 B2
  go_region_with (go_at_call 98; refine (arithmeticUp s v x f W t _ HF.out HWW.out).mono ?_; rintro e wt ⟨rfl, hb0⟩; have hb := undrew hb0; clear hb0; have HBt := hide (HB2.out.later hb); obtain ⟨c0, c1, c2, c3, c4, g0, g1, g2, g3, g4⟩ := HBt.out.cells; have HB := hide hb; clear hb a0 a1 a2 a3 a4 hF)
  all_goals
    go_wp2_with fail
    refine bodyPost_ret (v := .agg #[iv (Pl.nv 0 s x v), iv W, iv (Pl.nx 0 s x v), iv (Pl.fell 0 s v), .bool (Pl.vfl 0 s x v)]) ?_ rfl ⟨?_, ?_⟩
    · exact results_box rfl _ rfl (HBt.out.set)
    · exact rA rfl rfl rfl rfl rfl
    · exact (((((HX.out.trans (HB.out.mono HX.out.size)).setCell (by simp) _).setCell (by simp) _).setCell (by simp) _).setCell (by simp) _).setCell (by simp) _
set_option maxHeartbeats 4000000 in
theorem moved1 (s v x f W : Int) (w : World) (h : Pl.Fit s (v, x)) (hW : W = 8 * s) :
    Calls Try.prog 54 #[.agg #[iv v, iv W, iv x, iv f, .bool false], iv 1] w fun e w' => e = .returned (.agg #[iv (Pl.nv 1 s x v), iv W, iv (Pl.nx 1 s x v), iv (Pl.fell 1 s v), .bool (Pl.vfl 1 s x v)]) ∧ Below w.heap.size w w' := by
  have hst := store_func
  have E4 : Hid (false = Pl.vfl 1 s x v) := hide (by simp [Pl.vfl])
  have HF := hide h
  have HWW := hide hW
  clear h hW
  go_enter Try.func54, Try.ntmps54
  go_wp2_with fail
  clear hst
  obtain ⟨X, hX⟩ : ∃ X : World, X = (((w.alloc (.cells #[iv v, iv W, iv x, iv f, .bool false] 78)).alloc (.cells ftZ 78)).alloc (.cells #[.func (.func 98) #[] #[], .func (.func 99) #[] #[], .func (.func 100) #[] #[], .func (.func 101) #[] #[], .func (.func 102) #[] #[], .func (.func 103) #[] #[], .func (.func 104) #[] #[], .func (.func 105) #[] #[]] 106)) := ⟨_, rfl⟩
  rw [← hX]
  have B1 : Box X w.heap.size v W x f false := by rw [hX]; exact Box.new1 _ _ _ _ _ _ _ _
  have B2 : Box X (w.heap.size + 1) 0 0 0 0 false := by rw [hX]; exact Box.new2 _ _ _ _ _ _ _ _
  have hF : X.cell? ⟨w.heap.size + 1 + 1, 1, none⟩ = some (.func (.func 99) #[] #[]) := by rw [hX]; go_simp
  have HX : Hid (Below w.heap.size w X) := hide (by rw [hX]; exact (((Below.refl _ _).alloc (by simp) _).alloc (by simp) _).alloc (by simp <;> omega) _)
  clear hX
  obtain ⟨a0, a1, a2, a3, a4, _, _, _, _, _⟩ := B1.cells
  have HB2 := hide B2
  clear B1 B2
  go_region_with (go_at_call 99; refine (arithmeticDown s v x f W false _ HF.out HWW.out).mono ?_; rintro e wt ⟨rfl, hb0⟩; have hb := undrew hb0; clear hb0; have HBt := hide (HB2.out.later hb); obtain ⟨c0, c1, c2, c3, c4, g0, g1, g2, g3, g4⟩ := HBt.out.cells; have HB := hide hb; clear hb a0 a1 a2 a3 a4 hF)
  all_goals
    go_wp2_with fail
    refine bodyPost_ret (v := .agg #[iv (Pl.nv 1 s x v), iv W, iv (Pl.nx 1 s x v), iv (Pl.fell 1 s v), .bool false]) ?_ rfl ⟨?_, ?_⟩
    · exact results_box rfl _ rfl (HBt.out.set)
    · exact rA rfl rfl rfl rfl E4.out
    · exact (((((HX.out.trans (HB.out.mono HX.out.size)).setCell (by simp) _).setCell (by simp) _).setCell (by simp) _).setCell (by simp) _).setCell (by simp) _
set_option maxHeartbeats 4000000 in
theorem moved2 (s v x f W : Int) (w : World) (h : Pl.Fit s (v, x)) (hW : W = 8 * s) :
    Calls Try.prog 54 #[.agg #[iv v, iv W, iv x, iv f, .bool false], iv 2] w fun e w' => e = .returned (.agg #[iv (Pl.nv 2 s x v), iv W, iv (Pl.nx 2 s x v), iv (Pl.fell 2 s v), .bool (Pl.vfl 2 s x v)]) ∧ Below w.heap.size w w' := by
  have hst := store_func
  have E4 : Hid (false = Pl.vfl 2 s x v) := hide (by simp [Pl.vfl])
  have HF := hide h
  have HWW := hide hW
  clear h hW
  go_enter Try.func54, Try.ntmps54
  go_wp2_with fail
  clear hst
  obtain ⟨X, hX⟩ : ∃ X : World, X = (((w.alloc (.cells #[iv v, iv W, iv x, iv f, .bool false] 78)).alloc (.cells ftZ 78)).alloc (.cells #[.func (.func 98) #[] #[], .func (.func 99) #[] #[], .func (.func 100) #[] #[], .func (.func 101) #[] #[], .func (.func 102) #[] #[], .func (.func 103) #[] #[], .func (.func 104) #[] #[], .func (.func 105) #[] #[]] 106)) := ⟨_, rfl⟩
  rw [← hX]
  have B1 : Box X w.heap.size v W x f false := by rw [hX]; exact Box.new1 _ _ _ _ _ _ _ _
  have B2 : Box X (w.heap.size + 1) 0 0 0 0 false := by rw [hX]; exact Box.new2 _ _ _ _ _ _ _ _
  have hF : X.cell? ⟨w.heap.size + 1 + 1, 2, none⟩ = some (.func (.func 100) #[] #[]) := by rw [hX]; go_simp
  have HX : Hid (Below w.heap.size w X) := hide (by rw [hX]; exact (((Below.refl _ _).alloc (by simp) _).alloc (by simp) _).alloc (by simp <;> omega) _)
  clear hX
  obtain ⟨a0, a1, a2, a3, a4, _, _, _, _, _⟩ := B1.cells
  have HB2 := hide B2
  clear B1 B2
  go_region_with (go_at_call 100; refine (plainUp s v x f W false _ HF.out HWW.out).mono ?_; rintro e wt ⟨rfl, hb0⟩; have hb := undrew hb0; clear hb0; have HBt := hide (HB2.out.later hb); obtain ⟨c0, c1, c2, c3, c4, g0, g1, g2, g3, g4⟩ := HBt.out.cells; have HB := hide hb; clear hb a0 a1 a2 a3 a4 hF)
  all_goals
    go_wp2_with fail
    refine bodyPost_ret (v := .agg #[iv (Pl.nv 2 s x v), iv W, iv (Pl.nx 2 s x v), iv (Pl.fell 2 s v), .bool false]) ?_ rfl ⟨?_, ?_⟩
    · exact results_box rfl _ rfl (HBt.out.set)
    · exact rA rfl rfl rfl rfl E4.out
    · exact (((((HX.out.trans (HB.out.mono HX.out.size)).setCell (by simp) _).setCell (by simp) _).setCell (by simp) _).setCell (by simp) _).setCell (by simp) _
set_option maxHeartbeats 4000000 in
theorem moved3 (s v x f W : Int) (w : World) (h : Pl.Fit s (v, x)) (hW : W = 8 * s) :
    Calls Try.prog 54 #[.agg #[iv v, iv W, iv x, iv f, .bool false], iv 3] w fun e w' => e = .returned (.agg #[iv (Pl.nv 3 s x v), iv W, iv (Pl.nx 3 s x v), iv (Pl.fell 3 s v), .bool (Pl.vfl 3 s x v)]) ∧ Below w.heap.size w w' := by
  have hst := store_func
  have E4 : Hid (false = Pl.vfl 3 s x v) := hide (by simp [Pl.vfl])
  have HF := hide h
  have HWW := hide hW
  clear h hW
  go_enter Try.func54, Try.ntmps54
  go_wp2_with fail
  clear hst
  obtain ⟨X, hX⟩ : ∃ X : World, X = (((w.alloc (.cells #[iv v, iv W, iv x, iv f, .bool false] 78)).alloc (.cells ftZ 78)).alloc (.cells #[.func (.func 98) #[] #[], .func (.func 99) #[] #[], .func (.func 100) #[] #[], .func (.func 101) #[] #[], .func (.func 102) #[] #[], .func (.func 103) #[] #[], .func (.func 104) #[] #[], .func (.func 105) #[] #[]] 106)) := ⟨_, rfl⟩
  rw [← hX]
  have B1 : Box X w.heap.size v W x f false := by rw [hX]; exact Box.new1 _ _ _ _ _ _ _ _
  have B2 : Box X (w.heap.size + 1) 0 0 0 0 false := by rw [hX]; exact Box.new2 _ _ _ _ _ _ _ _
  have hF : X.cell? ⟨w.heap.size + 1 + 1, 3, none⟩ = some (.func (.func 101) #[] #[]) := by rw [hX]; go_simp
  have HX : Hid (Below w.heap.size w X) := hide (by rw [hX]; exact (((Below.refl _ _).alloc (by simp) _).alloc (by simp) _).alloc (by simp <;> omega) _)
  clear hX
  obtain ⟨a0, a1, a2, a3, a4, _, _, _, _, _⟩ := B1.cells
  have HB2 := hide B2
  clear B1 B2
  go_region_with (go_at_call 101; refine (plainDown s v x f W false _ HF.out HWW.out).mono ?_; rintro e wt ⟨rfl, hb0⟩; have hb := undrew hb0; clear hb0; have HBt := hide (HB2.out.later hb); obtain ⟨c0, c1, c2, c3, c4, g0, g1, g2, g3, g4⟩ := HBt.out.cells; have HB := hide hb; clear hb a0 a1 a2 a3 a4 hF)
  all_goals
    go_wp2_with fail
    refine bodyPost_ret (v := .agg #[iv (Pl.nv 3 s x v), iv W, iv (Pl.nx 3 s x v), iv (Pl.fell 3 s v), .bool false]) ?_ rfl ⟨?_, ?_⟩
    · exact results_box rfl _ rfl (HBt.out.set)
    · exact rA rfl rfl rfl rfl E4.out
    · exact (((((HX.out.trans (HB.out.mono HX.out.size)).setCell (by simp) _).setCell (by simp) _).setCell (by simp) _).setCell (by simp) _).setCell (by simp) _
set_option maxHeartbeats 4000000 in
theorem moved4 (s v x f W : Int) (w : World) (h : Pl.Fit s (v, x)) (hW : W = 8 * s) :
    Calls Try.prog 54 #[.agg #[iv v, iv W, iv x, iv f, .bool false], iv 4] w fun e w' => e = .returned (.agg #[iv (Pl.nv 4 s x v), iv W, iv (Pl.nx 4 s x v), iv (Pl.fell 4 s v), .bool (Pl.vfl 4 s x v)]) ∧ Below w.heap.size w w' := by
  have hst := store_func
  have E4 : Hid (false = Pl.vfl 4 s x v) := hide (by simp [Pl.vfl])
  have HF := hide h
  have HWW := hide hW
  clear h hW
  go_enter Try.func54, Try.ntmps54
  go_wp2_with fail
  clear hst
  obtain ⟨X, hX⟩ : ∃ X : World, X = (((w.alloc (.cells #[iv v, iv W, iv x, iv f, .bool false] 78)).alloc (.cells ftZ 78)).alloc (.cells #[.func (.func 98) #[] #[], .func (.func 99) #[] #[], .func (.func 100) #[] #[], .func (.func 101) #[] #[], .func (.func 102) #[] #[], .func (.func 103) #[] #[], .func (.func 104) #[] #[], .func (.func 105) #[] #[]] 106)) := ⟨_, rfl⟩
  rw [← hX]
  have B1 : Box X w.heap.size v W x f false := by rw [hX]; exact Box.new1 _ _ _ _ _ _ _ _
  have B2 : Box X (w.heap.size + 1) 0 0 0 0 false := by rw [hX]; exact Box.new2 _ _ _ _ _ _ _ _
  have hF : X.cell? ⟨w.heap.size + 1 + 1, 4, none⟩ = some (.func (.func 102) #[] #[]) := by rw [hX]; go_simp
  have HX : Hid (Below w.heap.size w X) := hide (by rw [hX]; exact (((Below.refl _ _).alloc (by simp) _).alloc (by simp) _).alloc (by simp <;> omega) _)
  clear hX
  obtain ⟨a0, a1, a2, a3, a4, _, _, _, _, _⟩ := B1.cells
  have HB2 := hide B2
  clear B1 B2
  go_region_with (go_at_call 102; refine (turnUp s v x f W false _ HF.out HWW.out).mono ?_; rintro e wt ⟨rfl, hb0⟩; have hb := undrew hb0; clear hb0; have HBt := hide (HB2.out.later hb); obtain ⟨c0, c1, c2, c3, c4, g0, g1, g2, g3, g4⟩ := HBt.out.cells; have HB := hide hb; clear hb a0 a1 a2 a3 a4 hF)
  all_goals
    go_wp2_with fail
    refine bodyPost_ret (v := .agg #[iv (Pl.nv 4 s x v), iv W, iv (Pl.nx 4 s x v), iv (Pl.fell 4 s v), .bool false]) ?_ rfl ⟨?_, ?_⟩
    · exact results_box rfl _ rfl (HBt.out.set)
    · exact rA rfl rfl rfl rfl E4.out
    · exact (((((HX.out.trans (HB.out.mono HX.out.size)).setCell (by simp) _).setCell (by simp) _).setCell (by simp) _).setCell (by simp) _).setCell (by simp) _
set_option maxHeartbeats 4000000 in
theorem moved5 (s v x f W : Int) (w : World) (h : Pl.Fit s (v, x)) (hW : W = 8 * s) :
    Calls Try.prog 54 #[.agg #[iv v, iv W, iv x, iv f, .bool false], iv 5] w fun e w' => e = .returned (.agg #[iv (Pl.nv 5 s x v), iv W, iv (Pl.nx 5 s x v), iv (Pl.fell 5 s v), .bool (Pl.vfl 5 s x v)]) ∧ Below w.heap.size w w' := by
  have hst := store_func
  have E4 : Hid (false = Pl.vfl 5 s x v) := hide (by simp [Pl.vfl])
  have HF := hide h
  have HWW := hide hW
  clear h hW
  go_enter Try.func54, Try.ntmps54
  go_wp2_with fail
  clear hst
  obtain ⟨X, hX⟩ : ∃ X : World, X = (((w.alloc (.cells #[iv v, iv W, iv x, iv f, .bool false] 78)).alloc (.cells ftZ 78)).alloc (.cells #[.func (.func 98) #[] #[], .func (.func 99) #[] #[], .func (.func 100) #[] #[], .func (.func 101) #[] #[], .func (.func 102) #[] #[], .func (.func 103) #[] #[], .func (.func 104) #[] #[], .func (.func 105) #[] #[]] 106)) := ⟨_, rfl⟩
  rw [← hX]
  have B1 : Box X w.heap.size v W x f false := by rw [hX]; exact Box.new1 _ _ _ _ _ _ _ _
  have B2 : Box X (w.heap.size + 1) 0 0 0 0 false := by rw [hX]; exact Box.new2 _ _ _ _ _ _ _ _
  have hF : X.cell? ⟨w.heap.size + 1 + 1, 5, none⟩ = some (.func (.func 103) #[] #[]) := by rw [hX]; go_simp
  have HX : Hid (Below w.heap.size w X) := hide (by rw [hX]; exact (((Below.refl _ _).alloc (by simp) _).alloc (by simp) _).alloc (by simp <;> omega) _)
  clear hX
  obtain ⟨a0, a1, a2, a3, a4, _, _, _, _, _⟩ := B1.cells
  have HB2 := hide B2
  clear B1 B2
  go_region_with (go_at_call 103; refine (turnDown s v x f W false _ HF.out HWW.out).mono ?_; rintro e wt ⟨rfl, hb0⟩; have hb := undrew hb0; clear hb0; have HBt := hide (HB2.out.later hb); obtain ⟨c0, c1, c2, c3, c4, g0, g1, g2, g3, g4⟩ := HBt.out.cells; have HB := hide hb; clear hb a0 a1 a2 a3 a4 hF)
  all_goals
    go_wp2_with fail
    refine bodyPost_ret (v := .agg #[iv (Pl.nv 5 s x v), iv W, iv (Pl.nx 5 s x v), iv (Pl.fell 5 s v), .bool false]) ?_ rfl ⟨?_, ?_⟩
    · exact results_box rfl _ rfl (HBt.out.set)
    · exact rA rfl rfl rfl rfl E4.out
    · exact (((((HX.out.trans (HB.out.mono HX.out.size)).setCell (by simp) _).setCell (by simp) _).setCell (by simp) _).setCell (by simp) _).setCell (by simp) _
set_option maxHeartbeats 4000000 in
theorem moved6 (s v x f W : Int) (w : World) (h : Pl.Fit s (v, x)) (hW : W = 8 * s) :
    Calls Try.prog 54 #[.agg #[iv v, iv W, iv x, iv f, .bool false], iv 6] w fun e w' => e = .returned (.agg #[iv (Pl.nv 6 s x v), iv W, iv (Pl.nx 6 s x v), iv (Pl.fell 6 s v), .bool (Pl.vfl 6 s x v)]) ∧ Below w.heap.size w w' := by
  have hst := store_func
  have E4 : Hid (false = Pl.vfl 6 s x v) := hide (by simp [Pl.vfl])
  have HF := hide h
  have HWW := hide hW
  clear h hW
  go_enter Try.func54, Try.ntmps54
  go_wp2_with fail
  clear hst
  obtain ⟨X, hX⟩ : ∃ X : World, X = (((w.alloc (.cells #[iv v, iv W, iv x, iv f, .bool false] 78)).alloc (.cells ftZ 78)).alloc (.cells #[.func (.func 98) #[] #[], .func (.func 99) #[] #[], .func (.func 100) #[] #[], .func (.func 101) #[] #[], .func (.func 102) #[] #[], .func (.func 103) #[] #[], .func (.func 104) #[] #[], .func (.func 105) #[] #[]] 106)) := ⟨_, rfl⟩
  rw [← hX]
  have B1 : Box X w.heap.size v W x f false := by rw [hX]; exact Box.new1 _ _ _ _ _ _ _ _
  have B2 : Box X (w.heap.size + 1) 0 0 0 0 false := by rw [hX]; exact Box.new2 _ _ _ _ _ _ _ _
  have hF : X.cell? ⟨w.heap.size + 1 + 1, 6, none⟩ = some (.func (.func 104) #[] #[]) := by rw [hX]; go_simp
  have HX : Hid (Below w.heap.size w X) := hide (by rw [hX]; exact (((Below.refl _ _).alloc (by simp) _).alloc (by simp) _).alloc (by simp <;> omega) _)
  clear hX
  obtain ⟨a0, a1, a2, a3, a4, _, _, _, _, _⟩ := B1.cells
  have HB2 := hide B2
  clear B1 B2
  go_region_with (go_at_call 104; refine (turnUpThroughExtend s v x f W false _ HF.out HWW.out).mono ?_; rintro e wt ⟨rfl, hb0⟩; have hb := undrew hb0; clear hb0; have HBt := hide (HB2.out.later hb); obtain ⟨c0, c1, c2, c3, c4, g0, g1, g2, g3, g4⟩ := HBt.out.cells; have HB := hide hb; clear hb a0 a1 a2 a3 a4 hF)
  all_goals
    go_wp2_with fail
    refine bodyPost_ret (v := .agg #[iv (Pl.nv 6 s x v), iv W, iv (Pl.nx 6 s x v), iv (Pl.fell 6 s v), .bool false]) ?_ rfl ⟨?_, ?_⟩
    · exact results_box rfl _ rfl (HBt.out.set)
    · exact rA rfl rfl rfl rfl E4.out
    · exact (((((HX.out.trans (HB.out.mono HX.out.size)).setCell (by simp) _).setCell (by simp) _).setCell (by simp) _).setCell (by simp) _).setCell (by simp) _
set_option maxHeartbeats 4000000 in
theorem moved7 (s v x f W : Int) (w : World) (h : Pl.Fit s (v, x)) (hW : W = 8 * s) :
    Calls Try.prog 54 #[.agg #[iv v, iv W, iv x, iv f, .bool false], iv 7] w fun e w' => e = .returned (.agg #[iv (Pl.nv 7 s x v), iv W, iv (Pl.nx 7 s x v), iv (Pl.fell 7 s v), .bool (Pl.vfl 7 s x v)]) ∧ Below w.heap.size w w' := by
  have hst := store_func
  have E4 : Hid (false = Pl.vfl 7 s x v) := hide (by simp [Pl.vfl])
  have HF := hide h
  have HWW := hide hW
  clear h hW
  go_enter Try.func54, Try.ntmps54
  go_wp2_with fail
  clear hst
  obtain ⟨X, hX⟩ : ∃ X : World, X = (((w.alloc (.cells #[iv v, iv W, iv x, iv f, .bool false] 78)).alloc (.cells ftZ 78)).alloc (.cells #[.func (.func 98) #[] #[], .func (.func 99) #[] #[], .func (.func 100) #[] #[], .func (.func 101) #[] #[], .func (.func 102) #[] #[], .func (.func 103) #[] #[], .func (.func 104) #[] #[], .func (.func 105) #[] #[]] 106)) := ⟨_, rfl⟩
  rw [← hX]
  have B1 : Box X w.heap.size v W x f false := by rw [hX]; exact Box.new1 _ _ _ _ _ _ _ _
  have B2 : Box X (w.heap.size + 1) 0 0 0 0 false := by rw [hX]; exact Box.new2 _ _ _ _ _ _ _ _
  have hF : X.cell? ⟨w.heap.size + 1 + 1, 7, none⟩ = some (.func (.func 105) #[] #[]) := by rw [hX]; go_simp
  have HX : Hid (Below w.heap.size w X) := hide (by rw [hX]; exact (((Below.refl _ _).alloc (by simp) _).alloc (by simp) _).alloc (by simp <;> omega) _)
  clear hX
  obtain ⟨a0, a1, a2, a3, a4, _, _, _, _, _⟩ := B1.cells
  have HB2 := hide B2
  clear B1 B2
  go_region_with (go_at_call 105; refine (turnDownThroughExtend s v x f W false _ HF.out HWW.out).mono ?_; rintro e wt ⟨rfl, hb0⟩; have hb := undrew hb0; clear hb0; have HBt := hide (HB2.out.later hb); obtain ⟨c0, c1, c2, c3, c4, g0, g1, g2, g3, g4⟩ := HBt.out.cells; have HB := hide hb; clear hb a0 a1 a2 a3 a4 hF)
  all_goals
    go_wp2_with fail
    refine bodyPost_ret (v := .agg #[iv (Pl.nv 7 s x v), iv W, iv (Pl.nx 7 s x v), iv (Pl.fell 7 s v), .bool false]) ?_ rfl ⟨?_, ?_⟩
    · exact results_box rfl _ rfl (HBt.out.set)
    · exact rA rfl rfl rfl rfl E4.out
    · exact (((((HX.out.trans (HB.out.mono HX.out.size)).setCell (by simp) _).setCell (by simp) _).setCell (by simp) _).setCell (by simp) _).setCell (by simp) _

/-- one place, of whatever kind and size -/
theorem moved (k s v x f W : Int) (t : Bool) (w : World) (k0 : 0 ≤ k) (k1 : k ≤ 7) (h : Pl.Fit s (v, x)) (hW : W = 8 * s) (ht : k = 0 ∨ t = false) :
    Calls Try.prog 54 #[.agg #[iv v, iv W, iv x, iv f, .bool t], iv k] w fun e w' => e = .returned (.agg #[iv (Pl.nv k s x v), iv W, iv (Pl.nx k s x v), iv (Pl.fell k s v), .bool (Pl.vfl k s x v)]) ∧ Below w.heap.size w w' := by
  have hk : k = 0 ∨ k = 1 ∨ k = 2 ∨ k = 3 ∨ k = 4 ∨ k = 5 ∨ k = 6 ∨ k = 7 := by omega
  rcases hk with rfl | rfl | rfl | rfl | rfl | rfl | rfl | rfl
  · exact moved0 s v x f W t w h hW
  · obtain rfl : t = false := ht.resolve_left (by decide)
    exact moved1 s v x f W w h hW
  · obtain rfl : t = false := ht.resolve_left (by decide)
    exact moved2 s v x f W w h hW
  · obtain rfl : t = false := ht.resolve_left (by decide)
    exact moved3 s v x f W w h hW
  · obtain rfl : t = false := ht.resolve_left (by decide)
    exact moved4 s v x f W w h hW
  · obtain rfl : t = false := ht.resolve_left (by decide)
    exact moved5 s v x f W w h hW
  · obtain rfl : t = false := ht.resolve_left (by decide)
    exact moved6 s v x f W w h hW
  · obtain rfl : t = false := ht.resolve_left (by decide)
    exact moved7 s v x f W w h hW
end Go.Proofs.Ytnmddmmmgdfknaa

namespace Go.Proofs.Ytnmddmmmgdfknaa
open Go.RowKit
set_option linter.unusedVariables false
def Pl.thr (k : Int) : Bool := (k == 6) || (k == 7)
theorem goesX (k : Int) (w : World) : Calls Try.prog 97 #[iv k] w fun e w' => e = .returned (.bool (Pl.thr k)) ∧ w' = w := by
  by_cases h : k = 6
  all_goals
    go_enter Try.func97, Try.ntmps97
    go_wp2
    go_ret
    exact ⟨rB (by simp [Pl.thr, h]), rfl⟩
end Go.Proofs.Ytnmddmmmgdfknaa

namespace Go.Proofs.Ytnmddmmmgdfknaa
open Go.RowKit
set_option linter.unusedVariables false
set_option linter.unusedSimpArgs false

theorem flagsIfR (b : Bool) (f : Int) (w : World) :
    Calls Try.prog 81 #[.bool b, iv f] w fun e w' => e = .returned (iv (Pl.fl b f)) ∧ w' = w := by
  cases b
  all_goals
    go_enter Try.func81, Try.ntmps81
    go_wp2
    go_ret
    exact ⟨rfl, rfl⟩
theorem widthOf (s : Int) (w : World) (s0 : 0 ≤ s) (s1 : s ≤ 2) :
    Calls Try.prog 69 #[iv s] w fun e w' => e = .returned (iv (8 * s)) ∧ w' = w := by
  go_enter Try.func69, Try.ntmps69
  go_wp2
  go_ret
  exact ⟨rI (by omega), rfl⟩
theorem isShift (k : Int) (w : World) :
    Calls Try.prog 62 #[iv k] w fun e w' => e = .returned (.bool (Pl.kin k)) ∧ w' = w := by
  by_cases h0 : 0 ≤ k
  all_goals
    by_cases h1 : k ≤ 7
    all_goals
      go_enter Try.func62, Try.ntmps62
      go_wp2
      go_ret
      exact ⟨rB (by simp [Pl.kin]; omega), rfl⟩
theorem isFlagsR (f : Int) (w : World) :
    Calls Try.prog 82 #[iv f] w fun e w' => e = .returned (.bool (Pl.flags f)) ∧ w' = w := by
  by_cases h0 : 0 ≤ f
  all_goals
    by_cases h1 : f ≤ 31
    all_goals
      go_enter Try.func82, Try.ntmps82
      go_wp2
      go_ret
      exact ⟨rB (by simp [Pl.flags]; omega), rfl⟩
theorem isLeft (k : Int) (w : World) :
    Calls Try.prog 22 #[iv k] w fun e w' => e = .returned (.tuple #[.bool (Pl.left k), .bool (Pl.kin k)]) ∧ w' = w := by
  cases h1 : Pl.kin k
  · have K : Hid (Pl.left k = false) := hide (by simp [Pl.left, h1])
    go_enter Try.func22, Try.ntmps22
    go_wp2_with fail
    refine (isShift _ _).mono ?_
    rintro e w' ⟨rfl, rfl⟩
    go_wp2_with fail
    go_ret2
    exact ⟨rBB K.out.symm rfl, rfl⟩
  · have hk : 0 ≤ k ∧ k ≤ 7 := by simpa [Pl.kin] using h1
    have : k = 0 ∨ k = 1 ∨ k = 2 ∨ k = 3 ∨ k = 4 ∨ k = 5 ∨ k = 6 ∨ k = 7 := by omega
    clear hk
    rcases this with rfl | rfl | rfl | rfl | rfl | rfl | rfl | rfl
    all_goals
      go_enter Try.func22, Try.ntmps22
      go_wp2_with fail
      refine (isShift _ _).mono ?_
      rintro e w' ⟨rfl, rfl⟩
      go_wp2_with fail
      go_ret2
      exact ⟨rfl, rfl⟩
theorem Pl.five {x f h : Int} {t z : Bool} (hx : x = 0 ∨ x = 1) (hf : f = 0 ∨ f = 1) (hh : h = 0 ∨ h = 1) :
    bits .or .i64 (bits .or .i64 (bits .or .i64 (bits .or .i64 (Pl.fl (f == 1) 1) (Pl.fl t 2)) (Pl.fl z 4)) (Pl.fl (h == 1) 8)) (Pl.fl (x == 1) 16) = f + Pl.fl t 2 + (Pl.fl z 4 + Pl.fl (h == 1) 8) + 16 * x := by
  rcases hx with rfl | rfl <;> rcases hf with rfl | rfl <;> rcases hh with rfl | rfl <;> cases t <;> cases z <;> decide
theorem Pl.hi_top (s v : Int) : (Pl.hi s v == 1) = decide (Pl.top s / 2 ≤ v) := by
  unfold Pl.hi; split
  · rename_i h; simp [h]
  · rename_i h; simp [h]
theorem flags1 (v x f : Int) (t : Bool) (w : World) (h0 : 0 ≤ v) (h1 : v < 256) (x0 : 0 ≤ x) (x1 : x ≤ 1) (f0 : 0 ≤ f) (f1 : f ≤ 1) :
    Calls Try.prog 55 #[.agg #[iv v, iv 8, iv x, iv f, .bool t]] w fun e w' => e = .returned (iv (f + Pl.fl t 2 + Pl.zn 1 v + 16 * x)) ∧ ∃ o1 o2, w' = (w.alloc o1).alloc o2 := by
  go_enter Try.func55, Try.ntmps55
  go_wp2_with (first | (go_at_call 81; refine (flagsIfR _ _ _).mono ?_; rintro e w' ⟨rfl, rfl⟩) | (go_at_call 106; refine (highest1 _ _ _ _ _ h0 h1).mono ?_; rintro e w' ⟨rfl, o, rfl⟩))
  go_ret
  obtain ⟨b0, b1⟩ := Pl.hi_bd 1 v
  refine ⟨rI ?_, _, _, rfl⟩
  show bits .or .i64 _ _ = _
  rw [Pl.five (by omega) (by omega) (by omega), Pl.hi_top]; rfl
theorem flags2 (v x f : Int) (t : Bool) (w : World) (h0 : 0 ≤ v) (h1 : v < 65536) (x0 : 0 ≤ x) (x1 : x ≤ 1) (f0 : 0 ≤ f) (f1 : f ≤ 1) :
    Calls Try.prog 55 #[.agg #[iv v, iv 16, iv x, iv f, .bool t]] w fun e w' => e = .returned (iv (f + Pl.fl t 2 + Pl.zn 2 v + 16 * x)) ∧ ∃ o1 o2, w' = (w.alloc o1).alloc o2 := by
  go_enter Try.func55, Try.ntmps55
  go_wp2_with (first | (go_at_call 81; refine (flagsIfR _ _ _).mono ?_; rintro e w' ⟨rfl, rfl⟩) | (go_at_call 106; refine (highest2 _ _ _ _ _ h0 h1).mono ?_; rintro e w' ⟨rfl, o, rfl⟩))
  go_ret
  obtain ⟨b0, b1⟩ := Pl.hi_bd 2 v
  refine ⟨rI ?_, _, _, rfl⟩
  show bits .or .i64 _ _ = _
  rw [Pl.five (by omega) (by omega) (by omega), Pl.hi_top]; rfl
theorem flags5 (s v x f W : Int) (t : Bool) (w : World) (h : Pl.Fit s (v, x)) (hW : W = 8 * s) (f0 : 0 ≤ f) (f1 : f ≤ 1) :
    Calls Try.prog 55 #[.agg #[iv v, iv W, iv x, iv f, .bool t]] w fun e w' => e = .returned (iv (f + Pl.fl t 2 + Pl.zn s v + 16 * x)) ∧ ∃ o1 o2, w' = (w.alloc o1).alloc o2 := by
  obtain ⟨hs, v0, v1, x0, x1⟩ := h
  simp only at v0 v1 x0 x1
  subst hW
  rcases Pl.top12 hs with ⟨rfl, e⟩ | ⟨rfl, e⟩ <;> rw [e] at v1
  · exact flags1 v x f t w v0 v1 x0 x1 f0 f1
  · exact flags2 v x f t w v0 v1 x0 x1 f0 f1
theorem rowOf_bad (k s f v : Int) (w : World) (lo : -9223372036854775808 ≤ v) (hi : v ≤ 9223372036854775807) (h : Pl.goodK k s f v = false) :
    Calls Try.prog 53 #[iv k, iv s, iv f, iv v] w fun e w' => e = .returned (.tuple #[.agg ftZ, .bool false]) ∧ Below w.heap.size w w' := by
  have H : (Pl.okv s v = false) ∨ (Pl.okv s v = true ∧ Pl.flags f = false) ∨ (Pl.okv s v = true ∧ Pl.flags f = true ∧ Pl.kin k = false) := by
    unfold Pl.goodK at h
    unfold Pl.kin
    revert h
    cases Pl.okv s v <;> cases Pl.flags f <;> simp
  clear h
  rcases H with h1 | ⟨h1, h2⟩ | ⟨h1, h2, h3⟩
  all_goals
    go_enter Try.func53, Try.ntmps53
    go_wp2_with (first | (go_at_call 18; refine (signedOf _ _ _ lo hi).mono ?_; rintro e w' ⟨rfl, rfl⟩) | (go_at_call 82; refine (isFlagsR _ _).mono ?_; rintro e w' ⟨rfl, rfl⟩) | (go_at_call 62; refine (isShift _ _).mono ?_; rintro e w' ⟨rfl, rfl⟩))
    refine bodyPost_ret (v := .tuple #[.agg ftZ, .bool false]) ?_ rfl ⟨rfl, ?_⟩
    · rw [results_cell_tmp rfl]; go_simp
    · (repeat' (first | with_reducible exact Below.refl _ _ | with_reducible refine Below.drew ?_ | with_reducible refine Below.alloc ?_ ?_ _ | (simp; done) | (simp; omega)))
def Pl.fal0 (k f : Int) : Int := if 6 ≤ k then f / 16 else 0
theorem rowOf (k s f v : Int) (w : World) (h : Pl.goodK k s f v = true) :
    Calls Try.prog 53 #[iv k, iv s, iv f, iv v] w fun e w' => e = .returned (.tuple #[.agg #[iv v, iv (8 * s), iv (f / 16), iv (Pl.fal0 k f), .bool false], .bool true]) ∧ Below w.heap.size w w' := by
  obtain ⟨k0, k1, h1, f0, f1, hs, v0, v1, _, _⟩ := Pl.goodK_ok h
  have h2 : Pl.flags f = true := by simp [Pl.flags, f0, f1]
  have h3 : Pl.kin k = true := by simp [Pl.kin, k0, k1]
  have vb : v < 65536 := by
    simp only at v1
    rcases Pl.top12 hs with ⟨_, e⟩ | ⟨_, e⟩ <;> rw [e] at v1 <;> omega
  simp only at v0 v1
  clear h v1
  have s0 : 0 ≤ s := by omega
  have s1 : s ≤ 2 := by omega
  cases hx : Pl.thr k
  · have E : Hid (0 = Pl.fal0 k f) := hide (by
      have hx2 := hx
      simp [Pl.thr] at hx2
      simp [Pl.fal0]; omega)
    have HX := hide hx
    clear hx
    go_enter Try.func53, Try.ntmps53
    go_wp2_with (first | (go_at_call 18; refine (signedOf _ _ _ (by omega) (by omega)).mono ?_; rintro e w' ⟨rfl, rfl⟩) | (go_at_call 82; refine (isFlagsR _ _).mono ?_; rintro e w' ⟨rfl, rfl⟩) | (go_at_call 62; refine (isShift _ _).mono ?_; rintro e w' ⟨rfl, rfl⟩) | (go_at_call 69; refine (widthOf _ _ s0 s1).mono ?_; rintro e w' ⟨rfl, rfl⟩) | (go_at_call 97; refine st (goesX _ _) ?_; rw [HX.out]))
    refine bodyPost_ret (v := .tuple #[.agg #[iv v, iv (8 * s), iv (f / 16), iv 0, .bool false], .bool true]) ?_ rfl ⟨by rw [E.out], ?_⟩
    · rw [results_cell_tmp rfl]; go_simp
    · (repeat' (first | with_reducible exact Below.refl _ _ | with_reducible refine Below.drew ?_ | with_reducible refine Below.alloc ?_ ?_ _ | (simp; done) | (simp; omega)))
  · have E : Hid (f / 16 = Pl.fal0 k f) := hide (by
      have hx2 := hx
      simp [Pl.thr] at hx2
      simp [Pl.fal0]; omega)
    have HX := hide hx
    clear hx
    go_enter Try.func53, Try.ntmps53
    go_wp2_with (first | (go_at_call 18; refine (signedOf _ _ _ (by omega) (by omega)).mono ?_; rintro e w' ⟨rfl, rfl⟩) | (go_at_call 82; refine (isFlagsR _ _).mono ?_; rintro e w' ⟨rfl, rfl⟩) | (go_at_call 62; refine (isShift _ _).mono ?_; rintro e w' ⟨rfl, rfl⟩) | (go_at_call 69; refine (widthOf _ _ s0 s1).mono ?_; rintro e w' ⟨rfl, rfl⟩) | (go_at_call 97; refine st (goesX _ _) ?_; rw [HX.out]))
    refine bodyPost_ret (v := .tuple #[.agg #[iv v, iv (8 * s), iv (f / 16), iv (f / 16), .bool false], .bool true]) ?_ rfl ⟨by rw [E.out], ?_⟩
    · rw [results_cell_tmp rfl]; go_simp
    · (repeat' (first | with_reducible exact Below.refl _ _ | with_reducible refine Below.drew ?_ | with_reducible refine Below.alloc ?_ ?_ _ | (simp; done) | (simp; omega)))
end Go.Proofs.Ytnmddmmmgdfknaa

namespace Go.Proofs.Ytnmddmmmgdfknaa
open Go.RowKit
set_option linter.unusedVariables false

/-- the bit that fell out last, ahead of the first place too; whether the last place told it -/
def Pl.falN (k s f v : Int) : Nat → Int
  | 0 => Pl.fal0 k f
  | m + 1 => Pl.fell k s (Pl.st k s (v, f / 16) m).1
def Pl.lastV (k s f v : Int) : Nat → Bool
  | 0 => false
  | m + 1 => Pl.vfl k s (Pl.st k s (v, f / 16) m).2 (Pl.st k s (v, f / 16) m).1
theorem Pl.lastV_not (k s f v : Int) (m : Nat) : k = 0 ∨ Pl.lastV k s f v m = false := by
  cases m with
  | zero => exact .inr rfl
  | succ m =>
    by_cases h : k = 0
    · exact .inl h
    · exact .inr (by simp [Pl.lastV, Pl.vfl, h])
theorem Pl.falN_bd {k s f v : Int} (h : Pl.Fit s (v, f / 16)) (m : Nat) : 0 ≤ Pl.falN k s f v m ∧ Pl.falN k s f v m ≤ 1 := by
  cases m with
  | zero =>
    obtain ⟨_, _, _, x0, x1⟩ := h
    simp only at x0 x1
    unfold Pl.falN Pl.fal0
    split <;> omega
  | succ m => exact Pl.fell_bd _ _ _
theorem Pl.byF_end {k s f v : Int} (h : Pl.Fit s (v, f / 16)) (m : Nat) : Pl.falN k s f v m + Pl.fl (Pl.ov k s (v, f / 16) m) 2 + Pl.zn s (Pl.st k s (v, f / 16) m).1 + 16 * (Pl.st k s (v, f / 16) m).2 = Pl.byF k s (v, f / 16) m := by
  cases m with
  | zero =>
    obtain ⟨_, _, _, x0, x1⟩ := h
    simp only at x0 x1
    have hx : f / 16 = 0 ∨ f / 16 = 1 := by omega
    unfold Pl.falN Pl.fal0 Pl.byF Pl.ov Pl.st
    simp only
    by_cases h6 : 6 ≤ k
    · rcases hx with hx | hx <;> simp [hx, h6, Pl.fl]
    · simp [h6, Pl.fl]
  | succ m => rfl
set_option maxHeartbeats 4000000 in
theorem shiftBy_good (k s f v n : Int) (w : World) (h : Pl.goodK k s f v = true) (n0 : 0 ≤ n) (n1 : n ≤ 63) :
    Calls Try.prog 14 #[iv k, iv s, iv f, iv v, iv n] w fun e w' => e = .returned (.tuple #[iv (Pl.st k s (v, f / 16) n.toNat).1, iv (Pl.byF k s (v, f / 16) n.toNat), .bool true]) ∧ Below w.heap.size w w' := by
  have HG := hide h
  obtain ⟨k0, k1, _, f0, f1, hf⟩ := Pl.goodK_ok h
  have HF := hide hf
  have d0 : decide (n < 0) = false := by simp; omega
  have d1 : decide (63 < n) = false := by simp; omega
  clear h hf
  go_enter Try.func14, Try.ntmps14
  go_wp2_with fail
  refine (rowOf k s f v _ HG.out).mono ?_
  rintro e w1 ⟨rfl, hb⟩
  have HB := hide hb
  clear hb
  go_wp2_with fail
  go_loopw [15, 35] (fun T I wr => ∃ m : Nat, (m : Int) ≤ n ∧ T = .bool (Pl.ov k s (v, f / 16) m) ∧ I = iv m ∧ Box wr w1.heap.size (Pl.st k s (v, f / 16) m).1 (8 * s) (Pl.st k s (v, f / 16) m).2 (Pl.falN k s f v m) (Pl.lastV k s f v m) ∧ Below w.heap.size w wr) (fun _ I _ => n.toNat - (intOf I).toNat)
  case atStart => exact ⟨0, n0, rfl, rfl, Box.new0 _ _ _ _ _ _, HB.out.alloc HB.out.size _⟩
  case round =>
    obtain ⟨m, hm, rfl, rfl, hB, hW⟩ := hrel
    have HBm := hide hB
    have HW := hide hW
    have hst := hide (Pl.st_fit (k := k) HF.out m)
    obtain ⟨c0, c1, c2, c3, c4, g0, g1, g2, g3, g4⟩ := hB.cells
    clear hB hW
    by_cases hlt : (m : Int) < n
    · clear g0 g1 g2 g3 g4
      cases ho : Pl.ov k s (v, f / 16) m
      all_goals
        go_wp2_with fail
        refine (moved k s _ _ _ _ _ _ k0 k1 hst.out rfl (Pl.lastV_not k s f v m)).mono ?_
        rintro e wt ⟨rfl, hb2⟩
        have Bt := hide (HBm.out.later hb2)
        have HX : Hid (Below w.heap.size w wt) := hide (HW.out.trans (hb2.mono HW.out.size))
        clear hb2 c0 c1 c2 c3 c4
        obtain ⟨c0, c1, c2, c3, c4, g0, g1, g2, g3, g4⟩ := Bt.out.cells
        go_wp2_with fail
        go_roundw
        case rel => exact ⟨m + 1, by omega, by simp [Pl.ov, ho], by go_num, Bt.out.set, Below.set5 HX.out HB.out.size _ _ _ _ _⟩
        case measure => simp [intOf]; omega
    · obtain rfl : n = (m : Int) := by omega
      have hfa := Pl.falN_bd (k := k) HF.out m
      have HE := hide (Pl.byF_end (k := k) HF.out m)
      have d2 : decide ((m : Int) < (m : Int)) = false := by simp
      go_wp2_with fail
      obtain ⟨X, hX⟩ : ∃ X : World, X = wr.setCell ⟨w1.heap.size, 4, none⟩ (.bool (Pl.ov k s (v, f / 16) m)) := ⟨_, rfl⟩
      rw [← hX]
      have B2 := hide (HBm.out.set4 (t' := Pl.ov k s (v, f / 16) m))
      rw [← hX] at B2
      have HY : Hid (Below w.heap.size w X) := hide (by rw [hX]; exact HW.out.setCell HB.out.size _)
      clear hX c0 c1 c2 c3 c4 g0 g1 g2 g3 g4
      obtain ⟨c0, c1, c2, c3, c4, _, _, _, _, _⟩ := B2.out.cells
      go_region_with (go_at_call 55; refine (flags5 s _ _ _ _ _ _ hst.out rfl hfa.1 hfa.2).mono ?_; rintro e wx ⟨rfl, o1, o2, rfl⟩; obtain ⟨z0, z1, z2, z3, z4, _, _, _, _, _⟩ := (B2.out.two o1 o2).cells)
      all_goals
        go_wp2_with fail
        go_ret3
        exact ⟨rIIB rfl HE.out rfl, ((HY.out.alloc HY.out.size _).alloc (by simpa using Nat.le_succ_of_le HY.out.size) _).drew⟩

theorem shiftBy (k s f v n : Int) (w : World) (hv : W64 v) :
    Calls Try.prog 14 #[iv k, iv s, iv f, iv v, iv n] w fun e w' => e = .returned (.tuple #[iv (Pl.byVal k s f v n), iv (Pl.byFl k s f v n), .bool (Pl.byOk k s f v n)]) ∧ Below w.heap.size w w' := by
  cases h : Pl.goodK k s f v
  · have K : Hid (Pl.byOk k s f v n = false ∧ Pl.byVal k s f v n = 0 ∧ Pl.byFl k s f v n = 0) := hide (by simp [Pl.byVal, Pl.byFl, Pl.byOk, h])
    go_enter Try.func14, Try.ntmps14
    go_wp2_with fail
    refine (rowOf_bad k s f v _ hv.1 hv.2 h).mono ?_
    rintro e w1 ⟨rfl, hb⟩
    go_wp2_with fail
    go_ret3
    exact ⟨rIIB K.out.2.1.symm K.out.2.2.symm K.out.1.symm, hb.alloc hb.size _⟩
  · by_cases hn : 0 ≤ n ∧ n ≤ 63
    · have hk : Pl.byOk k s f v n = true := Pl.byOk_mk h hn.1 hn.2
      refine (shiftBy_good k s f v n w h hn.1 hn.2).mono ?_
      rintro e w' ⟨rfl, hb⟩
      exact ⟨rIIB (by simp [Pl.byVal, hk]) (by simp [Pl.byFl, hk]) hk.symm, hb⟩
    · have K : Hid (Pl.byOk k s f v n = false ∧ Pl.byVal k s f v n = 0 ∧ Pl.byFl k s f v n = 0) := by
        have : Pl.cnt n = false := by simp [Pl.cnt]; omega
        exact hide (by simp [Pl.byVal, Pl.byFl, Pl.byOk, this])
      obtain d0 | ⟨d0, d1⟩ : decide (n < 0) = true ∨ (decide (n < 0) = false ∧ decide (63 < n) = true) := by simp; omega
      all_goals
        clear hn
        go_enter Try.func14, Try.ntmps14
        go_wp2_with fail
        refine (rowOf k s f v _ h).mono ?_
        rintro e w1 ⟨rfl, hb⟩
        go_wp2_with fail
        go_ret3
        exact ⟨rIIB K.out.2.1.symm K.out.2.2.symm K.out.1.symm, hb.alloc hb.size _⟩

theorem otherWay (k : Int) (w : World) (k0 : 4 ≤ k) (k1 : k ≤ 7) :
    Calls Try.prog 65 #[iv k] w fun e w' => e = .returned (iv (Pl.flip k)) ∧ w' = w := by
  have : k = 4 ∨ k = 5 ∨ k = 6 ∨ k = 7 := by omega
  clear k0 k1
  rcases this with rfl | rfl | rfl | rfl
  all_goals
    go_enter Try.func65, Try.ntmps65
    go_wp2_with fail
    refine (isLeft _ _).mono ?_
    rintro e w' ⟨rfl, rfl⟩
    go_wp2_with (simp only [Pl.left, Pl.kin])
    go_ret
    exact ⟨rfl, rfl⟩

theorem rotateBack (k s f v n : Int) (w : World) (hv : W64 v) :
    Calls Try.prog 25 #[iv k, iv s, iv f, iv v, iv n] w fun e w' => e = .returned (.tuple #[iv (Pl.rbV k s f v n), .bool (Pl.rbOk k s f v n)]) ∧ Below w.heap.size w w' := by
  by_cases hk : 4 ≤ k ∧ k ≤ 7
  · obtain ⟨k0, k1⟩ := hk
    have d0 : decide (k < 4) = false := by simp; omega
    have d1 : decide (7 < k) = false := by simp; omega
    cases ho : Pl.byOk k s f v n
    · have K : Hid (Pl.rbOk k s f v n = false ∧ Pl.rbV k s f v n = 0) := hide (by simp [Pl.rbV, Pl.rbOk, ho])
      go_enter Try.func25, Try.ntmps25
      go_wp2_with fail
      refine (shiftBy k s f v n _ hv).mono ?_
      rintro e w1 ⟨rfl, hb⟩
      go_wp2_with fail
      go_ret2
      exact ⟨rIB K.out.2.symm K.out.1.symm, hb⟩
    · have kr : Pl.rbOk k s f v n = true := by simp [Pl.rbOk, ho, k0]
      have K : Hid (Pl.rbOk k s f v n = true ∧ Pl.rbV k s f v n = v) := hide (by simp [Pl.rbV, kr])
      obtain ⟨_, t1, t2⟩ := Pl.turned_back kr
      have T2 := hide t2
      have hw : W64 (Pl.byVal k s f v n) := by
        obtain ⟨hg, n0, n1⟩ := Pl.byOk_ok ho
        obtain ⟨_, _, _, _, _, hf⟩ := Pl.goodK_ok hg
        obtain ⟨hs, u0, u1, _, _⟩ := Pl.st_fit (k := k) hf n.toNat
        have e : Pl.byVal k s f v n = (Pl.st k s (v, f / 16) n.toNat).1 := by simp [Pl.byVal, ho]
        rw [e]
        rcases Pl.top12 hs with ⟨_, e⟩ | ⟨_, e⟩ <;> rw [e] at u1 <;> exact ⟨by omega, by omega⟩
      clear t2 kr
      go_enter Try.func25, Try.ntmps25
      go_wp2_with fail
      refine (shiftBy k s f v n _ hv).mono ?_
      rintro e w1 ⟨rfl, hb⟩
      go_wp2_with fail
      refine (otherWay k _ k0 k1).mono ?_
      rintro e w2 ⟨rfl, rfl⟩
      go_wp2_with fail
      refine (shiftBy (Pl.flip k) s _ _ n _ hw).mono ?_
      rintro e w3 ⟨rfl, hb2⟩
      go_wp2_with fail
      go_ret2
      exact ⟨rIB (T2.out.trans K.out.2.symm) K.out.1.symm, hb.trans (hb2.mono hb.size)⟩
  · have K : Hid (Pl.rbOk k s f v n = false ∧ Pl.rbV k s f v n = 0) := by
      have : Pl.rbOk k s f v n = false := by
        cases h : Pl.rbOk k s f v n
        · rfl
        · simp only [Pl.rbOk, Bool.and_eq_true, decide_eq_true_eq] at h
          have := Pl.goodK_ok (Pl.byOk_ok h.1).1
          omega
      exact hide (by simp [Pl.rbV, this])
    obtain d0 | ⟨d0, d1⟩ : decide (k < 4) = true ∨ (decide (k < 4) = false ∧ decide (7 < k) = true) := by simp; omega
    all_goals
      clear hk
      go_enter Try.func25, Try.ntmps25
      go_wp2_with fail
      go_ret2
      exact ⟨rIB K.out.2.symm K.out.1.symm, Below.refl _ _⟩
end Go.Proofs.Ytnmddmmmgdfknaa

namespace Go.Proofs.Ytnmddmmmgdfknaa
open Go.RowKit
set_option linter.unusedVariables false
theorem rU {a b : Int} (h : a = b) : Ending.returned (.int .u16 a) = .returned (.int .u16 b) := by rw [h]
theorem Pl.and255w (a : Int) (h0 : 0 ≤ a) (h1 : a < 65536) : bits .and .u16 a 255 = a % 256 := by
  show IntKind.u16.wrap ((BitVec.ofInt 16 a &&& BitVec.ofInt 16 255).toNat : Int) = _
  rw [BitVec.toNat_and, BitVec.toNat_ofInt, show (BitVec.ofInt 16 255).toNat = 2 ^ 8 - 1 from by decide, Nat.and_two_pow_sub_one_eq_mod, IntKind.wrap_u16]
  omega
theorem Pl.pop_cut {v : Int} : Pl.pop 16 v = Pl.pop 8 (v % 256) + Pl.pop 8 (v / 256) := by
  simp only [Pl.pop, Int.add_zero]
  have e1 : v % 256 % 2 = v % 2 := by omega
  have e2 : v % 256 / 2 % 2 = v / 2 % 2 := by omega
  have e3 : v % 256 / 2 / 2 % 2 = v / 2 / 2 % 2 := by omega
  have e4 : v % 256 / 2 / 2 / 2 % 2 = v / 2 / 2 / 2 % 2 := by omega
  have e5 : v % 256 / 2 / 2 / 2 / 2 % 2 = v / 2 / 2 / 2 / 2 % 2 := by omega
  have e6 : v % 256 / 2 / 2 / 2 / 2 / 2 % 2 = v / 2 / 2 / 2 / 2 / 2 % 2 := by omega
  have e7 : v % 256 / 2 / 2 / 2 / 2 / 2 / 2 % 2 = v / 2 / 2 / 2 / 2 / 2 / 2 % 2 := by omega
  have e8 : v % 256 / 2 / 2 / 2 / 2 / 2 / 2 / 2 % 2 = v / 2 / 2 / 2 / 2 / 2 / 2 / 2 % 2 := by omega
  have e9 : v / 2 / 2 / 2 / 2 / 2 / 2 / 2 / 2 = v / 256 := by omega
  rw [e1, e2, e3, e4, e5, e6, e7, e8, e9]
  simp only [Int.add_assoc]
theorem Pl.rv_cut : ∀ (m n : Nat) (v : Int), Pl.rv (m + n) v = Pl.rv m v * 2 ^ n + Pl.rv n (v / 2 ^ m)
  | m, 0, v => by simp [Pl.rv]
  | m, n + 1, v => by
    rw [← Nat.add_assoc, Pl.rv, Pl.rv_cut m n v, Pl.rv, Int.pow_succ, Int.add_mul, Int.mul_assoc]
    rw [show v / 2 ^ m / 2 ^ n = v / 2 ^ (m + n) from by rw [Int.ediv_ediv_of_nonneg (Int.le_of_lt (Pl.pow_pos m)), Int.pow_add], Int.add_assoc]
theorem Pl.rv_low (v : Int) : Pl.rv 8 (v % 256) = Pl.rv 8 v := by
  simp only [Pl.rv, Int.reducePow]
  omega
theorem Pl.rv_word (v : Int) : Pl.rv 16 v = Pl.rv 8 (v % 256) * 256 + Pl.rv 8 (v / 256) := by
  rw [Pl.rv_low]; exact Pl.rv_cut 8 8 v
theorem Pl.pop_tab {i : Int} (h0 : 0 ≤ i) (h1 : i ≤ 255) : Lib.pop8 i = Pl.pop 8 i := by
  have k : ∀ m : Fin 256, Lib.pop8 ((m.val : Nat) : Int) = Pl.pop 8 ((m.val : Nat) : Int) := by decide +kernel
  obtain ⟨n, rfl⟩ := Int.eq_ofNat_of_zero_le h0
  exact k ⟨n, by omega⟩
theorem Pl.rev_tab {i : Int} (h0 : 0 ≤ i) (h1 : i ≤ 255) : Lib.rev8 i = Pl.rv 8 i := by
  have k : ∀ m : Fin 256, Lib.rev8 ((m.val : Nat) : Int) = Pl.rv 8 ((m.val : Nat) : Int) := by decide +kernel
  obtain ⟨n, rfl⟩ := Int.eq_ofNat_of_zero_le h0
  exact k ⟨n, by omega⟩
theorem Pl.wraps_u16 (n : Int) (h0 : 0 ≤ n) (h1 : n < 2 ^ 16) : IntKind.u16.wrap n = n := by rw [IntKind.wrap_u16]; omega
set_option maxRecDepth 100000 in
theorem onesTab : (⟨(([0, 1, 1, 2, 1, 2, 2, 3, 1, 2, 2, 3, 2, 3, 3, 4, 1, 2, 2, 3, 2, 3, 3, 4, 2, 3, 3, 4, 3, 4, 4, 5, 1, 2, 2, 3, 2, 3, 3, 4, 2, 3, 3, 4, 3, 4, 4, 5, 2, 3, 3, 4, 3, 4, 4, 5, 3, 4, 4, 5, 4, 5, 5, 6].append [1, 2, 2, 3, 2, 3, 3, 4, 2, 3, 3, 4, 3, 4, 4, 5, 2, 3, 3, 4, 3, 4, 4, 5, 3, 4, 4, 5, 4, 5, 5, 6, 2, 3, 3, 4, 3, 4, 4, 5, 3, 4, 4, 5, 4, 5, 5, 6, 3, 4, 4, 5, 4, 5, 5, 6, 4, 5, 5, 6, 5, 6, 6, 7]).append ([1, 2, 2, 3, 2, 3, 3, 4, 2, 3, 3, 4, 3, 4, 4, 5, 2, 3, 3, 4, 3, 4, 4, 5, 3, 4, 4, 5, 4, 5, 5, 6, 2, 3, 3, 4, 3, 4, 4, 5, 3, 4, 4, 5, 4, 5, 5, 6, 3, 4, 4, 5, 4, 5, 5, 6, 4, 5, 5, 6, 5, 6, 6, 7].append [2, 3, 3, 4, 3, 4, 4, 5, 3, 4, 4, 5, 4, 5, 5, 6, 3, 4, 4, 5, 4, 5, 5, 6, 4, 5, 5, 6, 5, 6, 6, 7, 3, 4, 4, 5, 4, 5, 5, 6, 4, 5, 5, 6, 5, 6, 6, 7, 4, 5, 5, 6, 5, 6, 6, 7, 5, 6, 6, 7, 6, 7, 7, 8])).toArray⟩ : ByteArray) = Lib.pop8tab := by decide +kernel
set_option maxRecDepth 100000 in
theorem turnTab : (⟨(([0, 128, 64, 192, 32, 160, 96, 224, 16, 144, 80, 208, 48, 176, 112, 240, 8, 136, 72, 200, 40, 168, 104, 232, 24, 152, 88, 216, 56, 184, 120, 248, 4, 132, 68, 196, 36, 164, 100, 228, 20, 148, 84, 212, 52, 180, 116, 244, 12, 140, 76, 204, 44, 172, 108, 236, 28, 156, 92, 220, 60, 188, 124, 252].append [2, 130, 66, 194, 34, 162, 98, 226, 18, 146, 82, 210, 50, 178, 114, 242, 10, 138, 74, 202, 42, 170, 106, 234, 26, 154, 90, 218, 58, 186, 122, 250, 6, 134, 70, 198, 38, 166, 102, 230, 22, 150, 86, 214, 54, 182, 118, 246, 14, 142, 78, 206, 46, 174, 110, 238, 30, 158, 94, 222, 62, 190, 126, 254]).append ([1, 129, 65, 193, 33, 161, 97, 225, 17, 145, 81, 209, 49, 177, 113, 241, 9, 137, 73, 201, 41, 169, 105, 233, 25, 153, 89, 217, 57, 185, 121, 249, 5, 133, 69, 197, 37, 165, 101, 229, 21, 149, 85, 213, 53, 181, 117, 245, 13, 141, 77, 205, 45, 173, 109, 237, 29, 157, 93, 221, 61, 189, 125, 253].append [3, 131, 67, 195, 35, 163, 99, 227, 19, 147, 83, 211, 51, 179, 115, 243, 11, 139, 75, 203, 43, 171, 107, 235, 27, 155, 91, 219, 59, 187, 123, 251, 7, 135, 71, 199, 39, 167, 103, 231, 23, 151, 87, 215, 55, 183, 119, 247, 15, 143, 79, 207, 47, 175, 111, 239, 31, 159, 95, 223, 63, 191, 127, 255])).toArray⟩ : ByteArray) = Lib.rev8tab := by decide +kernel
set_option maxRecDepth 100000 in
theorem onesCount16 (v : Int) (w : World) (h0 : 0 ≤ v) (h1 : v < 65536) :
    Calls Try.prog 66 #[.int .u16 v] w fun e w' => e = .returned (.int .i64 (Pl.pop 16 v)) ∧ ∃ n, w' = w.drewN n := by
  have hA := Pl.and255w v h0 h1
  have b0 : 0 ≤ v / 256 := by omega
  have b1 : v / 256 ≤ 255 := by omega
  have b2 : 0 ≤ v % 256 := by omega
  have b3 : v % 256 ≤ 255 := by omega
  go_enter Try.func66, Try.ntmps66
  simp only [onesTab]
  go_wp2
  go_quiet (fail)
  go_wp2
  go_ret
  refine ⟨rI ?_, _, rfl⟩
  show (Lib.pop8 (v / 256) + Lib.pop8 (v % 256)) % 256 = _
  rw [Pl.pop_tab b0 b1, Pl.pop_tab b2 b3, Pl.pop_cut]
  have := Pl.pop_bd 8 (v / 256)
  have := Pl.pop_bd 8 (v % 256)
  omega
set_option maxRecDepth 100000 in
theorem reverse16 (v : Int) (w : World) (h0 : 0 ≤ v) (h1 : v < 65536) :
    Calls Try.prog 68 #[.int .u16 v] w fun e w' => e = .returned (.int .u16 (Pl.rv 16 v)) ∧ ∃ n, w' = w.drewN n := by
  have hA := Pl.and255w v h0 h1
  have b0 : 0 ≤ v / 256 := by omega
  have b1 : v / 256 ≤ 255 := by omega
  have b2 : 0 ≤ v % 256 := by omega
  have b3 : v % 256 ≤ 255 := by omega
  go_enter Try.func68, Try.ntmps68
  simp only [turnTab]
  go_wp2
  go_quiet (fail)
  go_wp2
  go_ret
  refine ⟨rU ?_, _, rfl⟩
  show bits .or .u16 (IntKind.u16.wrap (Lib.rev8 (v / 256))) (IntKind.u16.wrap (IntKind.u16.wrap (Lib.rev8 (v % 256)) * 256)) = _
  obtain ⟨p0, p1⟩ := Pl.rv_bd 8 (v / 256)
  obtain ⟨q0, q1⟩ := Pl.rv_bd 8 (v % 256)
  rw [Pl.rev_tab b0 b1, Pl.rev_tab b2 b3, Pl.rv_word, Pl.wraps_u16 _ p0 (by omega), Pl.wraps_u16 _ q0 (by omega), Pl.wraps_u16 _ (by omega) (by omega), bits_join_low .u16 16 (by decide) Pl.wraps_u16 8 _ _ p0 p1 (by omega) (by omega) (by omega) (by omega)]
  omega
theorem countOnes (s v : Int) (w : World) (hv : W64 v) :
    Calls Try.prog 27 #[.int .i64 s, .int .i64 v] w fun e w' => e = .returned (.tuple #[.int .i64 (Pl.onesV s v), .bool (Pl.okv s v)]) ∧ ∃ n, w' = w.drewN n := by
  cases h1 : Pl.okv s v
  · have K : Hid (Pl.onesV s v = 0) := hide (by simp [Pl.onesV, h1])
    go_enter Try.func27, Try.ntmps27
    go_wp2_with fail
    refine (signedOf _ _ _ hv.1 hv.2).mono ?_
    rintro e w' ⟨rfl, rfl⟩
    go_wp2_with fail
    go_ret2
    exact ⟨rIB K.out.symm rfl, 0, rfl⟩
  · have K : Hid (Pl.onesV s v = Pl.pop 16 v) := hide (by simp [Pl.onesV, h1])
    have hb : 0 ≤ v ∧ v < 65536 := by have := Pl.top_ok h1; omega
    obtain ⟨v0, v1⟩ := hb
    have hw : IntKind.u16.wrap v = v := Pl.wraps_u16 v v0 v1
    go_enter Try.func27, Try.ntmps27
    go_wp2_with fail
    refine (signedOf _ _ _ hv.1 hv.2).mono ?_
    rintro e w' ⟨rfl, rfl⟩
    go_wp2_with fail
    refine (onesCount16 v _ v0 v1).mono ?_
    rintro e w' ⟨rfl, n, rfl⟩
    go_wp2_with fail
    go_ret2
    exact ⟨rIB K.out.symm rfl, n, rfl⟩
theorem reverseBits (s v : Int) (w : World) (hv : W64 v) :
    Calls Try.prog 29 #[.int .i64 s, .int .i64 v] w fun e w' => e = .returned (.tuple #[.int .i64 (Pl.revV s v), .bool (Pl.okv s v)]) ∧ ∃ n, w' = w.drewN n := by
  cases h1 : Pl.okv s v
  · have K : Hid (Pl.revV s v = 0) := hide (by simp [Pl.revV, h1])
    go_enter Try.func29, Try.ntmps29
    go_wp2_with fail
    refine (signedOf _ _ _ hv.1 hv.2).mono ?_
    rintro e w' ⟨rfl, rfl⟩
    go_wp2_with fail
    go_ret2
    exact ⟨rIB K.out.symm rfl, 0, rfl⟩
  · have K : Hid (Pl.revV s v = Pl.rv (8 * s).toNat v) := hide (by simp [Pl.revV, h1])
    have hs := Pl.okv_size h1
    obtain ⟨_, v0, v1⟩ := Pl.top_ok h1
    have v2 : v < 65536 := by have := Pl.top_ok h1; omega
    have hw : IntKind.u16.wrap v = v := Pl.wraps_u16 v v0 v2
    obtain ⟨r0, r1⟩ := Pl.rv_bd 16 v
    have r2 : Pl.rv 16 v < 65536 := r1
    rcases hs with rfl | rfl
    · have E : Hid (Pl.rv 16 v / 256 = Pl.revV 1 v) := hide (by
        have e : v < 256 := v1
        have := Pl.rv_word v
        have z : Pl.rv 8 (v / 256) = 0 := by rw [show v / 256 = 0 from by omega]; rfl
        rw [K.out, Pl.rv_word, z, Pl.rv_low]
        show (Pl.rv 8 v * 256 + 0) / 256 = Pl.rv 8 v
        omega)
      go_enter Try.func29, Try.ntmps29
      go_wp2_with fail
      refine (signedOf _ _ _ hv.1 hv.2).mono ?_
      rintro e w' ⟨rfl, rfl⟩
      go_wp2_with fail
      refine (reverse16 v _ v0 v2).mono ?_
      rintro e w' ⟨rfl, n, rfl⟩
      go_wp2_with fail
      refine (widthOf 1 _ (by decide) (by decide)).mono ?_
      rintro e w' ⟨rfl, rfl⟩
      go_wp2_with fail
      go_ret2
      exact ⟨rIB E.out rfl, n, rfl⟩
    · have E : Hid (Pl.rv 16 v = Pl.revV 2 v) := hide K.out.symm
      go_enter Try.func29, Try.ntmps29
      go_wp2_with fail
      refine (signedOf _ _ _ hv.1 hv.2).mono ?_
      rintro e w' ⟨rfl, rfl⟩
      go_wp2_with fail
      refine (reverse16 v _ v0 v2).mono ?_
      rintro e w' ⟨rfl, n, rfl⟩
      go_wp2_with fail
      refine (widthOf 2 _ (by decide) (by decide)).mono ?_
      rintro e w' ⟨rfl, rfl⟩
      go_wp2_with fail
      go_ret2
      exact ⟨rIB E.out rfl, n, rfl⟩
end Go.Proofs.Ytnmddmmmgdfknaa

namespace Go.Proofs.Ytnmddmmmgdfknaa
open Go.RowKit
set_option linter.unusedVariables false

theorem specCountOnes (s v : Int) (w : World) : Calls Try.prog 31 #[.int .i64 s, .int .i64 v] w fun e w' => e = .returned (.tuple #[.int .i64 (Pl.onesV s v), .bool (Pl.okv s v)]) ∧ w' = w := by
  cases h1 : Pl.okv s v
  · have K : Hid (Pl.onesV s v = 0) := hide (by simp [Pl.onesV, h1])
    go_enter Try.func31, Try.ntmps31
    go_wp2_with fail
    refine (l1Value _ _ _).mono ?_
    rintro e w' ⟨rfl, rfl⟩
    go_wp2_with fail
    go_ret2
    exact ⟨rIB K.out.symm rfl, rfl⟩
  · have K : Hid (Pl.onesV s v = Pl.pop 16 v) := hide (by simp [Pl.onesV, h1])
    have hv : 0 ≤ v ∧ v < 65536 := by have := Pl.top_ok h1; omega
    obtain ⟨v0, v1⟩ := hv
    go_enter Try.func31, Try.ntmps31
    go_wp2_with fail
    refine (l1Value _ _ _).mono ?_
    rintro e w' ⟨rfl, rfl⟩
    go_wp2_with fail
    go_loop [1, 6] (fun V N => ∃ u a : Int, V = .int .i64 u ∧ N = .int .i64 a ∧ 0 ≤ u ∧ u < 65536 ∧ 0 ≤ a ∧ a ≤ 16 ∧ a + Pl.pop 16 u = Pl.pop 16 v) (fun V _ => (intOf V).toNat)
    case atStart => exact ⟨v, 0, rfl, rfl, v0, v1, by omega, by omega, by omega⟩
    case round =>
      obtain ⟨u, a, rfl, rfl, u0, u1, a0, a1, he⟩ := hrel
      have hA := Pl.and1 u
      have hp := Pl.pop_bd 16 v
      by_cases hu : 0 < u
      · have hs := Pl.pop_step u0 u1
        have hq := Pl.pop_bd 16 (u / 2)
        have HE : Hid (a + u % 2 + Pl.pop 16 (u / 2) = Pl.pop 16 v) := hide (by omega)
        clear he hs
        go_wp2_with fail
        go_round
        case rel => exact ⟨u / 2, a + u % 2, rfl, rfl, by omega, by omega, by omega, by have := HE.out; omega, HE.out⟩
        case measure => simp [intOf]; omega
      · obtain rfl : u = 0 := by omega
        rw [Pl.pop_zero, Int.add_zero] at he
        have HE := hide he
        clear he
        go_wp2_with fail
        go_ret2
        exact ⟨rIB (HE.out.trans K.out.symm) rfl, rfl⟩

theorem specReverseBits (s v : Int) (w : World) : Calls Try.prog 30 #[.int .i64 s, .int .i64 v] w fun e w' => e = .returned (.tuple #[.int .i64 (Pl.revV s v), .bool (Pl.okv s v)]) ∧ w' = w := by
  cases h1 : Pl.okv s v
  · have K : Hid (Pl.revV s v = 0) := hide (by simp [Pl.revV, h1])
    go_enter Try.func30, Try.ntmps30
    go_wp2_with fail
    refine (l1Value _ _ _).mono ?_
    rintro e w' ⟨rfl, rfl⟩
    go_wp2_with fail
    go_ret2
    exact ⟨rIB K.out.symm rfl, rfl⟩
  · have K : Hid (Pl.revV s v = Pl.rv (8 * s).toNat v) := hide (by simp [Pl.revV, h1])
    have hv : 0 ≤ v ∧ v < 65536 ∧ (s = 1 ∨ s = 2) := by have := Pl.top_ok h1; omega
    obtain ⟨v0, v1, hs⟩ := hv
    obtain ⟨N, hN, hN2⟩ : ∃ N : Nat, 8 * s = (N : Int) ∧ N ≤ 16 := ⟨(8 * s).toNat, by omega, by omega⟩
    go_enter Try.func30, Try.ntmps30
    go_wp2_with fail
    refine (l1Value _ _ _).mono ?_
    rintro e w' ⟨rfl, rfl⟩
    go_wp2_with fail
    go_loop [6, 7] (fun O J => ∃ m : Nat, m ≤ N ∧ O = .int .i64 (Pl.rv m v) ∧ J = .int .i64 m) (fun _ J => N - (intOf J).toNat)
    case atStart => exact ⟨0, Nat.zero_le _, rfl, rfl⟩
    case round =>
      obtain ⟨m, hm, rfl, rfl⟩ := hrel
      by_cases hlt : m < N
      · have hb := Pl.rv_bd m v
        have hp : (2 : Int) ^ m ≤ 32768 := by
          have : m = 0 ∨ m = 1 ∨ m = 2 ∨ m = 3 ∨ m = 4 ∨ m = 5 ∨ m = 6 ∨ m = 7 ∨ m = 8 ∨ m = 9 ∨ m = 10 ∨ m = 11 ∨ m = 12 ∨ m = 13 ∨ m = 14 ∨ m = 15 := by omega
          rcases this with rfl | rfl | rfl | rfl | rfl | rfl | rfl | rfl | rfl | rfl | rfl | rfl | rfl | rfl | rfl | rfl <;> decide
        obtain ⟨b0, b1⟩ := hb
        have b2 : Pl.rv m v < 32768 := by omega
        have hA := Pl.and1 (v / 2 ^ m)
        have hO := Pl.or_low (a := Pl.rv m v * 2) (q := v / 2 ^ m % 2) (by omega) (by omega) (by omega) (by omega) (by omega)
        clear b1
        go_wp2_with fail
        go_round
        case rel => exact ⟨m + 1, by omega, rfl, by go_num⟩
        case measure => simp [intOf]; omega
      · obtain rfl : m = N := by omega
        go_wp2_with fail
        go_ret2
        exact ⟨rIB (by rw [K.out, hN]; rfl) rfl, rfl⟩

end Go.Proofs.Ytnmddmmmgdfknaa

