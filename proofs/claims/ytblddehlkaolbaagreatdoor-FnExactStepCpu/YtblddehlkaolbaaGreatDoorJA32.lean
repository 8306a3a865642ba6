/- What the program's choice among the eight moves answers, for each kind, of whatever size: new blocks alone. How many bits are 1, and the bits the other way round: plain arithmetic; no Go text is spoken of here. What the program's functions of chapter 3 answer, for every argument: one contract a function; new blocks alone. What the program's conditions (chapter 8) answer: one contract a function. -/
import Derived.Test.YtblddehlkaolbaaGreatDoorJA30
import Derived.Test.YtblddehlkaolbaaGreatDoorJA31
import Derived.Test.YtblddehlkaolbaaGreatDoorJA2
import Derived.Test.YtblddehlkaolbaaGreatDoorJA25
import Derived.Test.YtblddehlkaolbaaGreatDoorJA8
import Derived.Test.YtblddehlkaolbaaGreatDoorJA1
import Derived.Test.YtblddehlkaolbaaGreatDoorJA16
namespace Go.Proofs.YtblddehlkaolbaaGreatDoor
open Go.RowKit
set_option linter.unusedVariables false
set_option linter.unusedSimpArgs false

theorem arithmeticUp (s v x f W : Int) (t : Bool) (w : World) (h : Pl.Fit s (v, x)) (hW : W = 8 * s) :
    Calls Tryz.prog 229 #[.agg #[.int .i64 v, .int .i64 W, .int .i64 x, .int .i64 f, .bool t]] w fun e w' => e = .returned (.agg #[.int .i64 (Pl.nv 0 s x v), .int .i64 W, .int .i64 (Pl.nx 0 s x v), .int .i64 (Pl.fell 0 s v), .bool (Pl.vfl 0 s x v)]) ∧ Below w.heap.size w w' := by
  obtain ⟨hs, v0, v1, x0, x1⟩ := h
  simp only at v0 v1 x0 x1
  subst hW
  rcases Pl.top12 hs with ⟨rfl, e⟩ | ⟨rfl, e⟩ <;> rw [e] at v1
  · exact arithmeticUp1 v x f t w v0 v1 x0 x1
  · exact arithmeticUp2 v x f t w v0 v1 x0 x1
theorem arithmeticDown (s v x f W : Int) (t : Bool) (w : World) (h : Pl.Fit s (v, x)) (hW : W = 8 * s) :
    Calls Tryz.prog 230 #[.agg #[.int .i64 v, .int .i64 W, .int .i64 x, .int .i64 f, .bool t]] w fun e w' => e = .returned (.agg #[.int .i64 (Pl.nv 1 s x v), .int .i64 W, .int .i64 (Pl.nx 1 s x v), .int .i64 (Pl.fell 1 s v), .bool t]) ∧ Below w.heap.size w w' := by
  obtain ⟨hs, v0, v1, x0, x1⟩ := h
  simp only at v0 v1 x0 x1
  subst hW
  rcases Pl.top12 hs with ⟨rfl, e⟩ | ⟨rfl, e⟩ <;> rw [e] at v1
  · exact arithmeticDown1 v x f t w v0 v1 x0 x1
  · exact arithmeticDown2 v x f t w v0 v1 x0 x1
theorem plainUp (s v x f W : Int) (t : Bool) (w : World) (h : Pl.Fit s (v, x)) (hW : W = 8 * s) :
    Calls Tryz.prog 231 #[.agg #[.int .i64 v, .int .i64 W, .int .i64 x, .int .i64 f, .bool t]] w fun e w' => e = .returned (.agg #[.int .i64 (Pl.nv 2 s x v), .int .i64 W, .int .i64 (Pl.nx 2 s x v), .int .i64 (Pl.fell 2 s v), .bool t]) ∧ Below w.heap.size w w' := by
  obtain ⟨hs, v0, v1, x0, x1⟩ := h
  simp only at v0 v1 x0 x1
  subst hW
  rcases Pl.top12 hs with ⟨rfl, e⟩ | ⟨rfl, e⟩ <;> rw [e] at v1
  · exact plainUp1 v x f t w v0 v1 x0 x1
  · exact plainUp2 v x f t w v0 v1 x0 x1
theorem plainDown (s v x f W : Int) (t : Bool) (w : World) (h : Pl.Fit s (v, x)) (hW : W = 8 * s) :
    Calls Tryz.prog 232 #[.agg #[.int .i64 v, .int .i64 W, .int .i64 x, .int .i64 f, .bool t]] w fun e w' => e = .returned (.agg #[.int .i64 (Pl.nv 3 s x v), .int .i64 W, .int .i64 (Pl.nx 3 s x v), .int .i64 (Pl.fell 3 s v), .bool t]) ∧ Below w.heap.size w w' := by
  obtain ⟨hs, v0, v1, x0, x1⟩ := h
  simp only at v0 v1 x0 x1
  subst hW
  rcases Pl.top12 hs with ⟨rfl, e⟩ | ⟨rfl, e⟩ <;> rw [e] at v1
  · exact plainDown1 v x f t w v0 v1 x0 x1
  · exact plainDown2 v x f t w v0 v1 x0 x1
theorem turnUp (s v x f W : Int) (t : Bool) (w : World) (h : Pl.Fit s (v, x)) (hW : W = 8 * s) :
    Calls Tryz.prog 233 #[.agg #[.int .i64 v, .int .i64 W, .int .i64 x, .int .i64 f, .bool t]] w fun e w' => e = .returned (.agg #[.int .i64 (Pl.nv 4 s x v), .int .i64 W, .int .i64 (Pl.nx 4 s x v), .int .i64 (Pl.fell 4 s v), .bool t]) ∧ Below w.heap.size w w' := by
  obtain ⟨hs, v0, v1, x0, x1⟩ := h
  simp only at v0 v1 x0 x1
  subst hW
  rcases Pl.top12 hs with ⟨rfl, e⟩ | ⟨rfl, e⟩ <;> rw [e] at v1
  · exact turnUp1 v x f t w v0 v1 x0 x1
  · exact turnUp2 v x f t w v0 v1 x0 x1
theorem turnDown (s v x f W : Int) (t : Bool) (w : World) (h : Pl.Fit s (v, x)) (hW : W = 8 * s) :
    Calls Tryz.prog 234 #[.agg #[.int .i64 v, .int .i64 W, .int .i64 x, .int .i64 f, .bool t]] w fun e w' => e = .returned (.agg #[.int .i64 (Pl.nv 5 s x v), .int .i64 W, .int .i64 (Pl.nx 5 s x v), .int .i64 (Pl.fell 5 s v), .bool t]) ∧ Below w.heap.size w w' := by
  obtain ⟨hs, v0, v1, x0, x1⟩ := h
  simp only at v0 v1 x0 x1
  subst hW
  rcases Pl.top12 hs with ⟨rfl, e⟩ | ⟨rfl, e⟩ <;> rw [e] at v1
  · exact turnDown1 v x f t w v0 v1 x0 x1
  · exact turnDown2 v x f t w v0 v1 x0 x1
theorem turnUpThroughExtend (s v x f W : Int) (t : Bool) (w : World) (h : Pl.Fit s (v, x)) (hW : W = 8 * s) :
    Calls Tryz.prog 235 #[.agg #[.int .i64 v, .int .i64 W, .int .i64 x, .int .i64 f, .bool t]] w fun e w' => e = .returned (.agg #[.int .i64 (Pl.nv 6 s x v), .int .i64 W, .int .i64 (Pl.nx 6 s x v), .int .i64 (Pl.fell 6 s v), .bool t]) ∧ Below w.heap.size w w' := by
  obtain ⟨hs, v0, v1, x0, x1⟩ := h
  simp only at v0 v1 x0 x1
  subst hW
  rcases Pl.top12 hs with ⟨rfl, e⟩ | ⟨rfl, e⟩ <;> rw [e] at v1
  · exact turnUpThroughExtend1 v x f t w v0 v1 x0 x1
  · exact turnUpThroughExtend2 v x f t w v0 v1 x0 x1
theorem turnDownThroughExtend (s v x f W : Int) (t : Bool) (w : World) (h : Pl.Fit s (v, x)) (hW : W = 8 * s) :
    Calls Tryz.prog 236 #[.agg #[.int .i64 v, .int .i64 W, .int .i64 x, .int .i64 f, .bool t]] w fun e w' => e = .returned (.agg #[.int .i64 (Pl.nv 7 s x v), .int .i64 W, .int .i64 (Pl.nx 7 s x v), .int .i64 (Pl.fell 7 s v), .bool t]) ∧ Below w.heap.size w w' := by
  obtain ⟨hs, v0, v1, x0, x1⟩ := h
  simp only at v0 v1 x0 x1
  subst hW
  rcases Pl.top12 hs with ⟨rfl, e⟩ | ⟨rfl, e⟩ <;> rw [e] at v1
  · exact turnDownThroughExtend1 v x f t w v0 v1 x0 x1
  · exact turnDownThroughExtend2 v x f t w v0 v1 x0 x1
set_option maxHeartbeats 4000000 in
theorem moved0 (s v x f W : Int) (t : Bool) (w : World) (h : Pl.Fit s (v, x)) (hW : W = 8 * s) :
    Calls Tryz.prog 211 #[.agg #[.int .i64 v, .int .i64 W, .int .i64 x, .int .i64 f, .bool t], .int .i64 0] w fun e w' => e = .returned (.agg #[.int .i64 (Pl.nv 0 s x v), .int .i64 W, .int .i64 (Pl.nx 0 s x v), .int .i64 (Pl.fell 0 s v), .bool (Pl.vfl 0 s x v)]) ∧ Below w.heap.size w w' := by
  have hst := store_func
  have E4 : Hid (Pl.vfl 0 s x v = Pl.vfl 0 s x v) := hide (by rfl)
  have HF := hide h
  have HWW := hide hW
  clear h hW
  go_enter Tryz.func211, Tryz.ntmps211
  go_wp2_with fail
  clear hst
  obtain ⟨X, hX⟩ : ∃ X : World, X = (((w.alloc (.cells #[.int .i64 v, .int .i64 W, .int .i64 x, .int .i64 f, .bool t] 207)).alloc (.cells #[.int .i64 0, .int .i64 0, .int .i64 0, .int .i64 0, .bool false] 207)).alloc (.cells #[.func (.func 229) #[] #[], .func (.func 230) #[] #[], .func (.func 231) #[] #[], .func (.func 232) #[] #[], .func (.func 233) #[] #[], .func (.func 234) #[] #[], .func (.func 235) #[] #[], .func (.func 236) #[] #[]] 226)) := ⟨_, rfl⟩
  rw [← hX]
  have B1 : Box X w.heap.size v W x f t := by rw [hX]; exact Box.new1 _ _ _ _ _ _ _ _
  have B2 : Box X (w.heap.size + 1) 0 0 0 0 false := by rw [hX]; exact Box.new2 _ _ _ _ _ _ _ _
  have hF : X.cell? ⟨w.heap.size + 1 + 1, 0, none⟩ = some (.func (.func 229) #[] #[]) := by rw [hX]; go_simp
  have HX : Hid (Below w.heap.size w X) := hide (by rw [hX]; exact (((Below.refl _ _).alloc (by simp) _).alloc (by simp) _).alloc (by simp <;> omega) _)
  clear hX
  obtain ⟨a0, a1, a2, a3, a4, _, _, _, _, _⟩ := B1.cells
  have HB2 := hide B2
  clear B1 B2
  go_region_with (go_at_call 229; refine (arithmeticUp s v x f W t _ HF.out HWW.out).mono ?_; rintro e wt ⟨rfl, hb0⟩; have hb := undrew hb0; clear hb0; have HBt := hide (HB2.out.later hb); obtain ⟨c0, c1, c2, c3, c4, g0, g1, g2, g3, g4⟩ := HBt.out.cells; have HB := hide hb; clear hb a0 a1 a2 a3 a4 hF)
  all_goals
    go_wp2_with fail
    refine bodyPost_ret (v := .agg #[.int .i64 (Pl.nv 0 s x v), .int .i64 W, .int .i64 (Pl.nx 0 s x v), .int .i64 (Pl.fell 0 s v), .bool (Pl.vfl 0 s x v)]) ?_ rfl ⟨?_, ?_⟩
    · exact results_box rfl _ rfl (HBt.out.set)
    · exact rA rfl rfl rfl rfl rfl
    · exact (((((HX.out.trans (HB.out.mono HX.out.size)).setCell (by simp) _).setCell (by simp) _).setCell (by simp) _).setCell (by simp) _).setCell (by simp) _
set_option maxHeartbeats 4000000 in
theorem moved1 (s v x f W : Int) (w : World) (h : Pl.Fit s (v, x)) (hW : W = 8 * s) :
    Calls Tryz.prog 211 #[.agg #[.int .i64 v, .int .i64 W, .int .i64 x, .int .i64 f, .bool false], .int .i64 1] w fun e w' => e = .returned (.agg #[.int .i64 (Pl.nv 1 s x v), .int .i64 W, .int .i64 (Pl.nx 1 s x v), .int .i64 (Pl.fell 1 s v), .bool (Pl.vfl 1 s x v)]) ∧ Below w.heap.size w w' := by
  have hst := store_func
  have E4 : Hid (false = Pl.vfl 1 s x v) := hide (by simp [Pl.vfl])
  have HF := hide h
  have HWW := hide hW
  clear h hW
  go_enter Tryz.func211, Tryz.ntmps211
  go_wp2_with fail
  clear hst
  obtain ⟨X, hX⟩ : ∃ X : World, X = (((w.alloc (.cells #[.int .i64 v, .int .i64 W, .int .i64 x, .int .i64 f, .bool false] 207)).alloc (.cells #[.int .i64 0, .int .i64 0, .int .i64 0, .int .i64 0, .bool false] 207)).alloc (.cells #[.func (.func 229) #[] #[], .func (.func 230) #[] #[], .func (.func 231) #[] #[], .func (.func 232) #[] #[], .func (.func 233) #[] #[], .func (.func 234) #[] #[], .func (.func 235) #[] #[], .func (.func 236) #[] #[]] 226)) := ⟨_, rfl⟩
  rw [← hX]
  have B1 : Box X w.heap.size v W x f false := by rw [hX]; exact Box.new1 _ _ _ _ _ _ _ _
  have B2 : Box X (w.heap.size + 1) 0 0 0 0 false := by rw [hX]; exact Box.new2 _ _ _ _ _ _ _ _
  have hF : X.cell? ⟨w.heap.size + 1 + 1, 1, none⟩ = some (.func (.func 230) #[] #[]) := by rw [hX]; go_simp
  have HX : Hid (Below w.heap.size w X) := hide (by rw [hX]; exact (((Below.refl _ _).alloc (by simp) _).alloc (by simp) _).alloc (by simp <;> omega) _)
  clear hX
  obtain ⟨a0, a1, a2, a3, a4, _, _, _, _, _⟩ := B1.cells
  have HB2 := hide B2
  clear B1 B2
  go_region_with (go_at_call 230; refine (arithmeticDown s v x f W false _ HF.out HWW.out).mono ?_; rintro e wt ⟨rfl, hb0⟩; have hb := undrew hb0; clear hb0; have HBt := hide (HB2.out.later hb); obtain ⟨c0, c1, c2, c3, c4, g0, g1, g2, g3, g4⟩ := HBt.out.cells; have HB := hide hb; clear hb a0 a1 a2 a3 a4 hF)
  all_goals
    go_wp2_with fail
    refine bodyPost_ret (v := .agg #[.int .i64 (Pl.nv 1 s x v), .int .i64 W, .int .i64 (Pl.nx 1 s x v), .int .i64 (Pl.fell 1 s v), .bool false]) ?_ rfl ⟨?_, ?_⟩
    · exact results_box rfl _ rfl (HBt.out.set)
    · exact rA rfl rfl rfl rfl E4.out
    · exact (((((HX.out.trans (HB.out.mono HX.out.size)).setCell (by simp) _).setCell (by simp) _).setCell (by simp) _).setCell (by simp) _).setCell (by simp) _
set_option maxHeartbeats 4000000 in
theorem moved2 (s v x f W : Int) (w : World) (h : Pl.Fit s (v, x)) (hW : W = 8 * s) :
    Calls Tryz.prog 211 #[.agg #[.int .i64 v, .int .i64 W, .int .i64 x, .int .i64 f, .bool false], .int .i64 2] w fun e w' => e = .returned (.agg #[.int .i64 (Pl.nv 2 s x v), .int .i64 W, .int .i64 (Pl.nx 2 s x v), .int .i64 (Pl.fell 2 s v), .bool (Pl.vfl 2 s x v)]) ∧ Below w.heap.size w w' := by
  have hst := store_func
  have E4 : Hid (false = Pl.vfl 2 s x v) := hide (by simp [Pl.vfl])
  have HF := hide h
  have HWW := hide hW
  clear h hW
  go_enter Tryz.func211, Tryz.ntmps211
  go_wp2_with fail
  clear hst
  obtain ⟨X, hX⟩ : ∃ X : World, X = (((w.alloc (.cells #[.int .i64 v, .int .i64 W, .int .i64 x, .int .i64 f, .bool false] 207)).alloc (.cells #[.int .i64 0, .int .i64 0, .int .i64 0, .int .i64 0, .bool false] 207)).alloc (.cells #[.func (.func 229) #[] #[], .func (.func 230) #[] #[], .func (.func 231) #[] #[], .func (.func 232) #[] #[], .func (.func 233) #[] #[], .func (.func 234) #[] #[], .func (.func 235) #[] #[], .func (.func 236) #[] #[]] 226)) := ⟨_, rfl⟩
  rw [← hX]
  have B1 : Box X w.heap.size v W x f false := by rw [hX]; exact Box.new1 _ _ _ _ _ _ _ _
  have B2 : Box X (w.heap.size + 1) 0 0 0 0 false := by rw [hX]; exact Box.new2 _ _ _ _ _ _ _ _
  have hF : X.cell? ⟨w.heap.size + 1 + 1, 2, none⟩ = some (.func (.func 231) #[] #[]) := by rw [hX]; go_simp
  have HX : Hid (Below w.heap.size w X) := hide (by rw [hX]; exact (((Below.refl _ _).alloc (by simp) _).alloc (by simp) _).alloc (by simp <;> omega) _)
  clear hX
  obtain ⟨a0, a1, a2, a3, a4, _, _, _, _, _⟩ := B1.cells
  have HB2 := hide B2
  clear B1 B2
  go_region_with (go_at_call 231; refine (plainUp s v x f W false _ HF.out HWW.out).mono ?_; rintro e wt ⟨rfl, hb0⟩; have hb := undrew hb0; clear hb0; have HBt := hide (HB2.out.later hb); obtain ⟨c0, c1, c2, c3, c4, g0, g1, g2, g3, g4⟩ := HBt.out.cells; have HB := hide hb; clear hb a0 a1 a2 a3 a4 hF)
  all_goals
    go_wp2_with fail
    refine bodyPost_ret (v := .agg #[.int .i64 (Pl.nv 2 s x v), .int .i64 W, .int .i64 (Pl.nx 2 s x v), .int .i64 (Pl.fell 2 s v), .bool false]) ?_ rfl ⟨?_, ?_⟩
    · exact results_box rfl _ rfl (HBt.out.set)
    · exact rA rfl rfl rfl rfl E4.out
    · exact (((((HX.out.trans (HB.out.mono HX.out.size)).setCell (by simp) _).setCell (by simp) _).setCell (by simp) _).setCell (by simp) _).setCell (by simp) _
set_option maxHeartbeats 4000000 in
theorem moved3 (s v x f W : Int) (w : World) (h : Pl.Fit s (v, x)) (hW : W = 8 * s) :
    Calls Tryz.prog 211 #[.agg #[.int .i64 v, .int .i64 W, .int .i64 x, .int .i64 f, .bool false], .int .i64 3] w fun e w' => e = .returned (.agg #[.int .i64 (Pl.nv 3 s x v), .int .i64 W, .int .i64 (Pl.nx 3 s x v), .int .i64 (Pl.fell 3 s v), .bool (Pl.vfl 3 s x v)]) ∧ Below w.heap.size w w' := by
  have hst := store_func
  have E4 : Hid (false = Pl.vfl 3 s x v) := hide (by simp [Pl.vfl])
  have HF := hide h
  have HWW := hide hW
  clear h hW
  go_enter Tryz.func211, Tryz.ntmps211
  go_wp2_with fail
  clear hst
  obtain ⟨X, hX⟩ : ∃ X : World, X = (((w.alloc (.cells #[.int .i64 v, .int .i64 W, .int .i64 x, .int .i64 f, .bool false] 207)).alloc (.cells #[.int .i64 0, .int .i64 0, .int .i64 0, .int .i64 0, .bool false] 207)).alloc (.cells #[.func (.func 229) #[] #[], .func (.func 230) #[] #[], .func (.func 231) #[] #[], .func (.func 232) #[] #[], .func (.func 233) #[] #[], .func (.func 234) #[] #[], .func (.func 235) #[] #[], .func (.func 236) #[] #[]] 226)) := ⟨_, rfl⟩
  rw [← hX]
  have B1 : Box X w.heap.size v W x f false := by rw [hX]; exact Box.new1 _ _ _ _ _ _ _ _
  have B2 : Box X (w.heap.size + 1) 0 0 0 0 false := by rw [hX]; exact Box.new2 _ _ _ _ _ _ _ _
  have hF : X.cell? ⟨w.heap.size + 1 + 1, 3, none⟩ = some (.func (.func 232) #[] #[]) := by rw [hX]; go_simp
  have HX : Hid (Below w.heap.size w X) := hide (by rw [hX]; exact (((Below.refl _ _).alloc (by simp) _).alloc (by simp) _).alloc (by simp <;> omega) _)
  clear hX
  obtain ⟨a0, a1, a2, a3, a4, _, _, _, _, _⟩ := B1.cells
  have HB2 := hide B2
  clear B1 B2
  go_region_with (go_at_call 232; refine (plainDown s v x f W false _ HF.out HWW.out).mono ?_; rintro e wt ⟨rfl, hb0⟩; have hb := undrew hb0; clear hb0; have HBt := hide (HB2.out.later hb); obtain ⟨c0, c1, c2, c3, c4, g0, g1, g2, g3, g4⟩ := HBt.out.cells; have HB := hide hb; clear hb a0 a1 a2 a3 a4 hF)
  all_goals
    go_wp2_with fail
    refine bodyPost_ret (v := .agg #[.int .i64 (Pl.nv 3 s x v), .int .i64 W, .int .i64 (Pl.nx 3 s x v), .int .i64 (Pl.fell 3 s v), .bool false]) ?_ rfl ⟨?_, ?_⟩
    · exact results_box rfl _ rfl (HBt.out.set)
    · exact rA rfl rfl rfl rfl E4.out
    · exact (((((HX.out.trans (HB.out.mono HX.out.size)).setCell (by simp) _).setCell (by simp) _).setCell (by simp) _).setCell (by simp) _).setCell (by simp) _
set_option maxHeartbeats 4000000 in
theorem moved4 (s v x f W : Int) (w : World) (h : Pl.Fit s (v, x)) (hW : W = 8 * s) :
    Calls Tryz.prog 211 #[.agg #[.int .i64 v, .int .i64 W, .int .i64 x, .int .i64 f, .bool false], .int .i64 4] w fun e w' => e = .returned (.agg #[.int .i64 (Pl.nv 4 s x v), .int .i64 W, .int .i64 (Pl.nx 4 s x v), .int .i64 (Pl.fell 4 s v), .bool (Pl.vfl 4 s x v)]) ∧ Below w.heap.size w w' := by
  have hst := store_func
  have E4 : Hid (false = Pl.vfl 4 s x v) := hide (by simp [Pl.vfl])
  have HF := hide h
  have HWW := hide hW
  clear h hW
  go_enter Tryz.func211, Tryz.ntmps211
  go_wp2_with fail
  clear hst
  obtain ⟨X, hX⟩ : ∃ X : World, X = (((w.alloc (.cells #[.int .i64 v, .int .i64 W, .int .i64 x, .int .i64 f, .bool false] 207)).alloc (.cells #[.int .i64 0, .int .i64 0, .int .i64 0, .int .i64 0, .bool false] 207)).alloc (.cells #[.func (.func 229) #[] #[], .func (.func 230) #[] #[], .func (.func 231) #[] #[], .func (.func 232) #[] #[], .func (.func 233) #[] #[], .func (.func 234) #[] #[], .func (.func 235) #[] #[], .func (.func 236) #[] #[]] 226)) := ⟨_, rfl⟩
  rw [← hX]
  have B1 : Box X w.heap.size v W x f false := by rw [hX]; exact Box.new1 _ _ _ _ _ _ _ _
  have B2 : Box X (w.heap.size + 1) 0 0 0 0 false := by rw [hX]; exact Box.new2 _ _ _ _ _ _ _ _
  have hF : X.cell? ⟨w.heap.size + 1 + 1, 4, none⟩ = some (.func (.func 233) #[] #[]) := by rw [hX]; go_simp
  have HX : Hid (Below w.heap.size w X) := hide (by rw [hX]; exact (((Below.refl _ _).alloc (by simp) _).alloc (by simp) _).alloc (by simp <;> omega) _)
  clear hX
  obtain ⟨a0, a1, a2, a3, a4, _, _, _, _, _⟩ := B1.cells
  have HB2 := hide B2
  clear B1 B2
  go_region_with (go_at_call 233; refine (turnUp s v x f W false _ HF.out HWW.out).mono ?_; rintro e wt ⟨rfl, hb0⟩; have hb := undrew hb0; clear hb0; have HBt := hide (HB2.out.later hb); obtain ⟨c0, c1, c2, c3, c4, g0, g1, g2, g3, g4⟩ := HBt.out.cells; have HB := hide hb; clear hb a0 a1 a2 a3 a4 hF)
  all_goals
    go_wp2_with fail
    refine bodyPost_ret (v := .agg #[.int .i64 (Pl.nv 4 s x v), .int .i64 W, .int .i64 (Pl.nx 4 s x v), .int .i64 (Pl.fell 4 s v), .bool false]) ?_ rfl ⟨?_, ?_⟩
    · exact results_box rfl _ rfl (HBt.out.set)
    · exact rA rfl rfl rfl rfl E4.out
    · exact (((((HX.out.trans (HB.out.mono HX.out.size)).setCell (by simp) _).setCell (by simp) _).setCell (by simp) _).setCell (by simp) _).setCell (by simp) _
set_option maxHeartbeats 4000000 in
theorem moved5 (s v x f W : Int) (w : World) (h : Pl.Fit s (v, x)) (hW : W = 8 * s) :
    Calls Tryz.prog 211 #[.agg #[.int .i64 v, .int .i64 W, .int .i64 x, .int .i64 f, .bool false], .int .i64 5] w fun e w' => e = .returned (.agg #[.int .i64 (Pl.nv 5 s x v), .int .i64 W, .int .i64 (Pl.nx 5 s x v), .int .i64 (Pl.fell 5 s v), .bool (Pl.vfl 5 s x v)]) ∧ Below w.heap.size w w' := by
  have hst := store_func
  have E4 : Hid (false = Pl.vfl 5 s x v) := hide (by simp [Pl.vfl])
  have HF := hide h
  have HWW := hide hW
  clear h hW
  go_enter Tryz.func211, Tryz.ntmps211
  go_wp2_with fail
  clear hst
  obtain ⟨X, hX⟩ : ∃ X : World, X = (((w.alloc (.cells #[.int .i64 v, .int .i64 W, .int .i64 x, .int .i64 f, .bool false] 207)).alloc (.cells #[.int .i64 0, .int .i64 0, .int .i64 0, .int .i64 0, .bool false] 207)).alloc (.cells #[.func (.func 229) #[] #[], .func (.func 230) #[] #[], .func (.func 231) #[] #[], .func (.func 232) #[] #[], .func (.func 233) #[] #[], .func (.func 234) #[] #[], .func (.func 235) #[] #[], .func (.func 236) #[] #[]] 226)) := ⟨_, rfl⟩
  rw [← hX]
  have B1 : Box X w.heap.size v W x f false := by rw [hX]; exact Box.new1 _ _ _ _ _ _ _ _
  have B2 : Box X (w.heap.size + 1) 0 0 0 0 false := by rw [hX]; exact Box.new2 _ _ _ _ _ _ _ _
  have hF : X.cell? ⟨w.heap.size + 1 + 1, 5, none⟩ = some (.func (.func 234) #[] #[]) := by rw [hX]; go_simp
  have HX : Hid (Below w.heap.size w X) := hide (by rw [hX]; exact (((Below.refl _ _).alloc (by simp) _).alloc (by simp) _).alloc (by simp <;> omega) _)
  clear hX
  obtain ⟨a0, a1, a2, a3, a4, _, _, _, _, _⟩ := B1.cells
  have HB2 := hide B2
  clear B1 B2
  go_region_with (go_at_call 234; refine (turnDown s v x f W false _ HF.out HWW.out).mono ?_; rintro e wt ⟨rfl, hb0⟩; have hb := undrew hb0; clear hb0; have HBt := hide (HB2.out.later hb); obtain ⟨c0, c1, c2, c3, c4, g0, g1, g2, g3, g4⟩ := HBt.out.cells; have HB := hide hb; clear hb a0 a1 a2 a3 a4 hF)
  all_goals
    go_wp2_with fail
    refine bodyPost_ret (v := .agg #[.int .i64 (Pl.nv 5 s x v), .int .i64 W, .int .i64 (Pl.nx 5 s x v), .int .i64 (Pl.fell 5 s v), .bool false]) ?_ rfl ⟨?_, ?_⟩
    · exact results_box rfl _ rfl (HBt.out.set)
    · exact rA rfl rfl rfl rfl E4.out
    · exact (((((HX.out.trans (HB.out.mono HX.out.size)).setCell (by simp) _).setCell (by simp) _).setCell (by simp) _).setCell (by simp) _).setCell (by simp) _
set_option maxHeartbeats 4000000 in
theorem moved6 (s v x f W : Int) (w : World) (h : Pl.Fit s (v, x)) (hW : W = 8 * s) :
    Calls Tryz.prog 211 #[.agg #[.int .i64 v, .int .i64 W, .int .i64 x, .int .i64 f, .bool false], .int .i64 6] w fun e w' => e = .returned (.agg #[.int .i64 (Pl.nv 6 s x v), .int .i64 W, .int .i64 (Pl.nx 6 s x v), .int .i64 (Pl.fell 6 s v), .bool (Pl.vfl 6 s x v)]) ∧ Below w.heap.size w w' := by
  have hst := store_func
  have E4 : Hid (false = Pl.vfl 6 s x v) := hide (by simp [Pl.vfl])
  have HF := hide h
  have HWW := hide hW
  clear h hW
  go_enter Tryz.func211, Tryz.ntmps211
  go_wp2_with fail
  clear hst
  obtain ⟨X, hX⟩ : ∃ X : World, X = (((w.alloc (.cells #[.int .i64 v, .int .i64 W, .int .i64 x, .int .i64 f, .bool false] 207)).alloc (.cells #[.int .i64 0, .int .i64 0, .int .i64 0, .int .i64 0, .bool false] 207)).alloc (.cells #[.func (.func 229) #[] #[], .func (.func 230) #[] #[], .func (.func 231) #[] #[], .func (.func 232) #[] #[], .func (.func 233) #[] #[], .func (.func 234) #[] #[], .func (.func 235) #[] #[], .func (.func 236) #[] #[]] 226)) := ⟨_, rfl⟩
  rw [← hX]
  have B1 : Box X w.heap.size v W x f false := by rw [hX]; exact Box.new1 _ _ _ _ _ _ _ _
  have B2 : Box X (w.heap.size + 1) 0 0 0 0 false := by rw [hX]; exact Box.new2 _ _ _ _ _ _ _ _
  have hF : X.cell? ⟨w.heap.size + 1 + 1, 6, none⟩ = some (.func (.func 235) #[] #[]) := by rw [hX]; go_simp
  have HX : Hid (Below w.heap.size w X) := hide (by rw [hX]; exact (((Below.refl _ _).alloc (by simp) _).alloc (by simp) _).alloc (by simp <;> omega) _)
  clear hX
  obtain ⟨a0, a1, a2, a3, a4, _, _, _, _, _⟩ := B1.cells
  have HB2 := hide B2
  clear B1 B2
  go_region_with (go_at_call 235; refine (turnUpThroughExtend s v x f W false _ HF.out HWW.out).mono ?_; rintro e wt ⟨rfl, hb0⟩; have hb := undrew hb0; clear hb0; have HBt := hide (HB2.out.later hb); obtain ⟨c0, c1, c2, c3, c4, g0, g1, g2, g3, g4⟩ := HBt.out.cells; have HB := hide hb; clear hb a0 a1 a2 a3 a4 hF)
  all_goals
    go_wp2_with fail
    refine bodyPost_ret (v := .agg #[.int .i64 (Pl.nv 6 s x v), .int .i64 W, .int .i64 (Pl.nx 6 s x v), .int .i64 (Pl.fell 6 s v), .bool false]) ?_ rfl ⟨?_, ?_⟩
    · exact results_box rfl _ rfl (HBt.out.set)
    · exact rA rfl rfl rfl rfl E4.out
    · exact (((((HX.out.trans (HB.out.mono HX.out.size)).setCell (by simp) _).setCell (by simp) _).setCell (by simp) _).setCell (by simp) _).setCell (by simp) _
set_option maxHeartbeats 4000000 in
theorem moved7 (s v x f W : Int) (w : World) (h : Pl.Fit s (v, x)) (hW : W = 8 * s) :
    Calls Tryz.prog 211 #[.agg #[.int .i64 v, .int .i64 W, .int .i64 x, .int .i64 f, .bool false], .int .i64 7] w fun e w' => e = .returned (.agg #[.int .i64 (Pl.nv 7 s x v), .int .i64 W, .int .i64 (Pl.nx 7 s x v), .int .i64 (Pl.fell 7 s v), .bool (Pl.vfl 7 s x v)]) ∧ Below w.heap.size w w' := by
  have hst := store_func
  have E4 : Hid (false = Pl.vfl 7 s x v) := hide (by simp [Pl.vfl])
  have HF := hide h
  have HWW := hide hW
  clear h hW
  go_enter Tryz.func211, Tryz.ntmps211
  go_wp2_with fail
  clear hst
  obtain ⟨X, hX⟩ : ∃ X : World, X = (((w.alloc (.cells #[.int .i64 v, .int .i64 W, .int .i64 x, .int .i64 f, .bool false] 207)).alloc (.cells #[.int .i64 0, .int .i64 0, .int .i64 0, .int .i64 0, .bool false] 207)).alloc (.cells #[.func (.func 229) #[] #[], .func (.func 230) #[] #[], .func (.func 231) #[] #[], .func (.func 232) #[] #[], .func (.func 233) #[] #[], .func (.func 234) #[] #[], .func (.func 235) #[] #[], .func (.func 236) #[] #[]] 226)) := ⟨_, rfl⟩
  rw [← hX]
  have B1 : Box X w.heap.size v W x f false := by rw [hX]; exact Box.new1 _ _ _ _ _ _ _ _
  have B2 : Box X (w.heap.size + 1) 0 0 0 0 false := by rw [hX]; exact Box.new2 _ _ _ _ _ _ _ _
  have hF : X.cell? ⟨w.heap.size + 1 + 1, 7, none⟩ = some (.func (.func 236) #[] #[]) := by rw [hX]; go_simp
  have HX : Hid (Below w.heap.size w X) := hide (by rw [hX]; exact (((Below.refl _ _).alloc (by simp) _).alloc (by simp) _).alloc (by simp <;> omega) _)
  clear hX
  obtain ⟨a0, a1, a2, a3, a4, _, _, _, _, _⟩ := B1.cells
  have HB2 := hide B2
  clear B1 B2
  go_region_with (go_at_call 236; refine (turnDownThroughExtend s v x f W false _ HF.out HWW.out).mono ?_; rintro e wt ⟨rfl, hb0⟩; have hb := undrew hb0; clear hb0; have HBt := hide (HB2.out.later hb); obtain ⟨c0, c1, c2, c3, c4, g0, g1, g2, g3, g4⟩ := HBt.out.cells; have HB := hide hb; clear hb a0 a1 a2 a3 a4 hF)
  all_goals
    go_wp2_with fail
    refine bodyPost_ret (v := .agg #[.int .i64 (Pl.nv 7 s x v), .int .i64 W, .int .i64 (Pl.nx 7 s x v), .int .i64 (Pl.fell 7 s v), .bool false]) ?_ rfl ⟨?_, ?_⟩
    · exact results_box rfl _ rfl (HBt.out.set)
    · exact rA rfl rfl rfl rfl E4.out
    · exact (((((HX.out.trans (HB.out.mono HX.out.size)).setCell (by simp) _).setCell (by simp) _).setCell (by simp) _).setCell (by simp) _).setCell (by simp) _

/-- one place, of whatever kind and size -/
theorem moved (k s v x f W : Int) (t : Bool) (w : World) (k0 : 0 ≤ k) (k1 : k ≤ 7) (h : Pl.Fit s (v, x)) (hW : W = 8 * s) (ht : k = 0 ∨ t = false) :
    Calls Tryz.prog 211 #[.agg #[.int .i64 v, .int .i64 W, .int .i64 x, .int .i64 f, .bool t], .int .i64 k] w fun e w' => e = .returned (.agg #[.int .i64 (Pl.nv k s x v), .int .i64 W, .int .i64 (Pl.nx k s x v), .int .i64 (Pl.fell k s v), .bool (Pl.vfl k s x v)]) ∧ Below w.heap.size w w' := by
  have hk : k = 0 ∨ k = 1 ∨ k = 2 ∨ k = 3 ∨ k = 4 ∨ k = 5 ∨ k = 6 ∨ k = 7 := by omega
  rcases hk with rfl | rfl | rfl | rfl | rfl | rfl | rfl | rfl
  · exact moved0 s v x f W t w h hW
  · obtain rfl : t = false := ht.resolve_left (by decide)
    exact moved1 s v x f W w h hW
  · obtain rfl : t = false := ht.resolve_left (by decide)
    exact moved2 s v x f W w h hW
  · obtain rfl : t = false := ht.resolve_left (by decide)
    exact moved3 s v x f W w h hW
  · obtain rfl : t = false := ht.resolve_left (by decide)
    exact moved4 s v x f W w h hW
  · obtain rfl : t = false := ht.resolve_left (by decide)
    exact moved5 s v x f W w h hW
  · obtain rfl : t = false := ht.resolve_left (by decide)
    exact moved6 s v x f W w h hW
  · obtain rfl : t = false := ht.resolve_left (by decide)
    exact moved7 s v x f W w h hW
end Go.Proofs.YtblddehlkaolbaaGreatDoor

namespace Go.Proofs.YtblddehlkaolbaaGreatDoor.Pl
set_option linter.unusedVariables false

def pop : Nat → Int → Int
  | 0, _ => 0
  | n + 1, v => v % 2 + pop n (v / 2)
/-! ### the other way round -/
/-! ### so many places at once -/
end Go.Proofs.YtblddehlkaolbaaGreatDoor.Pl

namespace Go.Proofs.YtblddehlkaolbaaGreatDoor
open Go.RowKit
set_option linter.unusedVariables false

/-- the bit that fell out last, ahead of the first place too; whether the last place told it -/
def Pl.falN (k s f v : Int) : Nat → Int
  | 0 => Pl.fal0 k f
  | m + 1 => Pl.fell k s (Pl.st k s (v, f / 16) m).1
def Pl.lastV (k s f v : Int) : Nat → Bool
  | 0 => false
  | m + 1 => Pl.vfl k s (Pl.st k s (v, f / 16) m).2 (Pl.st k s (v, f / 16) m).1
theorem Pl.lastV_not (k s f v : Int) (m : Nat) : k = 0 ∨ Pl.lastV k s f v m = false := by
  cases m with
  | zero => exact .inr rfl
  | succ m =>
    by_cases h : k = 0
    · exact .inl h
    · exact .inr (by simp [Pl.lastV, Pl.vfl, h])
theorem Pl.falN_bd {k s f v : Int} (h : Pl.Fit s (v, f / 16)) (m : Nat) : 0 ≤ Pl.falN k s f v m ∧ Pl.falN k s f v m ≤ 1 := by
  cases m with
  | zero =>
    obtain ⟨_, _, _, x0, x1⟩ := h
    simp only at x0 x1
    unfold Pl.falN Pl.fal0
    split <;> omega
  | succ m => exact Pl.fell_bd _ _ _
theorem Pl.byF_end {k s f v : Int} (h : Pl.Fit s (v, f / 16)) (m : Nat) : Pl.falN k s f v m + Pl.fl (Pl.ov k s (v, f / 16) m) 2 + Pl.zn s (Pl.st k s (v, f / 16) m).1 + 16 * (Pl.st k s (v, f / 16) m).2 = Pl.byF k s (v, f / 16) m := by
  cases m with
  | zero =>
    obtain ⟨_, _, _, x0, x1⟩ := h
    simp only at x0 x1
    have hx : f / 16 = 0 ∨ f / 16 = 1 := by omega
    unfold Pl.falN Pl.fal0 Pl.byF Pl.ov Pl.st
    simp only
    by_cases h6 : 6 ≤ k
    · rcases hx with hx | hx <;> simp [hx, h6, Pl.fl]
    · simp [h6, Pl.fl]
  | succ m => rfl
set_option maxHeartbeats 4000000 in
theorem shiftBy_good (k s f v n : Int) (w : World) (h : Pl.goodK k s f v = true) (n0 : 0 ≤ n) (n1 : n ≤ 63) :
    Calls Tryz.prog 180 #[.int .i64 k, .int .i64 s, .int .i64 f, .int .i64 v, .int .i64 n] w fun e w' => e = .returned (.tuple #[.int .i64 (Pl.st k s (v, f / 16) n.toNat).1, .int .i64 (Pl.byF k s (v, f / 16) n.toNat), .bool true]) ∧ Below w.heap.size w w' := by
  have HG := hide h
  obtain ⟨k0, k1, _, f0, f1, hf⟩ := Pl.goodK_ok h
  have HF := hide hf
  have d0 : decide (n < 0) = false := by simp; omega
  have d1 : decide (63 < n) = false := by simp; omega
  clear h hf
  go_enter Tryz.func180, Tryz.ntmps180
  go_wp2_with fail
  refine (rowOf k s f v _ HG.out).mono ?_
  rintro e w1 ⟨rfl, hb⟩
  have HB := hide hb
  clear hb
  go_wp2_with fail
  go_loopw [15, 35] (fun T I wr => ∃ m : Nat, (m : Int) ≤ n ∧ T = .bool (Pl.ov k s (v, f / 16) m) ∧ I = .int .i64 m ∧ Box wr w1.heap.size (Pl.st k s (v, f / 16) m).1 (8 * s) (Pl.st k s (v, f / 16) m).2 (Pl.falN k s f v m) (Pl.lastV k s f v m) ∧ Below w.heap.size w wr) (fun _ I _ => n.toNat - (intOf I).toNat)
  case atStart => exact ⟨0, n0, rfl, rfl, Box.new0 _ _ _ _ _ _, HB.out.alloc HB.out.size _⟩
  case round =>
    obtain ⟨m, hm, rfl, rfl, hB, hW⟩ := hrel
    have HBm := hide hB
    have HW := hide hW
    have hst := hide (Pl.st_fit (k := k) HF.out m)
    obtain ⟨c0, c1, c2, c3, c4, g0, g1, g2, g3, g4⟩ := hB.cells
    clear hB hW
    by_cases hlt : (m : Int) < n
    · clear g0 g1 g2 g3 g4
      cases ho : Pl.ov k s (v, f / 16) m
      all_goals
        go_wp2_with fail
        refine (moved k s _ _ _ _ _ _ k0 k1 hst.out rfl (Pl.lastV_not k s f v m)).mono ?_
        rintro e wt ⟨rfl, hb2⟩
        have Bt := hide (HBm.out.later hb2)
        have HX : Hid (Below w.heap.size w wt) := hide (HW.out.trans (hb2.mono HW.out.size))
        clear hb2 c0 c1 c2 c3 c4
        obtain ⟨c0, c1, c2, c3, c4, g0, g1, g2, g3, g4⟩ := Bt.out.cells
        go_wp2_with fail
        go_roundw
        case rel => exact ⟨m + 1, by omega, by simp [Pl.ov, ho], by go_num, Bt.out.set, Below.set5 HX.out HB.out.size _ _ _ _ _⟩
        case measure => simp [intOf]; omega
    · obtain rfl : n = (m : Int) := by omega
      have hfa := Pl.falN_bd (k := k) HF.out m
      have HE := hide (Pl.byF_end (k := k) HF.out m)
      have d2 : decide ((m : Int) < (m : Int)) = false := by simp
      go_wp2_with fail
      obtain ⟨X, hX⟩ : ∃ X : World, X = wr.setCell ⟨w1.heap.size, 4, none⟩ (.bool (Pl.ov k s (v, f / 16) m)) := ⟨_, rfl⟩
      rw [← hX]
      have B2 := hide (HBm.out.set4 (t' := Pl.ov k s (v, f / 16) m))
      rw [← hX] at B2
      have HY : Hid (Below w.heap.size w X) := hide (by rw [hX]; exact HW.out.setCell HB.out.size _)
      clear hX c0 c1 c2 c3 c4 g0 g1 g2 g3 g4
      obtain ⟨c0, c1, c2, c3, c4, _, _, _, _, _⟩ := B2.out.cells
      go_region_with (go_at_call 212; refine (flags5 s _ _ _ _ _ _ hst.out rfl hfa.1 hfa.2).mono ?_; rintro e wx ⟨rfl, o1, o2, rfl⟩; obtain ⟨z0, z1, z2, z3, z4, _, _, _, _, _⟩ := (B2.out.two o1 o2).cells)
      all_goals
        go_wp2_with fail
        go_ret3
        exact ⟨rIIB rfl HE.out rfl, ((HY.out.alloc HY.out.size _).alloc (by simpa using Nat.le_succ_of_le HY.out.size) _).drew⟩

theorem shiftBy (k s f v n : Int) (w : World) (hv : W64 v) :
    Calls Tryz.prog 180 #[.int .i64 k, .int .i64 s, .int .i64 f, .int .i64 v, .int .i64 n] w fun e w' => e = .returned (.tuple #[.int .i64 (Pl.byVal k s f v n), .int .i64 (Pl.byFl k s f v n), .bool (Pl.byOk k s f v n)]) ∧ Below w.heap.size w w' := by
  cases h : Pl.goodK k s f v
  · have K : Hid (Pl.byOk k s f v n = false ∧ Pl.byVal k s f v n = 0 ∧ Pl.byFl k s f v n = 0) := hide (by simp [Pl.byVal, Pl.byFl, Pl.byOk, h])
    go_enter Tryz.func180, Tryz.ntmps180
    go_wp2_with fail
    refine (rowOf_bad k s f v _ hv.1 hv.2 h).mono ?_
    rintro e w1 ⟨rfl, hb⟩
    go_wp2_with fail
    go_ret3
    exact ⟨rIIB K.out.2.1.symm K.out.2.2.symm K.out.1.symm, hb.alloc hb.size _⟩
  · by_cases hn : 0 ≤ n ∧ n ≤ 63
    · have hk : Pl.byOk k s f v n = true := Pl.byOk_mk h hn.1 hn.2
      refine (shiftBy_good k s f v n w h hn.1 hn.2).mono ?_
      rintro e w' ⟨rfl, hb⟩
      exact ⟨rIIB (by simp [Pl.byVal, hk]) (by simp [Pl.byFl, hk]) hk.symm, hb⟩
    · have K : Hid (Pl.byOk k s f v n = false ∧ Pl.byVal k s f v n = 0 ∧ Pl.byFl k s f v n = 0) := by
        have : Pl.cnt n = false := by simp [Pl.cnt]; omega
        exact hide (by simp [Pl.byVal, Pl.byFl, Pl.byOk, this])
      obtain d0 | ⟨d0, d1⟩ : decide (n < 0) = true ∨ (decide (n < 0) = false ∧ decide (63 < n) = true) := by simp; omega
      all_goals
        clear hn
        go_enter Tryz.func180, Tryz.ntmps180
        go_wp2_with fail
        refine (rowOf k s f v _ h).mono ?_
        rintro e w1 ⟨rfl, hb⟩
        go_wp2_with fail
        go_ret3
        exact ⟨rIIB K.out.2.1.symm K.out.2.2.symm K.out.1.symm, hb.alloc hb.size _⟩

end Go.Proofs.YtblddehlkaolbaaGreatDoor

namespace Go.Proofs.YtblddehlkaolbaaGreatDoor
open Go.RowKit
set_option linter.unusedVariables false
namespace Pl
/-- does its question ask for both or none? -/
def both (k : Int) : Bool := k - k % 2 == 12 || k - k % 2 == 14
def said (b : Bool) (s : Int) : Bool := s == 0 || (b && s == 10)
theorem said_tst : ∀ k : Nat, k < 16 → ∀ f : Nat, f < 32 → (said (both (k : Int)) (bits .and .i64 (f : Int) (need (k : Int))) == ((k : Int) == bits .andNot .i64 (k : Int) 1)) = tst k f := by decide +kernel
theorem even_of : ∀ k : Nat, k < 16 → (bits .andNot .i64 (k : Int) 1 = 0 ∧ need k = 0 ∧ both k = false) ∨ (bits .andNot .i64 (k : Int) 1 = 2 ∧ need k = 5 ∧ both k = false) ∨ (bits .andNot .i64 (k : Int) 1 = 4 ∧ need k = 1 ∧ both k = false) ∨ (bits .andNot .i64 (k : Int) 1 = 6 ∧ need k = 4 ∧ both k = false) ∨ (bits .andNot .i64 (k : Int) 1 = 8 ∧ need k = 2 ∧ both k = false) ∨ (bits .andNot .i64 (k : Int) 1 = 10 ∧ need k = 8 ∧ both k = false) ∨ (bits .andNot .i64 (k : Int) 1 = 12 ∧ need k = 10 ∧ both k = true) ∨ (bits .andNot .i64 (k : Int) 1 = 14 ∧ need k = 14 ∧ both k = true) := by decide +kernel
end Pl
theorem store_fn (a : Addr) (fn : Fn) (m : Mode) (w : World) : (store a (.func fn #[] #[]) m).run Tryz.prog w = stored Tryz.prog w a (.func fn #[] #[]) m := run_store Tryz.prog w a _ m rfl
theorem evenOf (c : Int) (w : World) : Calls Tryz.prog 214 #[.int .i64 c] w fun e w' => e = .returned (.int .i64 (bits .andNot .i64 c 1)) ∧ w' = w := by
  go_enter Tryz.func214, Tryz.ntmps214
  go_wp2
  go_ret
  exact ⟨rfl, rfl⟩
theorem isNone (s : Int) (w : World) : Calls Tryz.prog 238 #[.int .i64 s] w fun e w' => e = .returned (.bool (Pl.said false s)) ∧ w' = w := by
  go_enter Tryz.func238, Tryz.ntmps238
  go_wp2
  go_ret
  exact ⟨rB (by unfold Pl.said; simp), rfl⟩
theorem areBoth (s : Int) (w : World) : Calls Tryz.prog 239 #[.int .i64 s] w fun e w' => e = .returned (.bool (Pl.said true s)) ∧ w' = w := by
  by_cases h : s = 0
  · go_enter Tryz.func239, Tryz.ntmps239
    go_wp2
    go_ret
    exact ⟨rB (by unfold Pl.said; simp [h]), rfl⟩
  · go_enter Tryz.func239, Tryz.ntmps239
    go_wp2
    go_ret
    exact ⟨rB (by unfold Pl.said; simp), rfl⟩
def qV (k : Int) : Value := .agg #[.int .i64 (Pl.need k), .func (.func (bif Pl.both k then 239 else 238)) #[] #[]]
theorem questionOf (k : Nat) (hk : k < 16) (w : World) : Calls Tryz.prog 213 #[.int .i64 (k : Int)] w fun e w' => e = .returned (qV k) ∧ Kept 0 0 w w' := by
  have hst := store_fn
  rcases Pl.even_of k hk with ⟨hE, hn, hb⟩ | ⟨hE, hn, hb⟩ | ⟨hE, hn, hb⟩ | ⟨hE, hn, hb⟩ | ⟨hE, hn, hb⟩ | ⟨hE, hn, hb⟩ | ⟨hE, hn, hb⟩ | ⟨hE, hn, hb⟩
  all_goals
    unfold qV
    rw [hn, hb]
    clear hn hb
    simp only [cond_true, cond_false]
    go_enter Tryz.func213, Tryz.ntmps213
    go_wp2_with (go_at_call 214; refine (evenOf _ _).mono ?_; rintro e9 w9 ⟨rfl, hw⟩; have hw2 := hw.symm; clear hw; subst hw2; rw [hE])
    refine bodyPost_ret (v := _) ?_ rfl ⟨rfl, ?_⟩
    · rw [results_one rfl]; go_simp
    · exact kept_alloc _ _
theorem condHolds (k j : Nat) (hk : k < 16) (hj : j < 32) (w : World) : Calls Tryz.prog 181 #[.int .i64 (k : Int), .int .i64 (j : Int)] w fun e w' => e = .returned (.bool (Pl.tst k j)) ∧ Kept 0 0 w w' := by
  have hst := store_fn
  rw [← Pl.said_tst k hk j hj]
  cases hb : Pl.both (k : Int)
  · have hQ : qV k = .agg #[.int .i64 (Pl.need k), .func (.func 238) #[] #[]] := by unfold qV; rw [hb]; rfl
    go_enter Tryz.func181, Tryz.ntmps181
    go_wp2_with fail
    refine (questionOf k hk _).mono ?_
    rintro e9 W ⟨rfl, hk9⟩
    rw [hQ]
    have HK := hide hk9
    clear hk9
    go_wp2_with (first | (go_at_call 238; refine (isNone _ _).mono ?_; rintro e9 w9 ⟨rfl, hw⟩; have hw2 := hw.symm; clear hw; subst hw2) | (go_at_call 214; refine (evenOf _ _).mono ?_; rintro e9 w9 ⟨rfl, hw⟩; have hw2 := hw.symm; clear hw; subst hw2))
    go_ret
    exact ⟨rfl, kept_new HK.out _⟩
  · have hQ : qV k = .agg #[.int .i64 (Pl.need k), .func (.func 239) #[] #[]] := by unfold qV; rw [hb]; rfl
    go_enter Tryz.func181, Tryz.ntmps181
    go_wp2_with fail
    refine (questionOf k hk _).mono ?_
    rintro e9 W ⟨rfl, hk9⟩
    rw [hQ]
    have HK := hide hk9
    clear hk9
    go_wp2_with (first | (go_at_call 239; refine (areBoth _ _).mono ?_; rintro e9 w9 ⟨rfl, hw⟩; have hw2 := hw.symm; clear hw; subst hw2) | (go_at_call 214; refine (evenOf _ _).mono ?_; rintro e9 w9 ⟨rfl, hw⟩; have hw2 := hw.symm; clear hw; subst hw2))
    go_ret
    exact ⟨rfl, kept_new HK.out _⟩
end Go.Proofs.YtblddehlkaolbaaGreatDoor

