/- What the program's choice among the eight moves answers, for each kind, of whatever size: new blocks alone. -/
import Derived.Test.YtlagdbajdehanaaTurns1
import Derived.Test.YtlagdbajdehanaaTurns2
namespace Go.Proofs.Ytlagdbajdehanaa
open Go.RowKit
set_option linter.unusedVariables false
set_option linter.unusedSimpArgs false

theorem arithmeticUp (s v x f W : Int) (t : Bool) (w : World) (h : Pl.Fit s (v, x)) (hW : W = 8 * s) :
    Calls Try.prog 56 #[.agg #[.int .i64 v, .int .i64 W, .int .i64 x, .int .i64 f, .bool t]] w fun e w' => e = .returned (.agg #[.int .i64 (Pl.nv 0 s x v), .int .i64 W, .int .i64 (Pl.nx 0 s x v), .int .i64 (Pl.fell 0 s v), .bool (Pl.vfl 0 s x v)]) ∧ Below w.heap.size w w' := by
  obtain ⟨hs, v0, v1, x0, x1⟩ := h
  simp only at v0 v1 x0 x1
  subst hW
  rcases Pl.top12 hs with ⟨rfl, e⟩ | ⟨rfl, e⟩ <;> rw [e] at v1
  · exact arithmeticUp1 v x f t w v0 v1 x0 x1
  · exact arithmeticUp2 v x f t w v0 v1 x0 x1
theorem arithmeticDown (s v x f W : Int) (t : Bool) (w : World) (h : Pl.Fit s (v, x)) (hW : W = 8 * s) :
    Calls Try.prog 57 #[.agg #[.int .i64 v, .int .i64 W, .int .i64 x, .int .i64 f, .bool t]] w fun e w' => e = .returned (.agg #[.int .i64 (Pl.nv 1 s x v), .int .i64 W, .int .i64 (Pl.nx 1 s x v), .int .i64 (Pl.fell 1 s v), .bool t]) ∧ Below w.heap.size w w' := by
  obtain ⟨hs, v0, v1, x0, x1⟩ := h
  simp only at v0 v1 x0 x1
  subst hW
  rcases Pl.top12 hs with ⟨rfl, e⟩ | ⟨rfl, e⟩ <;> rw [e] at v1
  · exact arithmeticDown1 v x f t w v0 v1 x0 x1
  · exact arithmeticDown2 v x f t w v0 v1 x0 x1
theorem plainUp (s v x f W : Int) (t : Bool) (w : World) (h : Pl.Fit s (v, x)) (hW : W = 8 * s) :
    Calls Try.prog 58 #[.agg #[.int .i64 v, .int .i64 W, .int .i64 x, .int .i64 f, .bool t]] w fun e w' => e = .returned (.agg #[.int .i64 (Pl.nv 2 s x v), .int .i64 W, .int .i64 (Pl.nx 2 s x v), .int .i64 (Pl.fell 2 s v), .bool t]) ∧ Below w.heap.size w w' := by
  obtain ⟨hs, v0, v1, x0, x1⟩ := h
  simp only at v0 v1 x0 x1
  subst hW
  rcases Pl.top12 hs with ⟨rfl, e⟩ | ⟨rfl, e⟩ <;> rw [e] at v1
  · exact plainUp1 v x f t w v0 v1 x0 x1
  · exact plainUp2 v x f t w v0 v1 x0 x1
theorem plainDown (s v x f W : Int) (t : Bool) (w : World) (h : Pl.Fit s (v, x)) (hW : W = 8 * s) :
    Calls Try.prog 59 #[.agg #[.int .i64 v, .int .i64 W, .int .i64 x, .int .i64 f, .bool t]] w fun e w' => e = .returned (.agg #[.int .i64 (Pl.nv 3 s x v), .int .i64 W, .int .i64 (Pl.nx 3 s x v), .int .i64 (Pl.fell 3 s v), .bool t]) ∧ Below w.heap.size w w' := by
  obtain ⟨hs, v0, v1, x0, x1⟩ := h
  simp only at v0 v1 x0 x1
  subst hW
  rcases Pl.top12 hs with ⟨rfl, e⟩ | ⟨rfl, e⟩ <;> rw [e] at v1
  · exact plainDown1 v x f t w v0 v1 x0 x1
  · exact plainDown2 v x f t w v0 v1 x0 x1
theorem turnUp (s v x f W : Int) (t : Bool) (w : World) (h : Pl.Fit s (v, x)) (hW : W = 8 * s) :
    Calls Try.prog 60 #[.agg #[.int .i64 v, .int .i64 W, .int .i64 x, .int .i64 f, .bool t]] w fun e w' => e = .returned (.agg #[.int .i64 (Pl.nv 4 s x v), .int .i64 W, .int .i64 (Pl.nx 4 s x v), .int .i64 (Pl.fell 4 s v), .bool t]) ∧ Below w.heap.size w w' := by
  obtain ⟨hs, v0, v1, x0, x1⟩ := h
  simp only at v0 v1 x0 x1
  subst hW
  rcases Pl.top12 hs with ⟨rfl, e⟩ | ⟨rfl, e⟩ <;> rw [e] at v1
  · exact turnUp1 v x f t w v0 v1 x0 x1
  · exact turnUp2 v x f t w v0 v1 x0 x1
theorem turnDown (s v x f W : Int) (t : Bool) (w : World) (h : Pl.Fit s (v, x)) (hW : W = 8 * s) :
    Calls Try.prog 61 #[.agg #[.int .i64 v, .int .i64 W, .int .i64 x, .int .i64 f, .bool t]] w fun e w' => e = .returned (.agg #[.int .i64 (Pl.nv 5 s x v), .int .i64 W, .int .i64 (Pl.nx 5 s x v), .int .i64 (Pl.fell 5 s v), .bool t]) ∧ Below w.heap.size w w' := by
  obtain ⟨hs, v0, v1, x0, x1⟩ := h
  simp only at v0 v1 x0 x1
  subst hW
  rcases Pl.top12 hs with ⟨rfl, e⟩ | ⟨rfl, e⟩ <;> rw [e] at v1
  · exact turnDown1 v x f t w v0 v1 x0 x1
  · exact turnDown2 v x f t w v0 v1 x0 x1
theorem turnUpThroughExtend (s v x f W : Int) (t : Bool) (w : World) (h : Pl.Fit s (v, x)) (hW : W = 8 * s) :
    Calls Try.prog 62 #[.agg #[.int .i64 v, .int .i64 W, .int .i64 x, .int .i64 f, .bool t]] w fun e w' => e = .returned (.agg #[.int .i64 (Pl.nv 6 s x v), .int .i64 W, .int .i64 (Pl.nx 6 s x v), .int .i64 (Pl.fell 6 s v), .bool t]) ∧ Below w.heap.size w w' := by
  obtain ⟨hs, v0, v1, x0, x1⟩ := h
  simp only at v0 v1 x0 x1
  subst hW
  rcases Pl.top12 hs with ⟨rfl, e⟩ | ⟨rfl, e⟩ <;> rw [e] at v1
  · exact turnUpThroughExtend1 v x f t w v0 v1 x0 x1
  · exact turnUpThroughExtend2 v x f t w v0 v1 x0 x1
theorem turnDownThroughExtend (s v x f W : Int) (t : Bool) (w : World) (h : Pl.Fit s (v, x)) (hW : W = 8 * s) :
    Calls Try.prog 63 #[.agg #[.int .i64 v, .int .i64 W, .int .i64 x, .int .i64 f, .bool t]] w fun e w' => e = .returned (.agg #[.int .i64 (Pl.nv 7 s x v), .int .i64 W, .int .i64 (Pl.nx 7 s x v), .int .i64 (Pl.fell 7 s v), .bool t]) ∧ Below w.heap.size w w' := by
  obtain ⟨hs, v0, v1, x0, x1⟩ := h
  simp only at v0 v1 x0 x1
  subst hW
  rcases Pl.top12 hs with ⟨rfl, e⟩ | ⟨rfl, e⟩ <;> rw [e] at v1
  · exact turnDownThroughExtend1 v x f t w v0 v1 x0 x1
  · exact turnDownThroughExtend2 v x f t w v0 v1 x0 x1
set_option maxHeartbeats 4000000 in
theorem moved0 (s v x f W : Int) (t : Bool) (w : World) (h : Pl.Fit s (v, x)) (hW : W = 8 * s) :
    Calls Try.prog 35 #[.agg #[.int .i64 v, .int .i64 W, .int .i64 x, .int .i64 f, .bool t], .int .i64 0] w fun e w' => e = .returned (.agg #[.int .i64 (Pl.nv 0 s x v), .int .i64 W, .int .i64 (Pl.nx 0 s x v), .int .i64 (Pl.fell 0 s v), .bool (Pl.vfl 0 s x v)]) ∧ Below w.heap.size w w' := by
  have hst := store_func
  have E4 : Hid (Pl.vfl 0 s x v = Pl.vfl 0 s x v) := hide (by rfl)
  have HF := hide h
  have HWW := hide hW
  clear h hW
  go_enter Try.func35, Try.ntmps35
  go_wp2_with fail
  clear hst
  obtain ⟨X, hX⟩ : ∃ X : World, X = (((w.alloc (.cells #[.int .i64 v, .int .i64 W, .int .i64 x, .int .i64 f, .bool t] 53)).alloc (.cells #[.int .i64 0, .int .i64 0, .int .i64 0, .int .i64 0, .bool false] 53)).alloc (.cells #[.func (.func 56) #[] #[], .func (.func 57) #[] #[], .func (.func 58) #[] #[], .func (.func 59) #[] #[], .func (.func 60) #[] #[], .func (.func 61) #[] #[], .func (.func 62) #[] #[], .func (.func 63) #[] #[]] 66)) := ⟨_, rfl⟩
  rw [← hX]
  have B1 : Box X w.heap.size v W x f t := by rw [hX]; exact Box.new1 _ _ _ _ _ _ _ _
  have B2 : Box X (w.heap.size + 1) 0 0 0 0 false := by rw [hX]; exact Box.new2 _ _ _ _ _ _ _ _
  have hF : X.cell? ⟨w.heap.size + 1 + 1, 0, none⟩ = some (.func (.func 56) #[] #[]) := by rw [hX]; go_simp
  have HX : Hid (Below w.heap.size w X) := hide (by rw [hX]; exact (((Below.refl _ _).alloc (by simp) _).alloc (by simp) _).alloc (by simp <;> omega) _)
  clear hX
  obtain ⟨a0, a1, a2, a3, a4, _, _, _, _, _⟩ := B1.cells
  have HB2 := hide B2
  clear B1 B2
  go_region_with (go_at_call 56; refine (arithmeticUp s v x f W t _ HF.out HWW.out).mono ?_; rintro e wt ⟨rfl, hb0⟩; have hb := undrew hb0; clear hb0; have HBt := hide (HB2.out.later hb); obtain ⟨c0, c1, c2, c3, c4, g0, g1, g2, g3, g4⟩ := HBt.out.cells; have HB := hide hb; clear hb a0 a1 a2 a3 a4 hF)
  all_goals
    go_wp2_with fail
    refine bodyPost_ret (v := .agg #[.int .i64 (Pl.nv 0 s x v), .int .i64 W, .int .i64 (Pl.nx 0 s x v), .int .i64 (Pl.fell 0 s v), .bool (Pl.vfl 0 s x v)]) ?_ rfl ⟨?_, ?_⟩
    · exact results_box rfl _ rfl (HBt.out.set)
    · exact rA rfl rfl rfl rfl rfl
    · exact (((((HX.out.trans (HB.out.mono HX.out.size)).setCell (by simp) _).setCell (by simp) _).setCell (by simp) _).setCell (by simp) _).setCell (by simp) _
set_option maxHeartbeats 4000000 in
theorem moved1 (s v x f W : Int) (w : World) (h : Pl.Fit s (v, x)) (hW : W = 8 * s) :
    Calls Try.prog 35 #[.agg #[.int .i64 v, .int .i64 W, .int .i64 x, .int .i64 f, .bool false], .int .i64 1] w fun e w' => e = .returned (.agg #[.int .i64 (Pl.nv 1 s x v), .int .i64 W, .int .i64 (Pl.nx 1 s x v), .int .i64 (Pl.fell 1 s v), .bool (Pl.vfl 1 s x v)]) ∧ Below w.heap.size w w' := by
  have hst := store_func
  have E4 : Hid (false = Pl.vfl 1 s x v) := hide (by simp [Pl.vfl])
  have HF := hide h
  have HWW := hide hW
  clear h hW
  go_enter Try.func35, Try.ntmps35
  go_wp2_with fail
  clear hst
  obtain ⟨X, hX⟩ : ∃ X : World, X = (((w.alloc (.cells #[.int .i64 v, .int .i64 W, .int .i64 x, .int .i64 f, .bool false] 53)).alloc (.cells #[.int .i64 0, .int .i64 0, .int .i64 0, .int .i64 0, .bool false] 53)).alloc (.cells #[.func (.func 56) #[] #[], .func (.func 57) #[] #[], .func (.func 58) #[] #[], .func (.func 59) #[] #[], .func (.func 60) #[] #[], .func (.func 61) #[] #[], .func (.func 62) #[] #[], .func (.func 63) #[] #[]] 66)) := ⟨_, rfl⟩
  rw [← hX]
  have B1 : Box X w.heap.size v W x f false := by rw [hX]; exact Box.new1 _ _ _ _ _ _ _ _
  have B2 : Box X (w.heap.size + 1) 0 0 0 0 false := by rw [hX]; exact Box.new2 _ _ _ _ _ _ _ _
  have hF : X.cell? ⟨w.heap.size + 1 + 1, 1, none⟩ = some (.func (.func 57) #[] #[]) := by rw [hX]; go_simp
  have HX : Hid (Below w.heap.size w X) := hide (by rw [hX]; exact (((Below.refl _ _).alloc (by simp) _).alloc (by simp) _).alloc (by simp <;> omega) _)
  clear hX
  obtain ⟨a0, a1, a2, a3, a4, _, _, _, _, _⟩ := B1.cells
  have HB2 := hide B2
  clear B1 B2
  go_region_with (go_at_call 57; refine (arithmeticDown s v x f W false _ HF.out HWW.out).mono ?_; rintro e wt ⟨rfl, hb0⟩; have hb := undrew hb0; clear hb0; have HBt := hide (HB2.out.later hb); obtain ⟨c0, c1, c2, c3, c4, g0, g1, g2, g3, g4⟩ := HBt.out.cells; have HB := hide hb; clear hb a0 a1 a2 a3 a4 hF)
  all_goals
    go_wp2_with fail
    refine bodyPost_ret (v := .agg #[.int .i64 (Pl.nv 1 s x v), .int .i64 W, .int .i64 (Pl.nx 1 s x v), .int .i64 (Pl.fell 1 s v), .bool false]) ?_ rfl ⟨?_, ?_⟩
    · exact results_box rfl _ rfl (HBt.out.set)
    · exact rA rfl rfl rfl rfl E4.out
    · exact (((((HX.out.trans (HB.out.mono HX.out.size)).setCell (by simp) _).setCell (by simp) _).setCell (by simp) _).setCell (by simp) _).setCell (by simp) _
set_option maxHeartbeats 4000000 in
theorem moved2 (s v x f W : Int) (w : World) (h : Pl.Fit s (v, x)) (hW : W = 8 * s) :
    Calls Try.prog 35 #[.agg #[.int .i64 v, .int .i64 W, .int .i64 x, .int .i64 f, .bool false], .int .i64 2] w fun e w' => e = .returned (.agg #[.int .i64 (Pl.nv 2 s x v), .int .i64 W, .int .i64 (Pl.nx 2 s x v), .int .i64 (Pl.fell 2 s v), .bool (Pl.vfl 2 s x v)]) ∧ Below w.heap.size w w' := by
  have hst := store_func
  have E4 : Hid (false = Pl.vfl 2 s x v) := hide (by simp [Pl.vfl])
  have HF := hide h
  have HWW := hide hW
  clear h hW
  go_enter Try.func35, Try.ntmps35
  go_wp2_with fail
  clear hst
  obtain ⟨X, hX⟩ : ∃ X : World, X = (((w.alloc (.cells #[.int .i64 v, .int .i64 W, .int .i64 x, .int .i64 f, .bool false] 53)).alloc (.cells #[.int .i64 0, .int .i64 0, .int .i64 0, .int .i64 0, .bool false] 53)).alloc (.cells #[.func (.func 56) #[] #[], .func (.func 57) #[] #[], .func (.func 58) #[] #[], .func (.func 59) #[] #[], .func (.func 60) #[] #[], .func (.func 61) #[] #[], .func (.func 62) #[] #[], .func (.func 63) #[] #[]] 66)) := ⟨_, rfl⟩
  rw [← hX]
  have B1 : Box X w.heap.size v W x f false := by rw [hX]; exact Box.new1 _ _ _ _ _ _ _ _
  have B2 : Box X (w.heap.size + 1) 0 0 0 0 false := by rw [hX]; exact Box.new2 _ _ _ _ _ _ _ _
  have hF : X.cell? ⟨w.heap.size + 1 + 1, 2, none⟩ = some (.func (.func 58) #[] #[]) := by rw [hX]; go_simp
  have HX : Hid (Below w.heap.size w X) := hide (by rw [hX]; exact (((Below.refl _ _).alloc (by simp) _).alloc (by simp) _).alloc (by simp <;> omega) _)
  clear hX
  obtain ⟨a0, a1, a2, a3, a4, _, _, _, _, _⟩ := B1.cells
  have HB2 := hide B2
  clear B1 B2
  go_region_with (go_at_call 58; refine (plainUp s v x f W false _ HF.out HWW.out).mono ?_; rintro e wt ⟨rfl, hb0⟩; have hb := undrew hb0; clear hb0; have HBt := hide (HB2.out.later hb); obtain ⟨c0, c1, c2, c3, c4, g0, g1, g2, g3, g4⟩ := HBt.out.cells; have HB := hide hb; clear hb a0 a1 a2 a3 a4 hF)
  all_goals
    go_wp2_with fail
    refine bodyPost_ret (v := .agg #[.int .i64 (Pl.nv 2 s x v), .int .i64 W, .int .i64 (Pl.nx 2 s x v), .int .i64 (Pl.fell 2 s v), .bool false]) ?_ rfl ⟨?_, ?_⟩
    · exact results_box rfl _ rfl (HBt.out.set)
    · exact rA rfl rfl rfl rfl E4.out
    · exact (((((HX.out.trans (HB.out.mono HX.out.size)).setCell (by simp) _).setCell (by simp) _).setCell (by simp) _).setCell (by simp) _).setCell (by simp) _
set_option maxHeartbeats 4000000 in
theorem moved3 (s v x f W : Int) (w : World) (h : Pl.Fit s (v, x)) (hW : W = 8 * s) :
    Calls Try.prog 35 #[.agg #[.int .i64 v, .int .i64 W, .int .i64 x, .int .i64 f, .bool false], .int .i64 3] w fun e w' => e = .returned (.agg #[.int .i64 (Pl.nv 3 s x v), .int .i64 W, .int .i64 (Pl.nx 3 s x v), .int .i64 (Pl.fell 3 s v), .bool (Pl.vfl 3 s x v)]) ∧ Below w.heap.size w w' := by
  have hst := store_func
  have E4 : Hid (false = Pl.vfl 3 s x v) := hide (by simp [Pl.vfl])
  have HF := hide h
  have HWW := hide hW
  clear h hW
  go_enter Try.func35, Try.ntmps35
  go_wp2_with fail
  clear hst
  obtain ⟨X, hX⟩ : ∃ X : World, X = (((w.alloc (.cells #[.int .i64 v, .int .i64 W, .int .i64 x, .int .i64 f, .bool false] 53)).alloc (.cells #[.int .i64 0, .int .i64 0, .int .i64 0, .int .i64 0, .bool false] 53)).alloc (.cells #[.func (.func 56) #[] #[], .func (.func 57) #[] #[], .func (.func 58) #[] #[], .func (.func 59) #[] #[], .func (.func 60) #[] #[], .func (.func 61) #[] #[], .func (.func 62) #[] #[], .func (.func 63) #[] #[]] 66)) := ⟨_, rfl⟩
  rw [← hX]
  have B1 : Box X w.heap.size v W x f false := by rw [hX]; exact Box.new1 _ _ _ _ _ _ _ _
  have B2 : Box X (w.heap.size + 1) 0 0 0 0 false := by rw [hX]; exact Box.new2 _ _ _ _ _ _ _ _
  have hF : X.cell? ⟨w.heap.size + 1 + 1, 3, none⟩ = some (.func (.func 59) #[] #[]) := by rw [hX]; go_simp
  have HX : Hid (Below w.heap.size w X) := hide (by rw [hX]; exact (((Below.refl _ _).alloc (by simp) _).alloc (by simp) _).alloc (by simp <;> omega) _)
  clear hX
  obtain ⟨a0, a1, a2, a3, a4, _, _, _, _, _⟩ := B1.cells
  have HB2 := hide B2
  clear B1 B2
  go_region_with (go_at_call 59; refine (plainDown s v x f W false _ HF.out HWW.out).mono ?_; rintro e wt ⟨rfl, hb0⟩; have hb := undrew hb0; clear hb0; have HBt := hide (HB2.out.later hb); obtain ⟨c0, c1, c2, c3, c4, g0, g1, g2, g3, g4⟩ := HBt.out.cells; have HB := hide hb; clear hb a0 a1 a2 a3 a4 hF)
  all_goals
    go_wp2_with fail
    refine bodyPost_ret (v := .agg #[.int .i64 (Pl.nv 3 s x v), .int .i64 W, .int .i64 (Pl.nx 3 s x v), .int .i64 (Pl.fell 3 s v), .bool false]) ?_ rfl ⟨?_, ?_⟩
    · exact results_box rfl _ rfl (HBt.out.set)
    · exact rA rfl rfl rfl rfl E4.out
    · exact (((((HX.out.trans (HB.out.mono HX.out.size)).setCell (by simp) _).setCell (by simp) _).setCell (by simp) _).setCell (by simp) _).setCell (by simp) _
set_option maxHeartbeats 4000000 in
theorem moved4 (s v x f W : Int) (w : World) (h : Pl.Fit s (v, x)) (hW : W = 8 * s) :
    Calls Try.prog 35 #[.agg #[.int .i64 v, .int .i64 W, .int .i64 x, .int .i64 f, .bool false], .int .i64 4] w fun e w' => e = .returned (.agg #[.int .i64 (Pl.nv 4 s x v), .int .i64 W, .int .i64 (Pl.nx 4 s x v), .int .i64 (Pl.fell 4 s v), .bool (Pl.vfl 4 s x v)]) ∧ Below w.heap.size w w' := by
  have hst := store_func
  have E4 : Hid (false = Pl.vfl 4 s x v) := hide (by simp [Pl.vfl])
  have HF := hide h
  have HWW := hide hW
  clear h hW
  go_enter Try.func35, Try.ntmps35
  go_wp2_with fail
  clear hst
  obtain ⟨X, hX⟩ : ∃ X : World, X = (((w.alloc (.cells #[.int .i64 v, .int .i64 W, .int .i64 x, .int .i64 f, .bool false] 53)).alloc (.cells #[.int .i64 0, .int .i64 0, .int .i64 0, .int .i64 0, .bool false] 53)).alloc (.cells #[.func (.func 56) #[] #[], .func (.func 57) #[] #[], .func (.func 58) #[] #[], .func (.func 59) #[] #[], .func (.func 60) #[] #[], .func (.func 61) #[] #[], .func (.func 62) #[] #[], .func (.func 63) #[] #[]] 66)) := ⟨_, rfl⟩
  rw [← hX]
  have B1 : Box X w.heap.size v W x f false := by rw [hX]; exact Box.new1 _ _ _ _ _ _ _ _
  have B2 : Box X (w.heap.size + 1) 0 0 0 0 false := by rw [hX]; exact Box.new2 _ _ _ _ _ _ _ _
  have hF : X.cell? ⟨w.heap.size + 1 + 1, 4, none⟩ = some (.func (.func 60) #[] #[]) := by rw [hX]; go_simp
  have HX : Hid (Below w.heap.size w X) := hide (by rw [hX]; exact (((Below.refl _ _).alloc (by simp) _).alloc (by simp) _).alloc (by simp <;> omega) _)
  clear hX
  obtain ⟨a0, a1, a2, a3, a4, _, _, _, _, _⟩ := B1.cells
  have HB2 := hide B2
  clear B1 B2
  go_region_with (go_at_call 60; refine (turnUp s v x f W false _ HF.out HWW.out).mono ?_; rintro e wt ⟨rfl, hb0⟩; have hb := undrew hb0; clear hb0; have HBt := hide (HB2.out.later hb); obtain ⟨c0, c1, c2, c3, c4, g0, g1, g2, g3, g4⟩ := HBt.out.cells; have HB := hide hb; clear hb a0 a1 a2 a3 a4 hF)
  all_goals
    go_wp2_with fail
    refine bodyPost_ret (v := .agg #[.int .i64 (Pl.nv 4 s x v), .int .i64 W, .int .i64 (Pl.nx 4 s x v), .int .i64 (Pl.fell 4 s v), .bool false]) ?_ rfl ⟨?_, ?_⟩
    · exact results_box rfl _ rfl (HBt.out.set)
    · exact rA rfl rfl rfl rfl E4.out
    · exact (((((HX.out.trans (HB.out.mono HX.out.size)).setCell (by simp) _).setCell (by simp) _).setCell (by simp) _).setCell (by simp) _).setCell (by simp) _
set_option maxHeartbeats 4000000 in
theorem moved5 (s v x f W : Int) (w : World) (h : Pl.Fit s (v, x)) (hW : W = 8 * s) :
    Calls Try.prog 35 #[.agg #[.int .i64 v, .int .i64 W, .int .i64 x, .int .i64 f, .bool false], .int .i64 5] w fun e w' => e = .returned (.agg #[.int .i64 (Pl.nv 5 s x v), .int .i64 W, .int .i64 (Pl.nx 5 s x v), .int .i64 (Pl.fell 5 s v), .bool (Pl.vfl 5 s x v)]) ∧ Below w.heap.size w w' := by
  have hst := store_func
  have E4 : Hid (false = Pl.vfl 5 s x v) := hide (by simp [Pl.vfl])
  have HF := hide h
  have HWW := hide hW
  clear h hW
  go_enter Try.func35, Try.ntmps35
  go_wp2_with fail
  clear hst
  obtain ⟨X, hX⟩ : ∃ X : World, X = (((w.alloc (.cells #[.int .i64 v, .int .i64 W, .int .i64 x, .int .i64 f, .bool false] 53)).alloc (.cells #[.int .i64 0, .int .i64 0, .int .i64 0, .int .i64 0, .bool false] 53)).alloc (.cells #[.func (.func 56) #[] #[], .func (.func 57) #[] #[], .func (.func 58) #[] #[], .func (.func 59) #[] #[], .func (.func 60) #[] #[], .func (.func 61) #[] #[], .func (.func 62) #[] #[], .func (.func 63) #[] #[]] 66)) := ⟨_, rfl⟩
  rw [← hX]
  have B1 : Box X w.heap.size v W x f false := by rw [hX]; exact Box.new1 _ _ _ _ _ _ _ _
  have B2 : Box X (w.heap.size + 1) 0 0 0 0 false := by rw [hX]; exact Box.new2 _ _ _ _ _ _ _ _
  have hF : X.cell? ⟨w.heap.size + 1 + 1, 5, none⟩ = some (.func (.func 61) #[] #[]) := by rw [hX]; go_simp
  have HX : Hid (Below w.heap.size w X) := hide (by rw [hX]; exact (((Below.refl _ _).alloc (by simp) _).alloc (by simp) _).alloc (by simp <;> omega) _)
  clear hX
  obtain ⟨a0, a1, a2, a3, a4, _, _, _, _, _⟩ := B1.cells
  have HB2 := hide B2
  clear B1 B2
  go_region_with (go_at_call 61; refine (turnDown s v x f W false _ HF.out HWW.out).mono ?_; rintro e wt ⟨rfl, hb0⟩; have hb := undrew hb0; clear hb0; have HBt := hide (HB2.out.later hb); obtain ⟨c0, c1, c2, c3, c4, g0, g1, g2, g3, g4⟩ := HBt.out.cells; have HB := hide hb; clear hb a0 a1 a2 a3 a4 hF)
  all_goals
    go_wp2_with fail
    refine bodyPost_ret (v := .agg #[.int .i64 (Pl.nv 5 s x v), .int .i64 W, .int .i64 (Pl.nx 5 s x v), .int .i64 (Pl.fell 5 s v), .bool false]) ?_ rfl ⟨?_, ?_⟩
    · exact results_box rfl _ rfl (HBt.out.set)
    · exact rA rfl rfl rfl rfl E4.out
    · exact (((((HX.out.trans (HB.out.mono HX.out.size)).setCell (by simp) _).setCell (by simp) _).setCell (by simp) _).setCell (by simp) _).setCell (by simp) _
set_option maxHeartbeats 4000000 in
theorem moved6 (s v x f W : Int) (w : World) (h : Pl.Fit s (v, x)) (hW : W = 8 * s) :
    Calls Try.prog 35 #[.agg #[.int .i64 v, .int .i64 W, .int .i64 x, .int .i64 f, .bool false], .int .i64 6] w fun e w' => e = .returned (.agg #[.int .i64 (Pl.nv 6 s x v), .int .i64 W, .int .i64 (Pl.nx 6 s x v), .int .i64 (Pl.fell 6 s v), .bool (Pl.vfl 6 s x v)]) ∧ Below w.heap.size w w' := by
  have hst := store_func
  have E4 : Hid (false = Pl.vfl 6 s x v) := hide (by simp [Pl.vfl])
  have HF := hide h
  have HWW := hide hW
  clear h hW
  go_enter Try.func35, Try.ntmps35
  go_wp2_with fail
  clear hst
  obtain ⟨X, hX⟩ : ∃ X : World, X = (((w.alloc (.cells #[.int .i64 v, .int .i64 W, .int .i64 x, .int .i64 f, .bool false] 53)).alloc (.cells #[.int .i64 0, .int .i64 0, .int .i64 0, .int .i64 0, .bool false] 53)).alloc (.cells #[.func (.func 56) #[] #[], .func (.func 57) #[] #[], .func (.func 58) #[] #[], .func (.func 59) #[] #[], .func (.func 60) #[] #[], .func (.func 61) #[] #[], .func (.func 62) #[] #[], .func (.func 63) #[] #[]] 66)) := ⟨_, rfl⟩
  rw [← hX]
  have B1 : Box X w.heap.size v W x f false := by rw [hX]; exact Box.new1 _ _ _ _ _ _ _ _
  have B2 : Box X (w.heap.size + 1) 0 0 0 0 false := by rw [hX]; exact Box.new2 _ _ _ _ _ _ _ _
  have hF : X.cell? ⟨w.heap.size + 1 + 1, 6, none⟩ = some (.func (.func 62) #[] #[]) := by rw [hX]; go_simp
  have HX : Hid (Below w.heap.size w X) := hide (by rw [hX]; exact (((Below.refl _ _).alloc (by simp) _).alloc (by simp) _).alloc (by simp <;> omega) _)
  clear hX
  obtain ⟨a0, a1, a2, a3, a4, _, _, _, _, _⟩ := B1.cells
  have HB2 := hide B2
  clear B1 B2
  go_region_with (go_at_call 62; refine (turnUpThroughExtend s v x f W false _ HF.out HWW.out).mono ?_; rintro e wt ⟨rfl, hb0⟩; have hb := undrew hb0; clear hb0; have HBt := hide (HB2.out.later hb); obtain ⟨c0, c1, c2, c3, c4, g0, g1, g2, g3, g4⟩ := HBt.out.cells; have HB := hide hb; clear hb a0 a1 a2 a3 a4 hF)
  all_goals
    go_wp2_with fail
    refine bodyPost_ret (v := .agg #[.int .i64 (Pl.nv 6 s x v), .int .i64 W, .int .i64 (Pl.nx 6 s x v), .int .i64 (Pl.fell 6 s v), .bool false]) ?_ rfl ⟨?_, ?_⟩
    · exact results_box rfl _ rfl (HBt.out.set)
    · exact rA rfl rfl rfl rfl E4.out
    · exact (((((HX.out.trans (HB.out.mono HX.out.size)).setCell (by simp) _).setCell (by simp) _).setCell (by simp) _).setCell (by simp) _).setCell (by simp) _
set_option maxHeartbeats 4000000 in
theorem moved7 (s v x f W : Int) (w : World) (h : Pl.Fit s (v, x)) (hW : W = 8 * s) :
    Calls Try.prog 35 #[.agg #[.int .i64 v, .int .i64 W, .int .i64 x, .int .i64 f, .bool false], .int .i64 7] w fun e w' => e = .returned (.agg #[.int .i64 (Pl.nv 7 s x v), .int .i64 W, .int .i64 (Pl.nx 7 s x v), .int .i64 (Pl.fell 7 s v), .bool (Pl.vfl 7 s x v)]) ∧ Below w.heap.size w w' := by
  have hst := store_func
  have E4 : Hid (false = Pl.vfl 7 s x v) := hide (by simp [Pl.vfl])
  have HF := hide h
  have HWW := hide hW
  clear h hW
  go_enter Try.func35, Try.ntmps35
  go_wp2_with fail
  clear hst
  obtain ⟨X, hX⟩ : ∃ X : World, X = (((w.alloc (.cells #[.int .i64 v, .int .i64 W, .int .i64 x, .int .i64 f, .bool false] 53)).alloc (.cells #[.int .i64 0, .int .i64 0, .int .i64 0, .int .i64 0, .bool false] 53)).alloc (.cells #[.func (.func 56) #[] #[], .func (.func 57) #[] #[], .func (.func 58) #[] #[], .func (.func 59) #[] #[], .func (.func 60) #[] #[], .func (.func 61) #[] #[], .func (.func 62) #[] #[], .func (.func 63) #[] #[]] 66)) := ⟨_, rfl⟩
  rw [← hX]
  have B1 : Box X w.heap.size v W x f false := by rw [hX]; exact Box.new1 _ _ _ _ _ _ _ _
  have B2 : Box X (w.heap.size + 1) 0 0 0 0 false := by rw [hX]; exact Box.new2 _ _ _ _ _ _ _ _
  have hF : X.cell? ⟨w.heap.size + 1 + 1, 7, none⟩ = some (.func (.func 63) #[] #[]) := by rw [hX]; go_simp
  have HX : Hid (Below w.heap.size w X) := hide (by rw [hX]; exact (((Below.refl _ _).alloc (by simp) _).alloc (by simp) _).alloc (by simp <;> omega) _)
  clear hX
  obtain ⟨a0, a1, a2, a3, a4, _, _, _, _, _⟩ := B1.cells
  have HB2 := hide B2
  clear B1 B2
  go_region_with (go_at_call 63; refine (turnDownThroughExtend s v x f W false _ HF.out HWW.out).mono ?_; rintro e wt ⟨rfl, hb0⟩; have hb := undrew hb0; clear hb0; have HBt := hide (HB2.out.later hb); obtain ⟨c0, c1, c2, c3, c4, g0, g1, g2, g3, g4⟩ := HBt.out.cells; have HB := hide hb; clear hb a0 a1 a2 a3 a4 hF)
  all_goals
    go_wp2_with fail
    refine bodyPost_ret (v := .agg #[.int .i64 (Pl.nv 7 s x v), .int .i64 W, .int .i64 (Pl.nx 7 s x v), .int .i64 (Pl.fell 7 s v), .bool false]) ?_ rfl ⟨?_, ?_⟩
    · exact results_box rfl _ rfl (HBt.out.set)
    · exact rA rfl rfl rfl rfl E4.out
    · exact (((((HX.out.trans (HB.out.mono HX.out.size)).setCell (by simp) _).setCell (by simp) _).setCell (by simp) _).setCell (by simp) _).setCell (by simp) _

/-- one place, of whatever kind and size -/
theorem moved (k s v x f W : Int) (t : Bool) (w : World) (k0 : 0 ≤ k) (k1 : k ≤ 7) (h : Pl.Fit s (v, x)) (hW : W = 8 * s) (ht : k = 0 ∨ t = false) :
    Calls Try.prog 35 #[.agg #[.int .i64 v, .int .i64 W, .int .i64 x, .int .i64 f, .bool t], .int .i64 k] w fun e w' => e = .returned (.agg #[.int .i64 (Pl.nv k s x v), .int .i64 W, .int .i64 (Pl.nx k s x v), .int .i64 (Pl.fell k s v), .bool (Pl.vfl k s x v)]) ∧ Below w.heap.size w w' := by
  have hk : k = 0 ∨ k = 1 ∨ k = 2 ∨ k = 3 ∨ k = 4 ∨ k = 5 ∨ k = 6 ∨ k = 7 := by omega
  rcases hk with rfl | rfl | rfl | rfl | rfl | rfl | rfl | rfl
  · exact moved0 s v x f W t w h hW
  · obtain rfl : t = false := ht.resolve_left (by decide)
    exact moved1 s v x f W w h hW
  · obtain rfl : t = false := ht.resolve_left (by decide)
    exact moved2 s v x f W w h hW
  · obtain rfl : t = false := ht.resolve_left (by decide)
    exact moved3 s v x f W w h hW
  · obtain rfl : t = false := ht.resolve_left (by decide)
    exact moved4 s v x f W w h hW
  · obtain rfl : t = false := ht.resolve_left (by decide)
    exact moved5 s v x f W w h hW
  · obtain rfl : t = false := ht.resolve_left (by decide)
    exact moved6 s v x f W w h hW
  · obtain rfl : t = false := ht.resolve_left (by decide)
    exact moved7 s v x f W w h hW
end Go.Proofs.Ytlagdbajdehanaa
