/- What the program's moves of each kind answer at size 2: each makes new blocks and changes none that was there. -/
import Derived.Test.YtlagdbajdehanaaMoves
namespace Go.Proofs.Ytlagdbajdehanaa
open Go.RowKit
set_option linter.unusedVariables false
set_option linter.unusedSimpArgs false

set_option maxHeartbeats 8000000 in
theorem arithmeticUp2 (v x f : Int) (t : Bool) (w : World) (h0 : 0 ≤ v) (h1 : v < 65536) (x0 : 0 ≤ x) (x1 : x ≤ 1) :
    Calls Try.prog 56 #[.agg #[.int .i64 v, .int .i64 16, .int .i64 x, .int .i64 f, .bool t]] w fun e w' => e = .returned (.agg #[.int .i64 (Pl.nv 0 2 x v), .int .i64 16, .int .i64 (Pl.nx 0 2 x v), .int .i64 (Pl.fell 0 2 v), .bool (Pl.vfl 0 2 x v)]) ∧ Below w.heap.size w w' := by
  obtain ⟨b0, b1⟩ := Pl.hi_bd 2 v
  have E1 : Hid ((v * 2 % 65536) = Pl.nv 0 2 x v) := hide (by simp only [Pl.nv, Pl.inn, Pl.fell, Pl.top, Int.reduceMod, Int.reduceEq, Int.reduceLE, Int.reduceDiv, if_true, if_false, or_self, or_true, true_or, or_false, false_or] <;> omega)
  have E2 : Hid ((Pl.hi 2 v) = Pl.nx 0 2 x v) := hide (by simp only [Pl.nx, Pl.fell, Int.reduceMod, Int.reduceEq, if_true, if_false, or_self, or_true, true_or, or_false, false_or])
  have E3 : Hid ((Pl.hi 2 v) = Pl.fell 0 2 v) := hide (by simp only [Pl.fell, Int.reduceMod, Int.reduceEq, if_true, if_false])
  have E4 : Hid ((Pl.hi 2 (v * 2 % 65536) != Pl.hi 2 v) = Pl.vfl 0 2 x v) := hide (by rw [Pl.vfl, ← E1.out, Pl.bne_symm]; rfl)
  go_enter Try.func56, Try.ntmps56
  go_wp2_with (first | (go_at_call 65; refine (highest2 _ _ _ _ _ ?h0 ?h1).mono ?_; (case h0 => omega); (case h1 => omega); rintro e w' ⟨rfl, o6, rfl⟩) | (go_at_call 74; refine (lowest _ _ _ _ _ _).mono ?_; rintro e w' ⟨rfl, o6, rfl⟩) | (go_at_call 71; refine (moveUp2 _ _ _ _ _ _ ?h0 ?h1 ?h2 ?h3).mono ?_; (case h0 => omega); (case h1 => omega); (case h2 => omega); (case h3 => omega); rintro e w' ⟨rfl, o1, o2, o3, rfl⟩) | (go_at_call 72; refine (keepFallen _ _ _ _ _ _).mono ?_; rintro e w' ⟨rfl, o4, o5, rfl⟩))
  go_region_with (first | (go_at_call 65; refine (highest2 _ _ _ _ _ ?h0 ?h1).mono ?_; (case h0 => omega); (case h1 => omega); rintro e w' ⟨rfl, o6, rfl⟩) | (go_at_call 74; refine (lowest _ _ _ _ _ _).mono ?_; rintro e w' ⟨rfl, o6, rfl⟩) | (go_at_call 71; refine (moveUp2 _ _ _ _ _ _ ?h0 ?h1 ?h2 ?h3).mono ?_; (case h0 => omega); (case h1 => omega); (case h2 => omega); (case h3 => omega); rintro e w' ⟨rfl, o1, o2, o3, rfl⟩) | (go_at_call 72; refine (keepFallen _ _ _ _ _ _).mono ?_; rintro e w' ⟨rfl, o4, o5, rfl⟩))
  all_goals go_wp2_with fail
  all_goals
    refine bodyPost_ret (v := .agg #[.int .i64 (v * 2 % 65536), .int .i64 16, .int .i64 (Pl.hi 2 v), .int .i64 (Pl.hi 2 v), .bool (Pl.hi 2 (v * 2 % 65536) != Pl.hi 2 v)]) ?_ rfl ⟨?_, ?_⟩
    · rw [results_cell1 rfl]; go_simp
    · exact rA E1.out rfl E2.out E3.out E4.out
    · (repeat' (first | with_reducible exact Below.refl _ _ | with_reducible refine Below.drew ?_ | with_reducible refine Below.alloc ?_ ?_ _ | (simp; done) | (simp; omega)))
set_option maxHeartbeats 8000000 in
theorem arithmeticDown2 (v x f : Int) (t : Bool) (w : World) (h0 : 0 ≤ v) (h1 : v < 65536) (x0 : 0 ≤ x) (x1 : x ≤ 1) :
    Calls Try.prog 57 #[.agg #[.int .i64 v, .int .i64 16, .int .i64 x, .int .i64 f, .bool t]] w fun e w' => e = .returned (.agg #[.int .i64 (Pl.nv 1 2 x v), .int .i64 16, .int .i64 (Pl.nx 1 2 x v), .int .i64 (Pl.fell 1 2 v), .bool t]) ∧ Below w.heap.size w w' := by
  obtain ⟨b0, b1⟩ := Pl.hi_bd 2 v
  have E1 : Hid ((v / 2 + Pl.hi 2 v * 32768) = Pl.nv 1 2 x v) := hide (by simp only [Pl.nv, Pl.inn, Pl.fell, Pl.top, Int.reduceMod, Int.reduceEq, Int.reduceLE, Int.reduceDiv, if_true, if_false, or_self, or_true, true_or, or_false, false_or] <;> omega)
  have E2 : Hid ((v % 2) = Pl.nx 1 2 x v) := hide (by simp only [Pl.nx, Pl.fell, Int.reduceMod, Int.reduceEq, if_true, if_false, or_self, or_true, true_or, or_false, false_or])
  have E3 : Hid ((v % 2) = Pl.fell 1 2 v) := hide (by simp only [Pl.fell, Int.reduceMod, Int.reduceEq, if_true, if_false])
  go_enter Try.func57, Try.ntmps57
  go_wp2_with (first | (go_at_call 65; refine (highest2 _ _ _ _ _ ?h0 ?h1).mono ?_; (case h0 => omega); (case h1 => omega); rintro e w' ⟨rfl, o6, rfl⟩) | (go_at_call 74; refine (lowest _ _ _ _ _ _).mono ?_; rintro e w' ⟨rfl, o6, rfl⟩) | (go_at_call 73; refine (moveDown2 _ _ _ _ _ _ ?h0 ?h1 ?h2 ?h3).mono ?_; (case h0 => omega); (case h1 => omega); (case h2 => omega); (case h3 => omega); rintro e w' ⟨rfl, o1, o2, o3, rfl⟩) | (go_at_call 72; refine (keepFallen _ _ _ _ _ _).mono ?_; rintro e w' ⟨rfl, o4, o5, rfl⟩))
  go_region_with (first | (go_at_call 65; refine (highest2 _ _ _ _ _ ?h0 ?h1).mono ?_; (case h0 => omega); (case h1 => omega); rintro e w' ⟨rfl, o6, rfl⟩) | (go_at_call 74; refine (lowest _ _ _ _ _ _).mono ?_; rintro e w' ⟨rfl, o6, rfl⟩) | (go_at_call 73; refine (moveDown2 _ _ _ _ _ _ ?h0 ?h1 ?h2 ?h3).mono ?_; (case h0 => omega); (case h1 => omega); (case h2 => omega); (case h3 => omega); rintro e w' ⟨rfl, o1, o2, o3, rfl⟩) | (go_at_call 72; refine (keepFallen _ _ _ _ _ _).mono ?_; rintro e w' ⟨rfl, o4, o5, rfl⟩))
  all_goals go_wp2_with fail
  all_goals
    refine bodyPost_ret (v := .agg #[.int .i64 (v / 2 + Pl.hi 2 v * 32768), .int .i64 16, .int .i64 (v % 2), .int .i64 (v % 2), .bool t]) ?_ rfl ⟨?_, ?_⟩
    · rw [results_cell1 rfl]; go_simp
    · exact rA E1.out rfl E2.out E3.out rfl
    · (repeat' (first | with_reducible exact Below.refl _ _ | with_reducible refine Below.drew ?_ | with_reducible refine Below.alloc ?_ ?_ _ | (simp; done) | (simp; omega)))
set_option maxHeartbeats 8000000 in
theorem plainUp2 (v x f : Int) (t : Bool) (w : World) (h0 : 0 ≤ v) (h1 : v < 65536) (x0 : 0 ≤ x) (x1 : x ≤ 1) :
    Calls Try.prog 58 #[.agg #[.int .i64 v, .int .i64 16, .int .i64 x, .int .i64 f, .bool t]] w fun e w' => e = .returned (.agg #[.int .i64 (Pl.nv 2 2 x v), .int .i64 16, .int .i64 (Pl.nx 2 2 x v), .int .i64 (Pl.fell 2 2 v), .bool t]) ∧ Below w.heap.size w w' := by
  obtain ⟨b0, b1⟩ := Pl.hi_bd 2 v
  have E1 : Hid ((v * 2 % 65536) = Pl.nv 2 2 x v) := hide (by simp only [Pl.nv, Pl.inn, Pl.fell, Pl.top, Int.reduceMod, Int.reduceEq, Int.reduceLE, Int.reduceDiv, if_true, if_false, or_self, or_true, true_or, or_false, false_or] <;> omega)
  have E2 : Hid ((Pl.hi 2 v) = Pl.nx 2 2 x v) := hide (by simp only [Pl.nx, Pl.fell, Int.reduceMod, Int.reduceEq, if_true, if_false, or_self, or_true, true_or, or_false, false_or])
  have E3 : Hid ((Pl.hi 2 v) = Pl.fell 2 2 v) := hide (by simp only [Pl.fell, Int.reduceMod, Int.reduceEq, if_true, if_false])
  go_enter Try.func58, Try.ntmps58
  go_wp2_with (first | (go_at_call 65; refine (highest2 _ _ _ _ _ ?h0 ?h1).mono ?_; (case h0 => omega); (case h1 => omega); rintro e w' ⟨rfl, o6, rfl⟩) | (go_at_call 74; refine (lowest _ _ _ _ _ _).mono ?_; rintro e w' ⟨rfl, o6, rfl⟩) | (go_at_call 71; refine (moveUp2 _ _ _ _ _ _ ?h0 ?h1 ?h2 ?h3).mono ?_; (case h0 => omega); (case h1 => omega); (case h2 => omega); (case h3 => omega); rintro e w' ⟨rfl, o1, o2, o3, rfl⟩) | (go_at_call 72; refine (keepFallen _ _ _ _ _ _).mono ?_; rintro e w' ⟨rfl, o4, o5, rfl⟩))
  all_goals
    refine bodyPost_ret (v := .agg #[.int .i64 (v * 2 % 65536), .int .i64 16, .int .i64 (Pl.hi 2 v), .int .i64 (Pl.hi 2 v), .bool t]) ?_ rfl ⟨?_, ?_⟩
    · rw [results_cell1 rfl]; go_simp
    · exact rA E1.out rfl E2.out E3.out rfl
    · (repeat' (first | with_reducible exact Below.refl _ _ | with_reducible refine Below.drew ?_ | with_reducible refine Below.alloc ?_ ?_ _ | (simp; done) | (simp; omega)))
set_option maxHeartbeats 8000000 in
theorem plainDown2 (v x f : Int) (t : Bool) (w : World) (h0 : 0 ≤ v) (h1 : v < 65536) (x0 : 0 ≤ x) (x1 : x ≤ 1) :
    Calls Try.prog 59 #[.agg #[.int .i64 v, .int .i64 16, .int .i64 x, .int .i64 f, .bool t]] w fun e w' => e = .returned (.agg #[.int .i64 (Pl.nv 3 2 x v), .int .i64 16, .int .i64 (Pl.nx 3 2 x v), .int .i64 (Pl.fell 3 2 v), .bool t]) ∧ Below w.heap.size w w' := by
  obtain ⟨b0, b1⟩ := Pl.hi_bd 2 v
  have E1 : Hid ((v / 2) = Pl.nv 3 2 x v) := hide (by simp only [Pl.nv, Pl.inn, Pl.fell, Pl.top, Int.reduceMod, Int.reduceEq, Int.reduceLE, Int.reduceDiv, if_true, if_false, or_self, or_true, true_or, or_false, false_or] <;> omega)
  have E2 : Hid ((v % 2) = Pl.nx 3 2 x v) := hide (by simp only [Pl.nx, Pl.fell, Int.reduceMod, Int.reduceEq, if_true, if_false, or_self, or_true, true_or, or_false, false_or])
  have E3 : Hid ((v % 2) = Pl.fell 3 2 v) := hide (by simp only [Pl.fell, Int.reduceMod, Int.reduceEq, if_true, if_false])
  go_enter Try.func59, Try.ntmps59
  go_wp2_with (first | (go_at_call 65; refine (highest2 _ _ _ _ _ ?h0 ?h1).mono ?_; (case h0 => omega); (case h1 => omega); rintro e w' ⟨rfl, o6, rfl⟩) | (go_at_call 74; refine (lowest _ _ _ _ _ _).mono ?_; rintro e w' ⟨rfl, o6, rfl⟩) | (go_at_call 73; refine (moveDown2 _ _ _ _ _ _ ?h0 ?h1 ?h2 ?h3).mono ?_; (case h0 => omega); (case h1 => omega); (case h2 => omega); (case h3 => omega); rintro e w' ⟨rfl, o1, o2, o3, rfl⟩) | (go_at_call 72; refine (keepFallen _ _ _ _ _ _).mono ?_; rintro e w' ⟨rfl, o4, o5, rfl⟩))
  all_goals
    refine bodyPost_ret (v := .agg #[.int .i64 (v / 2), .int .i64 16, .int .i64 (v % 2), .int .i64 (v % 2), .bool t]) ?_ rfl ⟨?_, ?_⟩
    · rw [results_cell1 rfl]; go_simp
    · exact rA E1.out rfl E2.out E3.out rfl
    · (repeat' (first | with_reducible exact Below.refl _ _ | with_reducible refine Below.drew ?_ | with_reducible refine Below.alloc ?_ ?_ _ | (simp; done) | (simp; omega)))
set_option maxHeartbeats 8000000 in
theorem turnUp2 (v x f : Int) (t : Bool) (w : World) (h0 : 0 ≤ v) (h1 : v < 65536) (x0 : 0 ≤ x) (x1 : x ≤ 1) :
    Calls Try.prog 60 #[.agg #[.int .i64 v, .int .i64 16, .int .i64 x, .int .i64 f, .bool t]] w fun e w' => e = .returned (.agg #[.int .i64 (Pl.nv 4 2 x v), .int .i64 16, .int .i64 (Pl.nx 4 2 x v), .int .i64 (Pl.fell 4 2 v), .bool t]) ∧ Below w.heap.size w w' := by
  obtain ⟨b0, b1⟩ := Pl.hi_bd 2 v
  have E1 : Hid ((v * 2 % 65536 + Pl.hi 2 v) = Pl.nv 4 2 x v) := hide (by simp only [Pl.nv, Pl.inn, Pl.fell, Pl.top, Int.reduceMod, Int.reduceEq, Int.reduceLE, Int.reduceDiv, if_true, if_false, or_self, or_true, true_or, or_false, false_or] <;> omega)
  have E2 : Hid (x = Pl.nx 4 2 x v) := hide (by simp only [Pl.nx, Pl.fell, Int.reduceMod, Int.reduceEq, if_true, if_false, or_self, or_true, true_or, or_false, false_or])
  have E3 : Hid ((Pl.hi 2 v) = Pl.fell 4 2 v) := hide (by simp only [Pl.fell, Int.reduceMod, Int.reduceEq, if_true, if_false])
  go_enter Try.func60, Try.ntmps60
  go_wp2_with (first | (go_at_call 65; refine (highest2 _ _ _ _ _ ?h0 ?h1).mono ?_; (case h0 => omega); (case h1 => omega); rintro e w' ⟨rfl, o6, rfl⟩) | (go_at_call 74; refine (lowest _ _ _ _ _ _).mono ?_; rintro e w' ⟨rfl, o6, rfl⟩) | (go_at_call 71; refine (moveUp2 _ _ _ _ _ _ ?h0 ?h1 ?h2 ?h3).mono ?_; (case h0 => omega); (case h1 => omega); (case h2 => omega); (case h3 => omega); rintro e w' ⟨rfl, o1, o2, o3, rfl⟩) | (go_at_call 72; refine (keepFallen _ _ _ _ _ _).mono ?_; rintro e w' ⟨rfl, o4, o5, rfl⟩))
  go_region_with (first | (go_at_call 65; refine (highest2 _ _ _ _ _ ?h0 ?h1).mono ?_; (case h0 => omega); (case h1 => omega); rintro e w' ⟨rfl, o6, rfl⟩) | (go_at_call 74; refine (lowest _ _ _ _ _ _).mono ?_; rintro e w' ⟨rfl, o6, rfl⟩) | (go_at_call 71; refine (moveUp2 _ _ _ _ _ _ ?h0 ?h1 ?h2 ?h3).mono ?_; (case h0 => omega); (case h1 => omega); (case h2 => omega); (case h3 => omega); rintro e w' ⟨rfl, o1, o2, o3, rfl⟩) | (go_at_call 72; refine (keepFallen _ _ _ _ _ _).mono ?_; rintro e w' ⟨rfl, o4, o5, rfl⟩))
  all_goals go_wp2_with fail
  all_goals
    refine bodyPost_ret (v := .agg #[.int .i64 (v * 2 % 65536 + Pl.hi 2 v), .int .i64 16, .int .i64 x, .int .i64 (Pl.hi 2 v), .bool t]) ?_ rfl ⟨?_, ?_⟩
    · rw [results_cell1 rfl]; go_simp
    · exact rA E1.out rfl E2.out E3.out rfl
    · (repeat' (first | with_reducible exact Below.refl _ _ | with_reducible refine Below.drew ?_ | with_reducible refine Below.alloc ?_ ?_ _ | (simp; done) | (simp; omega)))
set_option maxHeartbeats 8000000 in
theorem turnDown2 (v x f : Int) (t : Bool) (w : World) (h0 : 0 ≤ v) (h1 : v < 65536) (x0 : 0 ≤ x) (x1 : x ≤ 1) :
    Calls Try.prog 61 #[.agg #[.int .i64 v, .int .i64 16, .int .i64 x, .int .i64 f, .bool t]] w fun e w' => e = .returned (.agg #[.int .i64 (Pl.nv 5 2 x v), .int .i64 16, .int .i64 (Pl.nx 5 2 x v), .int .i64 (Pl.fell 5 2 v), .bool t]) ∧ Below w.heap.size w w' := by
  obtain ⟨b0, b1⟩ := Pl.hi_bd 2 v
  have E1 : Hid ((v / 2 + v % 2 * 32768) = Pl.nv 5 2 x v) := hide (by simp only [Pl.nv, Pl.inn, Pl.fell, Pl.top, Int.reduceMod, Int.reduceEq, Int.reduceLE, Int.reduceDiv, if_true, if_false, or_self, or_true, true_or, or_false, false_or] <;> omega)
  have E2 : Hid (x = Pl.nx 5 2 x v) := hide (by simp only [Pl.nx, Pl.fell, Int.reduceMod, Int.reduceEq, if_true, if_false, or_self, or_true, true_or, or_false, false_or])
  have E3 : Hid ((v % 2) = Pl.fell 5 2 v) := hide (by simp only [Pl.fell, Int.reduceMod, Int.reduceEq, if_true, if_false])
  go_enter Try.func61, Try.ntmps61
  go_wp2_with (first | (go_at_call 65; refine (highest2 _ _ _ _ _ ?h0 ?h1).mono ?_; (case h0 => omega); (case h1 => omega); rintro e w' ⟨rfl, o6, rfl⟩) | (go_at_call 74; refine (lowest _ _ _ _ _ _).mono ?_; rintro e w' ⟨rfl, o6, rfl⟩) | (go_at_call 73; refine (moveDown2 _ _ _ _ _ _ ?h0 ?h1 ?h2 ?h3).mono ?_; (case h0 => omega); (case h1 => omega); (case h2 => omega); (case h3 => omega); rintro e w' ⟨rfl, o1, o2, o3, rfl⟩) | (go_at_call 72; refine (keepFallen _ _ _ _ _ _).mono ?_; rintro e w' ⟨rfl, o4, o5, rfl⟩))
  go_region_with (first | (go_at_call 65; refine (highest2 _ _ _ _ _ ?h0 ?h1).mono ?_; (case h0 => omega); (case h1 => omega); rintro e w' ⟨rfl, o6, rfl⟩) | (go_at_call 74; refine (lowest _ _ _ _ _ _).mono ?_; rintro e w' ⟨rfl, o6, rfl⟩) | (go_at_call 73; refine (moveDown2 _ _ _ _ _ _ ?h0 ?h1 ?h2 ?h3).mono ?_; (case h0 => omega); (case h1 => omega); (case h2 => omega); (case h3 => omega); rintro e w' ⟨rfl, o1, o2, o3, rfl⟩) | (go_at_call 72; refine (keepFallen _ _ _ _ _ _).mono ?_; rintro e w' ⟨rfl, o4, o5, rfl⟩))
  all_goals go_wp2_with fail
  all_goals
    refine bodyPost_ret (v := .agg #[.int .i64 (v / 2 + v % 2 * 32768), .int .i64 16, .int .i64 x, .int .i64 (v % 2), .bool t]) ?_ rfl ⟨?_, ?_⟩
    · rw [results_cell1 rfl]; go_simp
    · exact rA E1.out rfl E2.out E3.out rfl
    · (repeat' (first | with_reducible exact Below.refl _ _ | with_reducible refine Below.drew ?_ | with_reducible refine Below.alloc ?_ ?_ _ | (simp; done) | (simp; omega)))
set_option maxHeartbeats 8000000 in
theorem turnUpThroughExtend2 (v x f : Int) (t : Bool) (w : World) (h0 : 0 ≤ v) (h1 : v < 65536) (x0 : 0 ≤ x) (x1 : x ≤ 1) :
    Calls Try.prog 62 #[.agg #[.int .i64 v, .int .i64 16, .int .i64 x, .int .i64 f, .bool t]] w fun e w' => e = .returned (.agg #[.int .i64 (Pl.nv 6 2 x v), .int .i64 16, .int .i64 (Pl.nx 6 2 x v), .int .i64 (Pl.fell 6 2 v), .bool t]) ∧ Below w.heap.size w w' := by
  obtain ⟨b0, b1⟩ := Pl.hi_bd 2 v
  have E1 : Hid ((v * 2 % 65536 + x) = Pl.nv 6 2 x v) := hide (by simp only [Pl.nv, Pl.inn, Pl.fell, Pl.top, Int.reduceMod, Int.reduceEq, Int.reduceLE, Int.reduceDiv, if_true, if_false, or_self, or_true, true_or, or_false, false_or] <;> omega)
  have E2 : Hid ((Pl.hi 2 v) = Pl.nx 6 2 x v) := hide (by simp only [Pl.nx, Pl.fell, Int.reduceMod, Int.reduceEq, if_true, if_false, or_self, or_true, true_or, or_false, false_or])
  have E3 : Hid ((Pl.hi 2 v) = Pl.fell 6 2 v) := hide (by simp only [Pl.fell, Int.reduceMod, Int.reduceEq, if_true, if_false])
  go_enter Try.func62, Try.ntmps62
  go_wp2_with (first | (go_at_call 65; refine (highest2 _ _ _ _ _ ?h0 ?h1).mono ?_; (case h0 => omega); (case h1 => omega); rintro e w' ⟨rfl, o6, rfl⟩) | (go_at_call 74; refine (lowest _ _ _ _ _ _).mono ?_; rintro e w' ⟨rfl, o6, rfl⟩) | (go_at_call 71; refine (moveUp2 _ _ _ _ _ _ ?h0 ?h1 ?h2 ?h3).mono ?_; (case h0 => omega); (case h1 => omega); (case h2 => omega); (case h3 => omega); rintro e w' ⟨rfl, o1, o2, o3, rfl⟩) | (go_at_call 72; refine (keepFallen _ _ _ _ _ _).mono ?_; rintro e w' ⟨rfl, o4, o5, rfl⟩))
  all_goals
    refine bodyPost_ret (v := .agg #[.int .i64 (v * 2 % 65536 + x), .int .i64 16, .int .i64 (Pl.hi 2 v), .int .i64 (Pl.hi 2 v), .bool t]) ?_ rfl ⟨?_, ?_⟩
    · rw [results_cell1 rfl]; go_simp
    · exact rA E1.out rfl E2.out E3.out rfl
    · (repeat' (first | with_reducible exact Below.refl _ _ | with_reducible refine Below.drew ?_ | with_reducible refine Below.alloc ?_ ?_ _ | (simp; done) | (simp; omega)))
set_option maxHeartbeats 8000000 in
theorem turnDownThroughExtend2 (v x f : Int) (t : Bool) (w : World) (h0 : 0 ≤ v) (h1 : v < 65536) (x0 : 0 ≤ x) (x1 : x ≤ 1) :
    Calls Try.prog 63 #[.agg #[.int .i64 v, .int .i64 16, .int .i64 x, .int .i64 f, .bool t]] w fun e w' => e = .returned (.agg #[.int .i64 (Pl.nv 7 2 x v), .int .i64 16, .int .i64 (Pl.nx 7 2 x v), .int .i64 (Pl.fell 7 2 v), .bool t]) ∧ Below w.heap.size w w' := by
  obtain ⟨b0, b1⟩ := Pl.hi_bd 2 v
  have E1 : Hid ((v / 2 + x * 32768) = Pl.nv 7 2 x v) := hide (by simp only [Pl.nv, Pl.inn, Pl.fell, Pl.top, Int.reduceMod, Int.reduceEq, Int.reduceLE, Int.reduceDiv, if_true, if_false, or_self, or_true, true_or, or_false, false_or] <;> omega)
  have E2 : Hid ((v % 2) = Pl.nx 7 2 x v) := hide (by simp only [Pl.nx, Pl.fell, Int.reduceMod, Int.reduceEq, if_true, if_false, or_self, or_true, true_or, or_false, false_or])
  have E3 : Hid ((v % 2) = Pl.fell 7 2 v) := hide (by simp only [Pl.fell, Int.reduceMod, Int.reduceEq, if_true, if_false])
  go_enter Try.func63, Try.ntmps63
  go_wp2_with (first | (go_at_call 65; refine (highest2 _ _ _ _ _ ?h0 ?h1).mono ?_; (case h0 => omega); (case h1 => omega); rintro e w' ⟨rfl, o6, rfl⟩) | (go_at_call 74; refine (lowest _ _ _ _ _ _).mono ?_; rintro e w' ⟨rfl, o6, rfl⟩) | (go_at_call 73; refine (moveDown2 _ _ _ _ _ _ ?h0 ?h1 ?h2 ?h3).mono ?_; (case h0 => omega); (case h1 => omega); (case h2 => omega); (case h3 => omega); rintro e w' ⟨rfl, o1, o2, o3, rfl⟩) | (go_at_call 72; refine (keepFallen _ _ _ _ _ _).mono ?_; rintro e w' ⟨rfl, o4, o5, rfl⟩))
  all_goals
    refine bodyPost_ret (v := .agg #[.int .i64 (v / 2 + x * 32768), .int .i64 16, .int .i64 (v % 2), .int .i64 (v % 2), .bool t]) ?_ rfl ⟨?_, ?_⟩
    · rw [results_cell1 rfl]; go_simp
    · exact rA E1.out rfl E2.out E3.out rfl
    · (repeat' (first | with_reducible exact Below.refl _ _ | with_reducible refine Below.drew ?_ | with_reducible refine Below.alloc ?_ ?_ _ | (simp; done) | (simp; omega)))
end Go.Proofs.Ytlagdbajdehanaa
