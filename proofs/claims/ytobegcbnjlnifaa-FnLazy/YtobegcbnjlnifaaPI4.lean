/- What the program's moves of each kind answer at size 2: each makes new blocks and changes none that was there. What the program's choice among the eight moves answers, for each kind, of whatever size: new blocks alone. -/
import Derived.Test.YtobegcbnjlnifaaPI2
import Derived.Test.YtobegcbnjlnifaaPI3
namespace Go.Proofs.Ytobegcbnjlnifaa
open Go.RowKit
set_option linter.unusedVariables false
set_option linter.unusedSimpArgs false

set_option maxHeartbeats 8000000 in
theorem arithmeticUp2 (v x f : Int) (t : Bool) (w : World) (h0 : 0 ≤ v) (h1 : v < 65536) (x0 : 0 ≤ x) (x1 : x ≤ 1) :
    Calls Try.prog 108 #[.agg #[iv v, iv 16, iv x, iv f, .bool t]] w fun e w' => e = .returned (.agg #[iv (Pl.nv 0 2 x v), iv 16, iv (Pl.nx 0 2 x v), iv (Pl.fell 0 2 v), .bool (Pl.vfl 0 2 x v)]) ∧ Below w.heap.size w w' := by
  obtain ⟨b0, b1⟩ := Pl.hi_bd 2 v
  have E1 : Hid ((v * 2 % 65536) = Pl.nv 0 2 x v) := hide (by simp only [Pl.nv, Pl.inn, Pl.fell, Pl.top, Int.reduceMod, Int.reduceEq, Int.reduceLE, Int.reduceDiv, if_true, if_false, or_self, or_true, true_or, or_false, false_or] <;> omega)
  have E2 : Hid ((Pl.hi 2 v) = Pl.nx 0 2 x v) := hide (by simp only [Pl.nx, Pl.fell, Int.reduceMod, Int.reduceEq, if_true, if_false, or_self, or_true, true_or, or_false, false_or])
  have E3 : Hid ((Pl.hi 2 v) = Pl.fell 0 2 v) := hide (by simp only [Pl.fell, Int.reduceMod, Int.reduceEq, if_true, if_false])
  have E4 : Hid ((Pl.hi 2 (v * 2 % 65536) != Pl.hi 2 v) = Pl.vfl 0 2 x v) := hide (by rw [Pl.vfl, ← E1.out, Pl.bne_symm]; rfl)
  go_enter Try.func108, Try.ntmps108
  go_wp2_with (first | (go_at_call 116; refine (highest2 _ _ _ _ _ ?h0 ?h1).mono ?_; (case h0 => omega); (case h1 => omega); rintro e w' ⟨rfl, o6, rfl⟩) | (go_at_call 121; refine (lowest _ _ _ _ _ _).mono ?_; rintro e w' ⟨rfl, o6, rfl⟩) | (go_at_call 118; refine (moveUp2 _ _ _ _ _ _ ?h0 ?h1 ?h2 ?h3).mono ?_; (case h0 => omega); (case h1 => omega); (case h2 => omega); (case h3 => omega); rintro e w' ⟨rfl, o1, o2, o3, rfl⟩) | (go_at_call 119; refine (keepFallen _ _ _ _ _ _).mono ?_; rintro e w' ⟨rfl, o4, o5, rfl⟩))
  go_region_with (first | (go_at_call 116; refine (highest2 _ _ _ _ _ ?h0 ?h1).mono ?_; (case h0 => omega); (case h1 => omega); rintro e w' ⟨rfl, o6, rfl⟩) | (go_at_call 121; refine (lowest _ _ _ _ _ _).mono ?_; rintro e w' ⟨rfl, o6, rfl⟩) | (go_at_call 118; refine (moveUp2 _ _ _ _ _ _ ?h0 ?h1 ?h2 ?h3).mono ?_; (case h0 => omega); (case h1 => omega); (case h2 => omega); (case h3 => omega); rintro e w' ⟨rfl, o1, o2, o3, rfl⟩) | (go_at_call 119; refine (keepFallen _ _ _ _ _ _).mono ?_; rintro e w' ⟨rfl, o4, o5, rfl⟩))
  all_goals go_wp2_with fail
  all_goals
    refine bodyPost_ret (v := .agg #[iv (v * 2 % 65536), iv 16, iv (Pl.hi 2 v), iv (Pl.hi 2 v), .bool (Pl.hi 2 (v * 2 % 65536) != Pl.hi 2 v)]) ?_ rfl ⟨?_, ?_⟩
    · rw [results_cell1 rfl]; go_simp
    · exact rA E1.out rfl E2.out E3.out E4.out
    · (repeat' (first | with_reducible exact Below.refl _ _ | with_reducible refine Below.drew ?_ | with_reducible refine Below.alloc ?_ ?_ _ | (simp; done) | (simp; omega)))
set_option maxHeartbeats 8000000 in
theorem arithmeticDown2 (v x f : Int) (t : Bool) (w : World) (h0 : 0 ≤ v) (h1 : v < 65536) (x0 : 0 ≤ x) (x1 : x ≤ 1) :
    Calls Try.prog 109 #[.agg #[iv v, iv 16, iv x, iv f, .bool t]] w fun e w' => e = .returned (.agg #[iv (Pl.nv 1 2 x v), iv 16, iv (Pl.nx 1 2 x v), iv (Pl.fell 1 2 v), .bool t]) ∧ Below w.heap.size w w' := by
  obtain ⟨b0, b1⟩ := Pl.hi_bd 2 v
  have E1 : Hid ((v / 2 + Pl.hi 2 v * 32768) = Pl.nv 1 2 x v) := hide (by simp only [Pl.nv, Pl.inn, Pl.fell, Pl.top, Int.reduceMod, Int.reduceEq, Int.reduceLE, Int.reduceDiv, if_true, if_false, or_self, or_true, true_or, or_false, false_or] <;> omega)
  have E2 : Hid ((v % 2) = Pl.nx 1 2 x v) := hide (by simp only [Pl.nx, Pl.fell, Int.reduceMod, Int.reduceEq, if_true, if_false, or_self, or_true, true_or, or_false, false_or])
  have E3 : Hid ((v % 2) = Pl.fell 1 2 v) := hide (by simp only [Pl.fell, Int.reduceMod, Int.reduceEq, if_true, if_false])
  go_enter Try.func109, Try.ntmps109
  go_wp2_with (first | (go_at_call 116; refine (highest2 _ _ _ _ _ ?h0 ?h1).mono ?_; (case h0 => omega); (case h1 => omega); rintro e w' ⟨rfl, o6, rfl⟩) | (go_at_call 121; refine (lowest _ _ _ _ _ _).mono ?_; rintro e w' ⟨rfl, o6, rfl⟩) | (go_at_call 120; refine (moveDown2 _ _ _ _ _ _ ?h0 ?h1 ?h2 ?h3).mono ?_; (case h0 => omega); (case h1 => omega); (case h2 => omega); (case h3 => omega); rintro e w' ⟨rfl, o1, o2, o3, rfl⟩) | (go_at_call 119; refine (keepFallen _ _ _ _ _ _).mono ?_; rintro e w' ⟨rfl, o4, o5, rfl⟩))
  go_region_with (first | (go_at_call 116; refine (highest2 _ _ _ _ _ ?h0 ?h1).mono ?_; (case h0 => omega); (case h1 => omega); rintro e w' ⟨rfl, o6, rfl⟩) | (go_at_call 121; refine (lowest _ _ _ _ _ _).mono ?_; rintro e w' ⟨rfl, o6, rfl⟩) | (go_at_call 120; refine (moveDown2 _ _ _ _ _ _ ?h0 ?h1 ?h2 ?h3).mono ?_; (case h0 => omega); (case h1 => omega); (case h2 => omega); (case h3 => omega); rintro e w' ⟨rfl, o1, o2, o3, rfl⟩) | (go_at_call 119; refine (keepFallen _ _ _ _ _ _).mono ?_; rintro e w' ⟨rfl, o4, o5, rfl⟩))
  all_goals go_wp2_with fail
  all_goals
    refine bodyPost_ret (v := .agg #[iv (v / 2 + Pl.hi 2 v * 32768), iv 16, iv (v % 2), iv (v % 2), .bool t]) ?_ rfl ⟨?_, ?_⟩
    · rw [results_cell1 rfl]; go_simp
    · exact rA E1.out rfl E2.out E3.out rfl
    · (repeat' (first | with_reducible exact Below.refl _ _ | with_reducible refine Below.drew ?_ | with_reducible refine Below.alloc ?_ ?_ _ | (simp; done) | (simp; omega)))
set_option maxHeartbeats 8000000 in
theorem plainUp2 (v x f : Int) (t : Bool) (w : World) (h0 : 0 ≤ v) (h1 : v < 65536) (x0 : 0 ≤ x) (x1 : x ≤ 1) :
    Calls Try.prog 110 #[.agg #[iv v, iv 16, iv x, iv f, .bool t]] w fun e w' => e = .returned (.agg #[iv (Pl.nv 2 2 x v), iv 16, iv (Pl.nx 2 2 x v), iv (Pl.fell 2 2 v), .bool t]) ∧ Below w.heap.size w w' := by
  obtain ⟨b0, b1⟩ := Pl.hi_bd 2 v
  have E1 : Hid ((v * 2 % 65536) = Pl.nv 2 2 x v) := hide (by simp only [Pl.nv, Pl.inn, Pl.fell, Pl.top, Int.reduceMod, Int.reduceEq, Int.reduceLE, Int.reduceDiv, if_true, if_false, or_self, or_true, true_or, or_false, false_or] <;> omega)
  have E2 : Hid ((Pl.hi 2 v) = Pl.nx 2 2 x v) := hide (by simp only [Pl.nx, Pl.fell, Int.reduceMod, Int.reduceEq, if_true, if_false, or_self, or_true, true_or, or_false, false_or])
  have E3 : Hid ((Pl.hi 2 v) = Pl.fell 2 2 v) := hide (by simp only [Pl.fell, Int.reduceMod, Int.reduceEq, if_true, if_false])
  go_enter Try.func110, Try.ntmps110
  go_wp2_with (first | (go_at_call 116; refine (highest2 _ _ _ _ _ ?h0 ?h1).mono ?_; (case h0 => omega); (case h1 => omega); rintro e w' ⟨rfl, o6, rfl⟩) | (go_at_call 121; refine (lowest _ _ _ _ _ _).mono ?_; rintro e w' ⟨rfl, o6, rfl⟩) | (go_at_call 118; refine (moveUp2 _ _ _ _ _ _ ?h0 ?h1 ?h2 ?h3).mono ?_; (case h0 => omega); (case h1 => omega); (case h2 => omega); (case h3 => omega); rintro e w' ⟨rfl, o1, o2, o3, rfl⟩) | (go_at_call 119; refine (keepFallen _ _ _ _ _ _).mono ?_; rintro e w' ⟨rfl, o4, o5, rfl⟩))
  all_goals
    refine bodyPost_ret (v := .agg #[iv (v * 2 % 65536), iv 16, iv (Pl.hi 2 v), iv (Pl.hi 2 v), .bool t]) ?_ rfl ⟨?_, ?_⟩
    · rw [results_cell1 rfl]; go_simp
    · exact rA E1.out rfl E2.out E3.out rfl
    · (repeat' (first | with_reducible exact Below.refl _ _ | with_reducible refine Below.drew ?_ | with_reducible refine Below.alloc ?_ ?_ _ | (simp; done) | (simp; omega)))
set_option maxHeartbeats 8000000 in
theorem plainDown2 (v x f : Int) (t : Bool) (w : World) (h0 : 0 ≤ v) (h1 : v < 65536) (x0 : 0 ≤ x) (x1 : x ≤ 1) :
    Calls Try.prog 111 #[.agg #[iv v, iv 16, iv x, iv f, .bool t]] w fun e w' => e = .returned (.agg #[iv (Pl.nv 3 2 x v), iv 16, iv (Pl.nx 3 2 x v), iv (Pl.fell 3 2 v), .bool t]) ∧ Below w.heap.size w w' := by
  obtain ⟨b0, b1⟩ := Pl.hi_bd 2 v
  have E1 : Hid ((v / 2) = Pl.nv 3 2 x v) := hide (by simp only [Pl.nv, Pl.inn, Pl.fell, Pl.top, Int.reduceMod, Int.reduceEq, Int.reduceLE, Int.reduceDiv, if_true, if_false, or_self, or_true, true_or, or_false, false_or] <;> omega)
  have E2 : Hid ((v % 2) = Pl.nx 3 2 x v) := hide (by simp only [Pl.nx, Pl.fell, Int.reduceMod, Int.reduceEq, if_true, if_false, or_self, or_true, true_or, or_false, false_or])
  have E3 : Hid ((v % 2) = Pl.fell 3 2 v) := hide (by simp only [Pl.fell, Int.reduceMod, Int.reduceEq, if_true, if_false])
  go_enter Try.func111, Try.ntmps111
  go_wp2_with (first | (go_at_call 116; refine (highest2 _ _ _ _ _ ?h0 ?h1).mono ?_; (case h0 => omega); (case h1 => omega); rintro e w' ⟨rfl, o6, rfl⟩) | (go_at_call 121; refine (lowest _ _ _ _ _ _).mono ?_; rintro e w' ⟨rfl, o6, rfl⟩) | (go_at_call 120; refine (moveDown2 _ _ _ _ _ _ ?h0 ?h1 ?h2 ?h3).mono ?_; (case h0 => omega); (case h1 => omega); (case h2 => omega); (case h3 => omega); rintro e w' ⟨rfl, o1, o2, o3, rfl⟩) | (go_at_call 119; refine (keepFallen _ _ _ _ _ _).mono ?_; rintro e w' ⟨rfl, o4, o5, rfl⟩))
  all_goals
    refine bodyPost_ret (v := .agg #[iv (v / 2), iv 16, iv (v % 2), iv (v % 2), .bool t]) ?_ rfl ⟨?_, ?_⟩
    · rw [results_cell1 rfl]; go_simp
    · exact rA E1.out rfl E2.out E3.out rfl
    · (repeat' (first | with_reducible exact Below.refl _ _ | with_reducible refine Below.drew ?_ | with_reducible refine Below.alloc ?_ ?_ _ | (simp; done) | (simp; omega)))
set_option maxHeartbeats 8000000 in
theorem turnUp2 (v x f : Int) (t : Bool) (w : World) (h0 : 0 ≤ v) (h1 : v < 65536) (x0 : 0 ≤ x) (x1 : x ≤ 1) :
    Calls Try.prog 112 #[.agg #[iv v, iv 16, iv x, iv f, .bool t]] w fun e w' => e = .returned (.agg #[iv (Pl.nv 4 2 x v), iv 16, iv (Pl.nx 4 2 x v), iv (Pl.fell 4 2 v), .bool t]) ∧ Below w.heap.size w w' := by
  obtain ⟨b0, b1⟩ := Pl.hi_bd 2 v
  have E1 : Hid ((v * 2 % 65536 + Pl.hi 2 v) = Pl.nv 4 2 x v) := hide (by simp only [Pl.nv, Pl.inn, Pl.fell, Pl.top, Int.reduceMod, Int.reduceEq, Int.reduceLE, Int.reduceDiv, if_true, if_false, or_self, or_true, true_or, or_false, false_or] <;> omega)
  have E2 : Hid (x = Pl.nx 4 2 x v) := hide (by simp only [Pl.nx, Pl.fell, Int.reduceMod, Int.reduceEq, if_true, if_false, or_self, or_true, true_or, or_false, false_or])
  have E3 : Hid ((Pl.hi 2 v) = Pl.fell 4 2 v) := hide (by simp only [Pl.fell, Int.reduceMod, Int.reduceEq, if_true, if_false])
  go_enter Try.func112, Try.ntmps112
  go_wp2_with (first | (go_at_call 116; refine (highest2 _ _ _ _ _ ?h0 ?h1).mono ?_; (case h0 => omega); (case h1 => omega); rintro e w' ⟨rfl, o6, rfl⟩) | (go_at_call 121; refine (lowest _ _ _ _ _ _).mono ?_; rintro e w' ⟨rfl, o6, rfl⟩) | (go_at_call 118; refine (moveUp2 _ _ _ _ _ _ ?h0 ?h1 ?h2 ?h3).mono ?_; (case h0 => omega); (case h1 => omega); (case h2 => omega); (case h3 => omega); rintro e w' ⟨rfl, o1, o2, o3, rfl⟩) | (go_at_call 119; refine (keepFallen _ _ _ _ _ _).mono ?_; rintro e w' ⟨rfl, o4, o5, rfl⟩))
  go_region_with (first | (go_at_call 116; refine (highest2 _ _ _ _ _ ?h0 ?h1).mono ?_; (case h0 => omega); (case h1 => omega); rintro e w' ⟨rfl, o6, rfl⟩) | (go_at_call 121; refine (lowest _ _ _ _ _ _).mono ?_; rintro e w' ⟨rfl, o6, rfl⟩) | (go_at_call 118; refine (moveUp2 _ _ _ _ _ _ ?h0 ?h1 ?h2 ?h3).mono ?_; (case h0 => omega); (case h1 => omega); (case h2 => omega); (case h3 => omega); rintro e w' ⟨rfl, o1, o2, o3, rfl⟩) | (go_at_call 119; refine (keepFallen _ _ _ _ _ _).mono ?_; rintro e w' ⟨rfl, o4, o5, rfl⟩))
  all_goals go_wp2_with fail
  all_goals
    refine bodyPost_ret (v := .agg #[iv (v * 2 % 65536 + Pl.hi 2 v), iv 16, iv x, iv (Pl.hi 2 v), .bool t]) ?_ rfl ⟨?_, ?_⟩
    · rw [results_cell1 rfl]; go_simp
    · exact rA E1.out rfl E2.out E3.out rfl
    · (repeat' (first | with_reducible exact Below.refl _ _ | with_reducible refine Below.drew ?_ | with_reducible refine Below.alloc ?_ ?_ _ | (simp; done) | (simp; omega)))
set_option maxHeartbeats 8000000 in
theorem turnDown2 (v x f : Int) (t : Bool) (w : World) (h0 : 0 ≤ v) (h1 : v < 65536) (x0 : 0 ≤ x) (x1 : x ≤ 1) :
    Calls Try.prog 113 #[.agg #[iv v, iv 16, iv x, iv f, .bool t]] w fun e w' => e = .returned (.agg #[iv (Pl.nv 5 2 x v), iv 16, iv (Pl.nx 5 2 x v), iv (Pl.fell 5 2 v), .bool t]) ∧ Below w.heap.size w w' := by
  obtain ⟨b0, b1⟩ := Pl.hi_bd 2 v
  have E1 : Hid ((v / 2 + v % 2 * 32768) = Pl.nv 5 2 x v) := hide (by simp only [Pl.nv, Pl.inn, Pl.fell, Pl.top, Int.reduceMod, Int.reduceEq, Int.reduceLE, Int.reduceDiv, if_true, if_false, or_self, or_true, true_or, or_false, false_or] <;> omega)
  have E2 : Hid (x = Pl.nx 5 2 x v) := hide (by simp only [Pl.nx, Pl.fell, Int.reduceMod, Int.reduceEq, if_true, if_false, or_self, or_true, true_or, or_false, false_or])
  have E3 : Hid ((v % 2) = Pl.fell 5 2 v) := hide (by simp only [Pl.fell, Int.reduceMod, Int.reduceEq, if_true, if_false])
  go_enter Try.func113, Try.ntmps113
  go_wp2_with (first | (go_at_call 116; refine (highest2 _ _ _ _ _ ?h0 ?h1).mono ?_; (case h0 => omega); (case h1 => omega); rintro e w' ⟨rfl, o6, rfl⟩) | (go_at_call 121; refine (lowest _ _ _ _ _ _).mono ?_; rintro e w' ⟨rfl, o6, rfl⟩) | (go_at_call 120; refine (moveDown2 _ _ _ _ _ _ ?h0 ?h1 ?h2 ?h3).mono ?_; (case h0 => omega); (case h1 => omega); (case h2 => omega); (case h3 => omega); rintro e w' ⟨rfl, o1, o2, o3, rfl⟩) | (go_at_call 119; refine (keepFallen _ _ _ _ _ _).mono ?_; rintro e w' ⟨rfl, o4, o5, rfl⟩))
  go_region_with (first | (go_at_call 116; refine (highest2 _ _ _ _ _ ?h0 ?h1).mono ?_; (case h0 => omega); (case h1 => omega); rintro e w' ⟨rfl, o6, rfl⟩) | (go_at_call 121; refine (lowest _ _ _ _ _ _).mono ?_; rintro e w' ⟨rfl, o6, rfl⟩) | (go_at_call 120; refine (moveDown2 _ _ _ _ _ _ ?h0 ?h1 ?h2 ?h3).mono ?_; (case h0 => omega); (case h1 => omega); (case h2 => omega); (case h3 => omega); rintro e w' ⟨rfl, o1, o2, o3, rfl⟩) | (go_at_call 119; refine (keepFallen _ _ _ _ _ _).mono ?_; rintro e w' ⟨rfl, o4, o5, rfl⟩))
  all_goals go_wp2_with fail
  all_goals
    refine bodyPost_ret (v := .agg #[iv (v / 2 + v % 2 * 32768), iv 16, iv x, iv (v % 2), .bool t]) ?_ rfl ⟨?_, ?_⟩
    · rw [results_cell1 rfl]; go_simp
    · exact rA E1.out rfl E2.out E3.out rfl
    · (repeat' (first | with_reducible exact Below.refl _ _ | with_reducible refine Below.drew ?_ | with_reducible refine Below.alloc ?_ ?_ _ | (simp; done) | (simp; omega)))
set_option maxHeartbeats 8000000 in
theorem turnUpThroughExtend2 (v x f : Int) (t : Bool) (w : World) (h0 : 0 ≤ v) (h1 : v < 65536) (x0 : 0 ≤ x) (x1 : x ≤ 1) :
    Calls Try.prog 114 #[.agg #[iv v, iv 16, iv x, iv f, .bool t]] w fun e w' => e = .returned (.agg #[iv (Pl.nv 6 2 x v), iv 16, iv (Pl.nx 6 2 x v), iv (Pl.fell 6 2 v), .bool t]) ∧ Below w.heap.size w w' := by
  obtain ⟨b0, b1⟩ := Pl.hi_bd 2 v
  have E1 : Hid ((v * 2 % 65536 + x) = Pl.nv 6 2 x v) := hide (by simp only [Pl.nv, Pl.inn, Pl.fell, Pl.top, Int.reduceMod, Int.reduceEq, Int.reduceLE, Int.reduceDiv, if_true, if_false, or_self, or_true, true_or, or_false, false_or] <;> omega)
  have E2 : Hid ((Pl.hi 2 v) = Pl.nx 6 2 x v) := hide (by simp only [Pl.nx, Pl.fell, Int.reduceMod, Int.reduceEq, if_true, if_false, or_self, or_true, true_or, or_false, false_or])
  have E3 : Hid ((Pl.hi 2 v) = Pl.fell 6 2 v) := hide (by simp only [Pl.fell, Int.reduceMod, Int.reduceEq, if_true, if_false])
  go_enter Try.func114, Try.ntmps114
  go_wp2_with (first | (go_at_call 116; refine (highest2 _ _ _ _ _ ?h0 ?h1).mono ?_; (case h0 => omega); (case h1 => omega); rintro e w' ⟨rfl, o6, rfl⟩) | (go_at_call 121; refine (lowest _ _ _ _ _ _).mono ?_; rintro e w' ⟨rfl, o6, rfl⟩) | (go_at_call 118; refine (moveUp2 _ _ _ _ _ _ ?h0 ?h1 ?h2 ?h3).mono ?_; (case h0 => omega); (case h1 => omega); (case h2 => omega); (case h3 => omega); rintro e w' ⟨rfl, o1, o2, o3, rfl⟩) | (go_at_call 119; refine (keepFallen _ _ _ _ _ _).mono ?_; rintro e w' ⟨rfl, o4, o5, rfl⟩))
  all_goals
    refine bodyPost_ret (v := .agg #[iv (v * 2 % 65536 + x), iv 16, iv (Pl.hi 2 v), iv (Pl.hi 2 v), .bool t]) ?_ rfl ⟨?_, ?_⟩
    · rw [results_cell1 rfl]; go_simp
    · exact rA E1.out rfl E2.out E3.out rfl
    · (repeat' (first | with_reducible exact Below.refl _ _ | with_reducible refine Below.drew ?_ | with_reducible refine Below.alloc ?_ ?_ _ | (simp; done) | (simp; omega)))
set_option maxHeartbeats 8000000 in
theorem turnDownThroughExtend2 (v x f : Int) (t : Bool) (w : World) (h0 : 0 ≤ v) (h1 : v < 65536) (x0 : 0 ≤ x) (x1 : x ≤ 1) :
    Calls Try.prog 115 #[.agg #[iv v, iv 16, iv x, iv f, .bool t]] w fun e w' => e = .returned (.agg #[iv (Pl.nv 7 2 x v), iv 16, iv (Pl.nx 7 2 x v), iv (Pl.fell 7 2 v), .bool t]) ∧ Below w.heap.size w w' := by
  obtain ⟨b0, b1⟩ := Pl.hi_bd 2 v
  have E1 : Hid ((v / 2 + x * 32768) = Pl.nv 7 2 x v) := hide (by simp only [Pl.nv, Pl.inn, Pl.fell, Pl.top, Int.reduceMod, Int.reduceEq, Int.reduceLE, Int.reduceDiv, if_true, if_false, or_self, or_true, true_or, or_false, false_or] <;> omega)
  have E2 : Hid ((v % 2) = Pl.nx 7 2 x v) := hide (by simp only [Pl.nx, Pl.fell, Int.reduceMod, Int.reduceEq, if_true, if_false, or_self, or_true, true_or, or_false, false_or])
  have E3 : Hid ((v % 2) = Pl.fell 7 2 v) := hide (by simp only [Pl.fell, Int.reduceMod, Int.reduceEq, if_true, if_false])
  go_enter Try.func115, Try.ntmps115
  go_wp2_with (first | (go_at_call 116; refine (highest2 _ _ _ _ _ ?h0 ?h1).mono ?_; (case h0 => omega); (case h1 => omega); rintro e w' ⟨rfl, o6, rfl⟩) | (go_at_call 121; refine (lowest _ _ _ _ _ _).mono ?_; rintro e w' ⟨rfl, o6, rfl⟩) | (go_at_call 120; refine (moveDown2 _ _ _ _ _ _ ?h0 ?h1 ?h2 ?h3).mono ?_; (case h0 => omega); (case h1 => omega); (case h2 => omega); (case h3 => omega); rintro e w' ⟨rfl, o1, o2, o3, rfl⟩) | (go_at_call 119; refine (keepFallen _ _ _ _ _ _).mono ?_; rintro e w' ⟨rfl, o4, o5, rfl⟩))
  all_goals
    refine bodyPost_ret (v := .agg #[iv (v / 2 + x * 32768), iv 16, iv (v % 2), iv (v % 2), .bool t]) ?_ rfl ⟨?_, ?_⟩
    · rw [results_cell1 rfl]; go_simp
    · exact rA E1.out rfl E2.out E3.out rfl
    · (repeat' (first | with_reducible exact Below.refl _ _ | with_reducible refine Below.drew ?_ | with_reducible refine Below.alloc ?_ ?_ _ | (simp; done) | (simp; omega)))
end Go.Proofs.Ytobegcbnjlnifaa

namespace Go.Proofs.Ytobegcbnjlnifaa
open Go.RowKit
set_option linter.unusedVariables false
set_option linter.unusedSimpArgs false

theorem arithmeticUp (s v x f W : Int) (t : Bool) (w : World) (h : Pl.Fit s (v, x)) (hW : W = 8 * s) :
    Calls Try.prog 108 #[.agg #[iv v, iv W, iv x, iv f, .bool t]] w fun e w' => e = .returned (.agg #[iv (Pl.nv 0 s x v), iv W, iv (Pl.nx 0 s x v), iv (Pl.fell 0 s v), .bool (Pl.vfl 0 s x v)]) ∧ Below w.heap.size w w' := by
  obtain ⟨hs, v0, v1, x0, x1⟩ := h
  simp only at v0 v1 x0 x1
  subst hW
  rcases Pl.top12 hs with ⟨rfl, e⟩ | ⟨rfl, e⟩ <;> rw [e] at v1
  · exact arithmeticUp1 v x f t w v0 v1 x0 x1
  · exact arithmeticUp2 v x f t w v0 v1 x0 x1
theorem arithmeticDown (s v x f W : Int) (t : Bool) (w : World) (h : Pl.Fit s (v, x)) (hW : W = 8 * s) :
    Calls Try.prog 109 #[.agg #[iv v, iv W, iv x, iv f, .bool t]] w fun e w' => e = .returned (.agg #[iv (Pl.nv 1 s x v), iv W, iv (Pl.nx 1 s x v), iv (Pl.fell 1 s v), .bool t]) ∧ Below w.heap.size w w' := by
  obtain ⟨hs, v0, v1, x0, x1⟩ := h
  simp only at v0 v1 x0 x1
  subst hW
  rcases Pl.top12 hs with ⟨rfl, e⟩ | ⟨rfl, e⟩ <;> rw [e] at v1
  · exact arithmeticDown1 v x f t w v0 v1 x0 x1
  · exact arithmeticDown2 v x f t w v0 v1 x0 x1
theorem plainUp (s v x f W : Int) (t : Bool) (w : World) (h : Pl.Fit s (v, x)) (hW : W = 8 * s) :
    Calls Try.prog 110 #[.agg #[iv v, iv W, iv x, iv f, .bool t]] w fun e w' => e = .returned (.agg #[iv (Pl.nv 2 s x v), iv W, iv (Pl.nx 2 s x v), iv (Pl.fell 2 s v), .bool t]) ∧ Below w.heap.size w w' := by
  obtain ⟨hs, v0, v1, x0, x1⟩ := h
  simp only at v0 v1 x0 x1
  subst hW
  rcases Pl.top12 hs with ⟨rfl, e⟩ | ⟨rfl, e⟩ <;> rw [e] at v1
  · exact plainUp1 v x f t w v0 v1 x0 x1
  · exact plainUp2 v x f t w v0 v1 x0 x1
theorem plainDown (s v x f W : Int) (t : Bool) (w : World) (h : Pl.Fit s (v, x)) (hW : W = 8 * s) :
    Calls Try.prog 111 #[.agg #[iv v, iv W, iv x, iv f, .bool t]] w fun e w' => e = .returned (.agg #[iv (Pl.nv 3 s x v), iv W, iv (Pl.nx 3 s x v), iv (Pl.fell 3 s v), .bool t]) ∧ Below w.heap.size w w' := by
  obtain ⟨hs, v0, v1, x0, x1⟩ := h
  simp only at v0 v1 x0 x1
  subst hW
  rcases Pl.top12 hs with ⟨rfl, e⟩ | ⟨rfl, e⟩ <;> rw [e] at v1
  · exact plainDown1 v x f t w v0 v1 x0 x1
  · exact plainDown2 v x f t w v0 v1 x0 x1
theorem turnUp (s v x f W : Int) (t : Bool) (w : World) (h : Pl.Fit s (v, x)) (hW : W = 8 * s) :
    Calls Try.prog 112 #[.agg #[iv v, iv W, iv x, iv f, .bool t]] w fun e w' => e = .returned (.agg #[iv (Pl.nv 4 s x v), iv W, iv (Pl.nx 4 s x v), iv (Pl.fell 4 s v), .bool t]) ∧ Below w.heap.size w w' := by
  obtain ⟨hs, v0, v1, x0, x1⟩ := h
  simp only at v0 v1 x0 x1
  subst hW
  rcases Pl.top12 hs with ⟨rfl, e⟩ | ⟨rfl, e⟩ <;> rw [e] at v1
  · exact turnUp1 v x f t w v0 v1 x0 x1
  · exact turnUp2 v x f t w v0 v1 x0 x1
theorem turnDown (s v x f W : Int) (t : Bool) (w : World) (h : Pl.Fit s (v, x)) (hW : W = 8 * s) :
    Calls Try.prog 113 #[.agg #[iv v, iv W, iv x, iv f, .bool t]] w fun e w' => e = .returned (.agg #[iv (Pl.nv 5 s x v), iv W, iv (Pl.nx 5 s x v), iv (Pl.fell 5 s v), .bool t]) ∧ Below w.heap.size w w' := by
  obtain ⟨hs, v0, v1, x0, x1⟩ := h
  simp only at v0 v1 x0 x1
  subst hW
  rcases Pl.top12 hs with ⟨rfl, e⟩ | ⟨rfl, e⟩ <;> rw [e] at v1
  · exact turnDown1 v x f t w v0 v1 x0 x1
  · exact turnDown2 v x f t w v0 v1 x0 x1
theorem turnUpThroughExtend (s v x f W : Int) (t : Bool) (w : World) (h : Pl.Fit s (v, x)) (hW : W = 8 * s) :
    Calls Try.prog 114 #[.agg #[iv v, iv W, iv x, iv f, .bool t]] w fun e w' => e = .returned (.agg #[iv (Pl.nv 6 s x v), iv W, iv (Pl.nx 6 s x v), iv (Pl.fell 6 s v), .bool t]) ∧ Below w.heap.size w w' := by
  obtain ⟨hs, v0, v1, x0, x1⟩ := h
  simp only at v0 v1 x0 x1
  subst hW
  rcases Pl.top12 hs with ⟨rfl, e⟩ | ⟨rfl, e⟩ <;> rw [e] at v1
  · exact turnUpThroughExtend1 v x f t w v0 v1 x0 x1
  · exact turnUpThroughExtend2 v x f t w v0 v1 x0 x1
theorem turnDownThroughExtend (s v x f W : Int) (t : Bool) (w : World) (h : Pl.Fit s (v, x)) (hW : W = 8 * s) :
    Calls Try.prog 115 #[.agg #[iv v, iv W, iv x, iv f, .bool t]] w fun e w' => e = .returned (.agg #[iv (Pl.nv 7 s x v), iv W, iv (Pl.nx 7 s x v), iv (Pl.fell 7 s v), .bool t]) ∧ Below w.heap.size w w' := by
  obtain ⟨hs, v0, v1, x0, x1⟩ := h
  simp only at v0 v1 x0 x1
  subst hW
  rcases Pl.top12 hs with ⟨rfl, e⟩ | ⟨rfl, e⟩ <;> rw [e] at v1
  · exact turnDownThroughExtend1 v x f t w v0 v1 x0 x1
  · exact turnDownThroughExtend2 v x f t w v0 v1 x0 x1
set_option maxHeartbeats 4000000 in
theorem moved0 (s v x f W : Int) (t : Bool) (w : World) (h : Pl.Fit s (v, x)) (hW : W = 8 * s) :
    Calls Try.prog 92 #[.agg #[iv v, iv W, iv x, iv f, .bool t], iv 0] w fun e w' => e = .returned (.agg #[iv (Pl.nv 0 s x v), iv W, iv (Pl.nx 0 s x v), iv (Pl.fell 0 s v), .bool (Pl.vfl 0 s x v)]) ∧ Below w.heap.size w w' := by
  have hst := store_func
  have E4 : Hid (Pl.vfl 0 s x v = Pl.vfl 0 s x v) := hide (by rfl)
  have HF := hide h
  have HWW := hide hW
  clear h hW
  go_enter Try.func92, Try.ntmps92
  go_wp2_with fail
  clear hst
  obtain ⟨X, hX⟩ : ∃ X : World, X = (((w.alloc (.cells #[iv v, iv W, iv x, iv f, .bool t] 96)).alloc (.cells ftZ 96)).alloc (.cells #[.func (.func 108) #[] #[], .func (.func 109) #[] #[], .func (.func 110) #[] #[], .func (.func 111) #[] #[], .func (.func 112) #[] #[], .func (.func 113) #[] #[], .func (.func 114) #[] #[], .func (.func 115) #[] #[]] 106)) := ⟨_, rfl⟩
  rw [← hX]
  have B1 : Box X w.heap.size v W x f t := by rw [hX]; exact Box.new1 _ _ _ _ _ _ _ _
  have B2 : Box X (w.heap.size + 1) 0 0 0 0 false := by rw [hX]; exact Box.new2 _ _ _ _ _ _ _ _
  have hF : X.cell? ⟨w.heap.size + 1 + 1, 0, none⟩ = some (.func (.func 108) #[] #[]) := by rw [hX]; go_simp
  have HX : Hid (Below w.heap.size w X) := hide (by rw [hX]; exact (((Below.refl _ _).alloc (by simp) _).alloc (by simp) _).alloc (by simp <;> omega) _)
  clear hX
  obtain ⟨a0, a1, a2, a3, a4, _, _, _, _, _⟩ := B1.cells
  have HB2 := hide B2
  clear B1 B2
  go_region_with (go_at_call 108; refine (arithmeticUp s v x f W t _ HF.out HWW.out).mono ?_; rintro e wt ⟨rfl, hb0⟩; have hb := undrew hb0; clear hb0; have HBt := hide (HB2.out.later hb); obtain ⟨c0, c1, c2, c3, c4, g0, g1, g2, g3, g4⟩ := HBt.out.cells; have HB := hide hb; clear hb a0 a1 a2 a3 a4 hF)
  all_goals
    go_wp2_with fail
    refine bodyPost_ret (v := .agg #[iv (Pl.nv 0 s x v), iv W, iv (Pl.nx 0 s x v), iv (Pl.fell 0 s v), .bool (Pl.vfl 0 s x v)]) ?_ rfl ⟨?_, ?_⟩
    · exact results_box rfl _ rfl (HBt.out.set)
    · exact rA rfl rfl rfl rfl rfl
    · exact (((((HX.out.trans (HB.out.mono HX.out.size)).setCell (by simp) _).setCell (by simp) _).setCell (by simp) _).setCell (by simp) _).setCell (by simp) _
set_option maxHeartbeats 4000000 in
theorem moved1 (s v x f W : Int) (w : World) (h : Pl.Fit s (v, x)) (hW : W = 8 * s) :
    Calls Try.prog 92 #[.agg #[iv v, iv W, iv x, iv f, .bool false], iv 1] w fun e w' => e = .returned (.agg #[iv (Pl.nv 1 s x v), iv W, iv (Pl.nx 1 s x v), iv (Pl.fell 1 s v), .bool (Pl.vfl 1 s x v)]) ∧ Below w.heap.size w w' := by
  have hst := store_func
  have E4 : Hid (false = Pl.vfl 1 s x v) := hide (by simp [Pl.vfl])
  have HF := hide h
  have HWW := hide hW
  clear h hW
  go_enter Try.func92, Try.ntmps92
  go_wp2_with fail
  clear hst
  obtain ⟨X, hX⟩ : ∃ X : World, X = (((w.alloc (.cells #[iv v, iv W, iv x, iv f, .bool false] 96)).alloc (.cells ftZ 96)).alloc (.cells #[.func (.func 108) #[] #[], .func (.func 109) #[] #[], .func (.func 110) #[] #[], .func (.func 111) #[] #[], .func (.func 112) #[] #[], .func (.func 113) #[] #[], .func (.func 114) #[] #[], .func (.func 115) #[] #[]] 106)) := ⟨_, rfl⟩
  rw [← hX]
  have B1 : Box X w.heap.size v W x f false := by rw [hX]; exact Box.new1 _ _ _ _ _ _ _ _
  have B2 : Box X (w.heap.size + 1) 0 0 0 0 false := by rw [hX]; exact Box.new2 _ _ _ _ _ _ _ _
  have hF : X.cell? ⟨w.heap.size + 1 + 1, 1, none⟩ = some (.func (.func 109) #[] #[]) := by rw [hX]; go_simp
  have HX : Hid (Below w.heap.size w X) := hide (by rw [hX]; exact (((Below.refl _ _).alloc (by simp) _).alloc (by simp) _).alloc (by simp <;> omega) _)
  clear hX
  obtain ⟨a0, a1, a2, a3, a4, _, _, _, _, _⟩ := B1.cells
  have HB2 := hide B2
  clear B1 B2
  go_region_with (go_at_call 109; refine (arithmeticDown s v x f W false _ HF.out HWW.out).mono ?_; rintro e wt ⟨rfl, hb0⟩; have hb := undrew hb0; clear hb0; have HBt := hide (HB2.out.later hb); obtain ⟨c0, c1, c2, c3, c4, g0, g1, g2, g3, g4⟩ := HBt.out.cells; have HB := hide hb; clear hb a0 a1 a2 a3 a4 hF)
  all_goals
    go_wp2_with fail
    refine bodyPost_ret (v := .agg #[iv (Pl.nv 1 s x v), iv W, iv (Pl.nx 1 s x v), iv (Pl.fell 1 s v), .bool false]) ?_ rfl ⟨?_, ?_⟩
    · exact results_box rfl _ rfl (HBt.out.set)
    · exact rA rfl rfl rfl rfl E4.out
    · exact (((((HX.out.trans (HB.out.mono HX.out.size)).setCell (by simp) _).setCell (by simp) _).setCell (by simp) _).setCell (by simp) _).setCell (by simp) _
set_option maxHeartbeats 4000000 in
theorem moved2 (s v x f W : Int) (w : World) (h : Pl.Fit s (v, x)) (hW : W = 8 * s) :
    Calls Try.prog 92 #[.agg #[iv v, iv W, iv x, iv f, .bool false], iv 2] w fun e w' => e = .returned (.agg #[iv (Pl.nv 2 s x v), iv W, iv (Pl.nx 2 s x v), iv (Pl.fell 2 s v), .bool (Pl.vfl 2 s x v)]) ∧ Below w.heap.size w w' := by
  have hst := store_func
  have E4 : Hid (false = Pl.vfl 2 s x v) := hide (by simp [Pl.vfl])
  have HF := hide h
  have HWW := hide hW
  clear h hW
  go_enter Try.func92, Try.ntmps92
  go_wp2_with fail
  clear hst
  obtain ⟨X, hX⟩ : ∃ X : World, X = (((w.alloc (.cells #[iv v, iv W, iv x, iv f, .bool false] 96)).alloc (.cells ftZ 96)).alloc (.cells #[.func (.func 108) #[] #[], .func (.func 109) #[] #[], .func (.func 110) #[] #[], .func (.func 111) #[] #[], .func (.func 112) #[] #[], .func (.func 113) #[] #[], .func (.func 114) #[] #[], .func (.func 115) #[] #[]] 106)) := ⟨_, rfl⟩
  rw [← hX]
  have B1 : Box X w.heap.size v W x f false := by rw [hX]; exact Box.new1 _ _ _ _ _ _ _ _
  have B2 : Box X (w.heap.size + 1) 0 0 0 0 false := by rw [hX]; exact Box.new2 _ _ _ _ _ _ _ _
  have hF : X.cell? ⟨w.heap.size + 1 + 1, 2, none⟩ = some (.func (.func 110) #[] #[]) := by rw [hX]; go_simp
  have HX : Hid (Below w.heap.size w X) := hide (by rw [hX]; exact (((Below.refl _ _).alloc (by simp) _).alloc (by simp) _).alloc (by simp <;> omega) _)
  clear hX
  obtain ⟨a0, a1, a2, a3, a4, _, _, _, _, _⟩ := B1.cells
  have HB2 := hide B2
  clear B1 B2
  go_region_with (go_at_call 110; refine (plainUp s v x f W false _ HF.out HWW.out).mono ?_; rintro e wt ⟨rfl, hb0⟩; have hb := undrew hb0; clear hb0; have HBt := hide (HB2.out.later hb); obtain ⟨c0, c1, c2, c3, c4, g0, g1, g2, g3, g4⟩ := HBt.out.cells; have HB := hide hb; clear hb a0 a1 a2 a3 a4 hF)
  all_goals
    go_wp2_with fail
    refine bodyPost_ret (v := .agg #[iv (Pl.nv 2 s x v), iv W, iv (Pl.nx 2 s x v), iv (Pl.fell 2 s v), .bool false]) ?_ rfl ⟨?_, ?_⟩
    · exact results_box rfl _ rfl (HBt.out.set)
    · exact rA rfl rfl rfl rfl E4.out
    · exact (((((HX.out.trans (HB.out.mono HX.out.size)).setCell (by simp) _).setCell (by simp) _).setCell (by simp) _).setCell (by simp) _).setCell (by simp) _
set_option maxHeartbeats 4000000 in
theorem moved3 (s v x f W : Int) (w : World) (h : Pl.Fit s (v, x)) (hW : W = 8 * s) :
    Calls Try.prog 92 #[.agg #[iv v, iv W, iv x, iv f, .bool false], iv 3] w fun e w' => e = .returned (.agg #[iv (Pl.nv 3 s x v), iv W, iv (Pl.nx 3 s x v), iv (Pl.fell 3 s v), .bool (Pl.vfl 3 s x v)]) ∧ Below w.heap.size w w' := by
  have hst := store_func
  have E4 : Hid (false = Pl.vfl 3 s x v) := hide (by simp [Pl.vfl])
  have HF := hide h
  have HWW := hide hW
  clear h hW
  go_enter Try.func92, Try.ntmps92
  go_wp2_with fail
  clear hst
  obtain ⟨X, hX⟩ : ∃ X : World, X = (((w.alloc (.cells #[iv v, iv W, iv x, iv f, .bool false] 96)).alloc (.cells ftZ 96)).alloc (.cells #[.func (.func 108) #[] #[], .func (.func 109) #[] #[], .func (.func 110) #[] #[], .func (.func 111) #[] #[], .func (.func 112) #[] #[], .func (.func 113) #[] #[], .func (.func 114) #[] #[], .func (.func 115) #[] #[]] 106)) := ⟨_, rfl⟩
  rw [← hX]
  have B1 : Box X w.heap.size v W x f false := by rw [hX]; exact Box.new1 _ _ _ _ _ _ _ _
  have B2 : Box X (w.heap.size + 1) 0 0 0 0 false := by rw [hX]; exact Box.new2 _ _ _ _ _ _ _ _
  have hF : X.cell? ⟨w.heap.size + 1 + 1, 3, none⟩ = some (.func (.func 111) #[] #[]) := by rw [hX]; go_simp
  have HX : Hid (Below w.heap.size w X) := hide (by rw [hX]; exact (((Below.refl _ _).alloc (by simp) _).alloc (by simp) _).alloc (by simp <;> omega) _)
  clear hX
  obtain ⟨a0, a1, a2, a3, a4, _, _, _, _, _⟩ := B1.cells
  have HB2 := hide B2
  clear B1 B2
  go_region_with (go_at_call 111; refine (plainDown s v x f W false _ HF.out HWW.out).mono ?_; rintro e wt ⟨rfl, hb0⟩; have hb := undrew hb0; clear hb0; have HBt := hide (HB2.out.later hb); obtain ⟨c0, c1, c2, c3, c4, g0, g1, g2, g3, g4⟩ := HBt.out.cells; have HB := hide hb; clear hb a0 a1 a2 a3 a4 hF)
  all_goals
    go_wp2_with fail
    refine bodyPost_ret (v := .agg #[iv (Pl.nv 3 s x v), iv W, iv (Pl.nx 3 s x v), iv (Pl.fell 3 s v), .bool false]) ?_ rfl ⟨?_, ?_⟩
    · exact results_box rfl _ rfl (HBt.out.set)
    · exact rA rfl rfl rfl rfl E4.out
    · exact (((((HX.out.trans (HB.out.mono HX.out.size)).setCell (by simp) _).setCell (by simp) _).setCell (by simp) _).setCell (by simp) _).setCell (by simp) _
set_option maxHeartbeats 4000000 in
theorem moved4 (s v x f W : Int) (w : World) (h : Pl.Fit s (v, x)) (hW : W = 8 * s) :
    Calls Try.prog 92 #[.agg #[iv v, iv W, iv x, iv f, .bool false], iv 4] w fun e w' => e = .returned (.agg #[iv (Pl.nv 4 s x v), iv W, iv (Pl.nx 4 s x v), iv (Pl.fell 4 s v), .bool (Pl.vfl 4 s x v)]) ∧ Below w.heap.size w w' := by
  have hst := store_func
  have E4 : Hid (false = Pl.vfl 4 s x v) := hide (by simp [Pl.vfl])
  have HF := hide h
  have HWW := hide hW
  clear h hW
  go_enter Try.func92, Try.ntmps92
  go_wp2_with fail
  clear hst
  obtain ⟨X, hX⟩ : ∃ X : World, X = (((w.alloc (.cells #[iv v, iv W, iv x, iv f, .bool false] 96)).alloc (.cells ftZ 96)).alloc (.cells #[.func (.func 108) #[] #[], .func (.func 109) #[] #[], .func (.func 110) #[] #[], .func (.func 111) #[] #[], .func (.func 112) #[] #[], .func (.func 113) #[] #[], .func (.func 114) #[] #[], .func (.func 115) #[] #[]] 106)) := ⟨_, rfl⟩
  rw [← hX]
  have B1 : Box X w.heap.size v W x f false := by rw [hX]; exact Box.new1 _ _ _ _ _ _ _ _
  have B2 : Box X (w.heap.size + 1) 0 0 0 0 false := by rw [hX]; exact Box.new2 _ _ _ _ _ _ _ _
  have hF : X.cell? ⟨w.heap.size + 1 + 1, 4, none⟩ = some (.func (.func 112) #[] #[]) := by rw [hX]; go_simp
  have HX : Hid (Below w.heap.size w X) := hide (by rw [hX]; exact (((Below.refl _ _).alloc (by simp) _).alloc (by simp) _).alloc (by simp <;> omega) _)
  clear hX
  obtain ⟨a0, a1, a2, a3, a4, _, _, _, _, _⟩ := B1.cells
  have HB2 := hide B2
  clear B1 B2
  go_region_with (go_at_call 112; refine (turnUp s v x f W false _ HF.out HWW.out).mono ?_; rintro e wt ⟨rfl, hb0⟩; have hb := undrew hb0; clear hb0; have HBt := hide (HB2.out.later hb); obtain ⟨c0, c1, c2, c3, c4, g0, g1, g2, g3, g4⟩ := HBt.out.cells; have HB := hide hb; clear hb a0 a1 a2 a3 a4 hF)
  all_goals
    go_wp2_with fail
    refine bodyPost_ret (v := .agg #[iv (Pl.nv 4 s x v), iv W, iv (Pl.nx 4 s x v), iv (Pl.fell 4 s v), .bool false]) ?_ rfl ⟨?_, ?_⟩
    · exact results_box rfl _ rfl (HBt.out.set)
    · exact rA rfl rfl rfl rfl E4.out
    · exact (((((HX.out.trans (HB.out.mono HX.out.size)).setCell (by simp) _).setCell (by simp) _).setCell (by simp) _).setCell (by simp) _).setCell (by simp) _
set_option maxHeartbeats 4000000 in
theorem moved5 (s v x f W : Int) (w : World) (h : Pl.Fit s (v, x)) (hW : W = 8 * s) :
    Calls Try.prog 92 #[.agg #[iv v, iv W, iv x, iv f, .bool false], iv 5] w fun e w' => e = .returned (.agg #[iv (Pl.nv 5 s x v), iv W, iv (Pl.nx 5 s x v), iv (Pl.fell 5 s v), .bool (Pl.vfl 5 s x v)]) ∧ Below w.heap.size w w' := by
  have hst := store_func
  have E4 : Hid (false = Pl.vfl 5 s x v) := hide (by simp [Pl.vfl])
  have HF := hide h
  have HWW := hide hW
  clear h hW
  go_enter Try.func92, Try.ntmps92
  go_wp2_with fail
  clear hst
  obtain ⟨X, hX⟩ : ∃ X : World, X = (((w.alloc (.cells #[iv v, iv W, iv x, iv f, .bool false] 96)).alloc (.cells ftZ 96)).alloc (.cells #[.func (.func 108) #[] #[], .func (.func 109) #[] #[], .func (.func 110) #[] #[], .func (.func 111) #[] #[], .func (.func 112) #[] #[], .func (.func 113) #[] #[], .func (.func 114) #[] #[], .func (.func 115) #[] #[]] 106)) := ⟨_, rfl⟩
  rw [← hX]
  have B1 : Box X w.heap.size v W x f false := by rw [hX]; exact Box.new1 _ _ _ _ _ _ _ _
  have B2 : Box X (w.heap.size + 1) 0 0 0 0 false := by rw [hX]; exact Box.new2 _ _ _ _ _ _ _ _
  have hF : X.cell? ⟨w.heap.size + 1 + 1, 5, none⟩ = some (.func (.func 113) #[] #[]) := by rw [hX]; go_simp
  have HX : Hid (Below w.heap.size w X) := hide (by rw [hX]; exact (((Below.refl _ _).alloc (by simp) _).alloc (by simp) _).alloc (by simp <;> omega) _)
  clear hX
  obtain ⟨a0, a1, a2, a3, a4, _, _, _, _, _⟩ := B1.cells
  have HB2 := hide B2
  clear B1 B2
  go_region_with (go_at_call 113; refine (turnDown s v x f W false _ HF.out HWW.out).mono ?_; rintro e wt ⟨rfl, hb0⟩; have hb := undrew hb0; clear hb0; have HBt := hide (HB2.out.later hb); obtain ⟨c0, c1, c2, c3, c4, g0, g1, g2, g3, g4⟩ := HBt.out.cells; have HB := hide hb; clear hb a0 a1 a2 a3 a4 hF)
  all_goals
    go_wp2_with fail
    refine bodyPost_ret (v := .agg #[iv (Pl.nv 5 s x v), iv W, iv (Pl.nx 5 s x v), iv (Pl.fell 5 s v), .bool false]) ?_ rfl ⟨?_, ?_⟩
    · exact results_box rfl _ rfl (HBt.out.set)
    · exact rA rfl rfl rfl rfl E4.out
    · exact (((((HX.out.trans (HB.out.mono HX.out.size)).setCell (by simp) _).setCell (by simp) _).setCell (by simp) _).setCell (by simp) _).setCell (by simp) _
set_option maxHeartbeats 4000000 in
theorem moved6 (s v x f W : Int) (w : World) (h : Pl.Fit s (v, x)) (hW : W = 8 * s) :
    Calls Try.prog 92 #[.agg #[iv v, iv W, iv x, iv f, .bool false], iv 6] w fun e w' => e = .returned (.agg #[iv (Pl.nv 6 s x v), iv W, iv (Pl.nx 6 s x v), iv (Pl.fell 6 s v), .bool (Pl.vfl 6 s x v)]) ∧ Below w.heap.size w w' := by
  have hst := store_func
  have E4 : Hid (false = Pl.vfl 6 s x v) := hide (by simp [Pl.vfl])
  have HF := hide h
  have HWW := hide hW
  clear h hW
  go_enter Try.func92, Try.ntmps92
  go_wp2_with fail
  clear hst
  obtain ⟨X, hX⟩ : ∃ X : World, X = (((w.alloc (.cells #[iv v, iv W, iv x, iv f, .bool false] 96)).alloc (.cells ftZ 96)).alloc (.cells #[.func (.func 108) #[] #[], .func (.func 109) #[] #[], .func (.func 110) #[] #[], .func (.func 111) #[] #[], .func (.func 112) #[] #[], .func (.func 113) #[] #[], .func (.func 114) #[] #[], .func (.func 115) #[] #[]] 106)) := ⟨_, rfl⟩
  rw [← hX]
  have B1 : Box X w.heap.size v W x f false := by rw [hX]; exact Box.new1 _ _ _ _ _ _ _ _
  have B2 : Box X (w.heap.size + 1) 0 0 0 0 false := by rw [hX]; exact Box.new2 _ _ _ _ _ _ _ _
  have hF : X.cell? ⟨w.heap.size + 1 + 1, 6, none⟩ = some (.func (.func 114) #[] #[]) := by rw [hX]; go_simp
  have HX : Hid (Below w.heap.size w X) := hide (by rw [hX]; exact (((Below.refl _ _).alloc (by simp) _).alloc (by simp) _).alloc (by simp <;> omega) _)
  clear hX
  obtain ⟨a0, a1, a2, a3, a4, _, _, _, _, _⟩ := B1.cells
  have HB2 := hide B2
  clear B1 B2
  go_region_with (go_at_call 114; refine (turnUpThroughExtend s v x f W false _ HF.out HWW.out).mono ?_; rintro e wt ⟨rfl, hb0⟩; have hb := undrew hb0; clear hb0; have HBt := hide (HB2.out.later hb); obtain ⟨c0, c1, c2, c3, c4, g0, g1, g2, g3, g4⟩ := HBt.out.cells; have HB := hide hb; clear hb a0 a1 a2 a3 a4 hF)
  all_goals
    go_wp2_with fail
    refine bodyPost_ret (v := .agg #[iv (Pl.nv 6 s x v), iv W, iv (Pl.nx 6 s x v), iv (Pl.fell 6 s v), .bool false]) ?_ rfl ⟨?_, ?_⟩
    · exact results_box rfl _ rfl (HBt.out.set)
    · exact rA rfl rfl rfl rfl E4.out
    · exact (((((HX.out.trans (HB.out.mono HX.out.size)).setCell (by simp) _).setCell (by simp) _).setCell (by simp) _).setCell (by simp) _).setCell (by simp) _
set_option maxHeartbeats 4000000 in
theorem moved7 (s v x f W : Int) (w : World) (h : Pl.Fit s (v, x)) (hW : W = 8 * s) :
    Calls Try.prog 92 #[.agg #[iv v, iv W, iv x, iv f, .bool false], iv 7] w fun e w' => e = .returned (.agg #[iv (Pl.nv 7 s x v), iv W, iv (Pl.nx 7 s x v), iv (Pl.fell 7 s v), .bool (Pl.vfl 7 s x v)]) ∧ Below w.heap.size w w' := by
  have hst := store_func
  have E4 : Hid (false = Pl.vfl 7 s x v) := hide (by simp [Pl.vfl])
  have HF := hide h
  have HWW := hide hW
  clear h hW
  go_enter Try.func92, Try.ntmps92
  go_wp2_with fail
  clear hst
  obtain ⟨X, hX⟩ : ∃ X : World, X = (((w.alloc (.cells #[iv v, iv W, iv x, iv f, .bool false] 96)).alloc (.cells ftZ 96)).alloc (.cells #[.func (.func 108) #[] #[], .func (.func 109) #[] #[], .func (.func 110) #[] #[], .func (.func 111) #[] #[], .func (.func 112) #[] #[], .func (.func 113) #[] #[], .func (.func 114) #[] #[], .func (.func 115) #[] #[]] 106)) := ⟨_, rfl⟩
  rw [← hX]
  have B1 : Box X w.heap.size v W x f false := by rw [hX]; exact Box.new1 _ _ _ _ _ _ _ _
  have B2 : Box X (w.heap.size + 1) 0 0 0 0 false := by rw [hX]; exact Box.new2 _ _ _ _ _ _ _ _
  have hF : X.cell? ⟨w.heap.size + 1 + 1, 7, none⟩ = some (.func (.func 115) #[] #[]) := by rw [hX]; go_simp
  have HX : Hid (Below w.heap.size w X) := hide (by rw [hX]; exact (((Below.refl _ _).alloc (by simp) _).alloc (by simp) _).alloc (by simp <;> omega) _)
  clear hX
  obtain ⟨a0, a1, a2, a3, a4, _, _, _, _, _⟩ := B1.cells
  have HB2 := hide B2
  clear B1 B2
  go_region_with (go_at_call 115; refine (turnDownThroughExtend s v x f W false _ HF.out HWW.out).mono ?_; rintro e wt ⟨rfl, hb0⟩; have hb := undrew hb0; clear hb0; have HBt := hide (HB2.out.later hb); obtain ⟨c0, c1, c2, c3, c4, g0, g1, g2, g3, g4⟩ := HBt.out.cells; have HB := hide hb; clear hb a0 a1 a2 a3 a4 hF)
  all_goals
    go_wp2_with fail
    refine bodyPost_ret (v := .agg #[iv (Pl.nv 7 s x v), iv W, iv (Pl.nx 7 s x v), iv (Pl.fell 7 s v), .bool false]) ?_ rfl ⟨?_, ?_⟩
    · exact results_box rfl _ rfl (HBt.out.set)
    · exact rA rfl rfl rfl rfl E4.out
    · exact (((((HX.out.trans (HB.out.mono HX.out.size)).setCell (by simp) _).setCell (by simp) _).setCell (by simp) _).setCell (by simp) _).setCell (by simp) _

/-- one place, of whatever kind and size -/
theorem moved (k s v x f W : Int) (t : Bool) (w : World) (k0 : 0 ≤ k) (k1 : k ≤ 7) (h : Pl.Fit s (v, x)) (hW : W = 8 * s) (ht : k = 0 ∨ t = false) :
    Calls Try.prog 92 #[.agg #[iv v, iv W, iv x, iv f, .bool t], iv k] w fun e w' => e = .returned (.agg #[iv (Pl.nv k s x v), iv W, iv (Pl.nx k s x v), iv (Pl.fell k s v), .bool (Pl.vfl k s x v)]) ∧ Below w.heap.size w w' := by
  have hk : k = 0 ∨ k = 1 ∨ k = 2 ∨ k = 3 ∨ k = 4 ∨ k = 5 ∨ k = 6 ∨ k = 7 := by omega
  rcases hk with rfl | rfl | rfl | rfl | rfl | rfl | rfl | rfl
  · exact moved0 s v x f W t w h hW
  · obtain rfl : t = false := ht.resolve_left (by decide)
    exact moved1 s v x f W w h hW
  · obtain rfl : t = false := ht.resolve_left (by decide)
    exact moved2 s v x f W w h hW
  · obtain rfl : t = false := ht.resolve_left (by decide)
    exact moved3 s v x f W w h hW
  · obtain rfl : t = false := ht.resolve_left (by decide)
    exact moved4 s v x f W w h hW
  · obtain rfl : t = false := ht.resolve_left (by decide)
    exact moved5 s v x f W w h hW
  · obtain rfl : t = false := ht.resolve_left (by decide)
    exact moved6 s v x f W w h hW
  · obtain rfl : t = false := ht.resolve_left (by decide)
    exact moved7 s v x f W w h hW
end Go.Proofs.Ytobegcbnjlnifaa

