/- What the program's moves of each kind answer at size 2: each makes new blocks and changes none that was there. -/
import Derived.Test.YtnmddmmmgdfknaaEJ2
namespace Go.Proofs.Ytnmddmmmgdfknaa
open Go.RowKit
set_option linter.unusedVariables false
set_option linter.unusedSimpArgs false

set_option maxHeartbeats 8000000 in
theorem arithmeticUp2 (v x f : Int) (t : Bool) (w : World) (h0 : 0 ≤ v) (h1 : v < 65536) (x0 : 0 ≤ x) (x1 : x ≤ 1) :
    Calls Try.prog 98 #[.agg #[iv v, iv 16, iv x, iv f, .bool t]] w fun e w' => e = .returned (.agg #[iv (Pl.nv 0 2 x v), iv 16, iv (Pl.nx 0 2 x v), iv (Pl.fell 0 2 v), .bool (Pl.vfl 0 2 x v)]) ∧ Below w.heap.size w w' := by
  obtain ⟨b0, b1⟩ := Pl.hi_bd 2 v
  have E1 : Hid ((v * 2 % 65536) = Pl.nv 0 2 x v) := hide (by simp only [Pl.nv, Pl.inn, Pl.fell, Pl.top, Int.reduceMod, Int.reduceEq, Int.reduceLE, Int.reduceDiv, if_true, if_false, or_self, or_true, true_or, or_false, false_or] <;> omega)
  have E2 : Hid ((Pl.hi 2 v) = Pl.nx 0 2 x v) := hide (by simp only [Pl.nx, Pl.fell, Int.reduceMod, Int.reduceEq, if_true, if_false, or_self, or_true, true_or, or_false, false_or])
  have E3 : Hid ((Pl.hi 2 v) = Pl.fell 0 2 v) := hide (by simp only [Pl.fell, Int.reduceMod, Int.reduceEq, if_true, if_false])
  have E4 : Hid ((Pl.hi 2 (v * 2 % 65536) != Pl.hi 2 v) = Pl.vfl 0 2 x v) := hide (by rw [Pl.vfl, ← E1.out, Pl.bne_symm]; rfl)
  go_enter Try.func98, Try.ntmps98
  go_wp2_with (first | (go_at_call 106; refine (highest2 _ _ _ _ _ ?h0 ?h1).mono ?_; (case h0 => omega); (case h1 => omega); rintro e w' ⟨rfl, o6, rfl⟩) | (go_at_call 137; refine (lowest _ _ _ _ _ _).mono ?_; rintro e w' ⟨rfl, o6, rfl⟩) | (go_at_call 134; refine (moveUp2 _ _ _ _ _ _ ?h0 ?h1 ?h2 ?h3).mono ?_; (case h0 => omega); (case h1 => omega); (case h2 => omega); (case h3 => omega); rintro e w' ⟨rfl, o1, o2, o3, rfl⟩) | (go_at_call 135; refine (keepFallen _ _ _ _ _ _).mono ?_; rintro e w' ⟨rfl, o4, o5, rfl⟩))
  go_region_with (first | (go_at_call 106; refine (highest2 _ _ _ _ _ ?h0 ?h1).mono ?_; (case h0 => omega); (case h1 => omega); rintro e w' ⟨rfl, o6, rfl⟩) | (go_at_call 137; refine (lowest _ _ _ _ _ _).mono ?_; rintro e w' ⟨rfl, o6, rfl⟩) | (go_at_call 134; refine (moveUp2 _ _ _ _ _ _ ?h0 ?h1 ?h2 ?h3).mono ?_; (case h0 => omega); (case h1 => omega); (case h2 => omega); (case h3 => omega); rintro e w' ⟨rfl, o1, o2, o3, rfl⟩) | (go_at_call 135; refine (keepFallen _ _ _ _ _ _).mono ?_; rintro e w' ⟨rfl, o4, o5, rfl⟩))
  all_goals go_wp2_with fail
  all_goals
    refine bodyPost_ret (v := .agg #[iv (v * 2 % 65536), iv 16, iv (Pl.hi 2 v), iv (Pl.hi 2 v), .bool (Pl.hi 2 (v * 2 % 65536) != Pl.hi 2 v)]) ?_ rfl ⟨?_, ?_⟩
    · rw [results_cell1 rfl]; go_simp
    · exact rA E1.out rfl E2.out E3.out E4.out
    · (repeat' (first | with_reducible exact Below.refl _ _ | with_reducible refine Below.drew ?_ | with_reducible refine Below.alloc ?_ ?_ _ | (simp; done) | (simp; omega)))
set_option maxHeartbeats 8000000 in
theorem arithmeticDown2 (v x f : Int) (t : Bool) (w : World) (h0 : 0 ≤ v) (h1 : v < 65536) (x0 : 0 ≤ x) (x1 : x ≤ 1) :
    Calls Try.prog 99 #[.agg #[iv v, iv 16, iv x, iv f, .bool t]] w fun e w' => e = .returned (.agg #[iv (Pl.nv 1 2 x v), iv 16, iv (Pl.nx 1 2 x v), iv (Pl.fell 1 2 v), .bool t]) ∧ Below w.heap.size w w' := by
  obtain ⟨b0, b1⟩ := Pl.hi_bd 2 v
  have E1 : Hid ((v / 2 + Pl.hi 2 v * 32768) = Pl.nv 1 2 x v) := hide (by simp only [Pl.nv, Pl.inn, Pl.fell, Pl.top, Int.reduceMod, Int.reduceEq, Int.reduceLE, Int.reduceDiv, if_true, if_false, or_self, or_true, true_or, or_false, false_or] <;> omega)
  have E2 : Hid ((v % 2) = Pl.nx 1 2 x v) := hide (by simp only [Pl.nx, Pl.fell, Int.reduceMod, Int.reduceEq, if_true, if_false, or_self, or_true, true_or, or_false, false_or])
  have E3 : Hid ((v % 2) = Pl.fell 1 2 v) := hide (by simp only [Pl.fell, Int.reduceMod, Int.reduceEq, if_true, if_false])
  go_enter Try.func99, Try.ntmps99
  go_wp2_with (first | (go_at_call 106; refine (highest2 _ _ _ _ _ ?h0 ?h1).mono ?_; (case h0 => omega); (case h1 => omega); rintro e w' ⟨rfl, o6, rfl⟩) | (go_at_call 137; refine (lowest _ _ _ _ _ _).mono ?_; rintro e w' ⟨rfl, o6, rfl⟩) | (go_at_call 136; refine (moveDown2 _ _ _ _ _ _ ?h0 ?h1 ?h2 ?h3).mono ?_; (case h0 => omega); (case h1 => omega); (case h2 => omega); (case h3 => omega); rintro e w' ⟨rfl, o1, o2, o3, rfl⟩) | (go_at_call 135; refine (keepFallen _ _ _ _ _ _).mono ?_; rintro e w' ⟨rfl, o4, o5, rfl⟩))
  go_region_with (first | (go_at_call 106; refine (highest2 _ _ _ _ _ ?h0 ?h1).mono ?_; (case h0 => omega); (case h1 => omega); rintro e w' ⟨rfl, o6, rfl⟩) | (go_at_call 137; refine (lowest _ _ _ _ _ _).mono ?_; rintro e w' ⟨rfl, o6, rfl⟩) | (go_at_call 136; refine (moveDown2 _ _ _ _ _ _ ?h0 ?h1 ?h2 ?h3).mono ?_; (case h0 => omega); (case h1 => omega); (case h2 => omega); (case h3 => omega); rintro e w' ⟨rfl, o1, o2, o3, rfl⟩) | (go_at_call 135; refine (keepFallen _ _ _ _ _ _).mono ?_; rintro e w' ⟨rfl, o4, o5, rfl⟩))
  all_goals go_wp2_with fail
  all_goals
    refine bodyPost_ret (v := .agg #[iv (v / 2 + Pl.hi 2 v * 32768), iv 16, iv (v % 2), iv (v % 2), .bool t]) ?_ rfl ⟨?_, ?_⟩
    · rw [results_cell1 rfl]; go_simp
    · exact rA E1.out rfl E2.out E3.out rfl
    · (repeat' (first | with_reducible exact Below.refl _ _ | with_reducible refine Below.drew ?_ | with_reducible refine Below.alloc ?_ ?_ _ | (simp; done) | (simp; omega)))
set_option maxHeartbeats 8000000 in
theorem plainUp2 (v x f : Int) (t : Bool) (w : World) (h0 : 0 ≤ v) (h1 : v < 65536) (x0 : 0 ≤ x) (x1 : x ≤ 1) :
    Calls Try.prog 100 #[.agg #[iv v, iv 16, iv x, iv f, .bool t]] w fun e w' => e = .returned (.agg #[iv (Pl.nv 2 2 x v), iv 16, iv (Pl.nx 2 2 x v), iv (Pl.fell 2 2 v), .bool t]) ∧ Below w.heap.size w w' := by
  obtain ⟨b0, b1⟩ := Pl.hi_bd 2 v
  have E1 : Hid ((v * 2 % 65536) = Pl.nv 2 2 x v) := hide (by simp only [Pl.nv, Pl.inn, Pl.fell, Pl.top, Int.reduceMod, Int.reduceEq, Int.reduceLE, Int.reduceDiv, if_true, if_false, or_self, or_true, true_or, or_false, false_or] <;> omega)
  have E2 : Hid ((Pl.hi 2 v) = Pl.nx 2 2 x v) := hide (by simp only [Pl.nx, Pl.fell, Int.reduceMod, Int.reduceEq, if_true, if_false, or_self, or_true, true_or, or_false, false_or])
  have E3 : Hid ((Pl.hi 2 v) = Pl.fell 2 2 v) := hide (by simp only [Pl.fell, Int.reduceMod, Int.reduceEq, if_true, if_false])
  go_enter Try.func100, Try.ntmps100
  go_wp2_with (first | (go_at_call 106; refine (highest2 _ _ _ _ _ ?h0 ?h1).mono ?_; (case h0 => omega); (case h1 => omega); rintro e w' ⟨rfl, o6, rfl⟩) | (go_at_call 137; refine (lowest _ _ _ _ _ _).mono ?_; rintro e w' ⟨rfl, o6, rfl⟩) | (go_at_call 134; refine (moveUp2 _ _ _ _ _ _ ?h0 ?h1 ?h2 ?h3).mono ?_; (case h0 => omega); (case h1 => omega); (case h2 => omega); (case h3 => omega); rintro e w' ⟨rfl, o1, o2, o3, rfl⟩) | (go_at_call 135; refine (keepFallen _ _ _ _ _ _).mono ?_; rintro e w' ⟨rfl, o4, o5, rfl⟩))
  all_goals
    refine bodyPost_ret (v := .agg #[iv (v * 2 % 65536), iv 16, iv (Pl.hi 2 v), iv (Pl.hi 2 v), .bool t]) ?_ rfl ⟨?_, ?_⟩
    · rw [results_cell1 rfl]; go_simp
    · exact rA E1.out rfl E2.out E3.out rfl
    · (repeat' (first | with_reducible exact Below.refl _ _ | with_reducible refine Below.drew ?_ | with_reducible refine Below.alloc ?_ ?_ _ | (simp; done) | (simp; omega)))
set_option maxHeartbeats 8000000 in
theorem plainDown2 (v x f : Int) (t : Bool) (w : World) (h0 : 0 ≤ v) (h1 : v < 65536) (x0 : 0 ≤ x) (x1 : x ≤ 1) :
    Calls Try.prog 101 #[.agg #[iv v, iv 16, iv x, iv f, .bool t]] w fun e w' => e = .returned (.agg #[iv (Pl.nv 3 2 x v), iv 16, iv (Pl.nx 3 2 x v), iv (Pl.fell 3 2 v), .bool t]) ∧ Below w.heap.size w w' := by
  obtain ⟨b0, b1⟩ := Pl.hi_bd 2 v
  have E1 : Hid ((v / 2) = Pl.nv 3 2 x v) := hide (by simp only [Pl.nv, Pl.inn, Pl.fell, Pl.top, Int.reduceMod, Int.reduceEq, Int.reduceLE, Int.reduceDiv, if_true, if_false, or_self, or_true, true_or, or_false, false_or] <;> omega)
  have E2 : Hid ((v % 2) = Pl.nx 3 2 x v) := hide (by simp only [Pl.nx, Pl.fell, Int.reduceMod, Int.reduceEq, if_true, if_false, or_self, or_true, true_or, or_false, false_or])
  have E3 : Hid ((v % 2) = Pl.fell 3 2 v) := hide (by simp only [Pl.fell, Int.reduceMod, Int.reduceEq, if_true, if_false])
  go_enter Try.func101, Try.ntmps101
  go_wp2_with (first | (go_at_call 106; refine (highest2 _ _ _ _ _ ?h0 ?h1).mono ?_; (case h0 => omega); (case h1 => omega); rintro e w' ⟨rfl, o6, rfl⟩) | (go_at_call 137; refine (lowest _ _ _ _ _ _).mono ?_; rintro e w' ⟨rfl, o6, rfl⟩) | (go_at_call 136; refine (moveDown2 _ _ _ _ _ _ ?h0 ?h1 ?h2 ?h3).mono ?_; (case h0 => omega); (case h1 => omega); (case h2 => omega); (case h3 => omega); rintro e w' ⟨rfl, o1, o2, o3, rfl⟩) | (go_at_call 135; refine (keepFallen _ _ _ _ _ _).mono ?_; rintro e w' ⟨rfl, o4, o5, rfl⟩))
  all_goals
    refine bodyPost_ret (v := .agg #[iv (v / 2), iv 16, iv (v % 2), iv (v % 2), .bool t]) ?_ rfl ⟨?_, ?_⟩
    · rw [results_cell1 rfl]; go_simp
    · exact rA E1.out rfl E2.out E3.out rfl
    · (repeat' (first | with_reducible exact Below.refl _ _ | with_reducible refine Below.drew ?_ | with_reducible refine Below.alloc ?_ ?_ _ | (simp; done) | (simp; omega)))
set_option maxHeartbeats 8000000 in
theorem turnUp2 (v x f : Int) (t : Bool) (w : World) (h0 : 0 ≤ v) (h1 : v < 65536) (x0 : 0 ≤ x) (x1 : x ≤ 1) :
    Calls Try.prog 102 #[.agg #[iv v, iv 16, iv x, iv f, .bool t]] w fun e w' => e = .returned (.agg #[iv (Pl.nv 4 2 x v), iv 16, iv (Pl.nx 4 2 x v), iv (Pl.fell 4 2 v), .bool t]) ∧ Below w.heap.size w w' := by
  obtain ⟨b0, b1⟩ := Pl.hi_bd 2 v
  have E1 : Hid ((v * 2 % 65536 + Pl.hi 2 v) = Pl.nv 4 2 x v) := hide (by simp only [Pl.nv, Pl.inn, Pl.fell, Pl.top, Int.reduceMod, Int.reduceEq, Int.reduceLE, Int.reduceDiv, if_true, if_false, or_self, or_true, true_or, or_false, false_or] <;> omega)
  have E2 : Hid (x = Pl.nx 4 2 x v) := hide (by simp only [Pl.nx, Pl.fell, Int.reduceMod, Int.reduceEq, if_true, if_false, or_self, or_true, true_or, or_false, false_or])
  have E3 : Hid ((Pl.hi 2 v) = Pl.fell 4 2 v) := hide (by simp only [Pl.fell, Int.reduceMod, Int.reduceEq, if_true, if_false])
  go_enter Try.func102, Try.ntmps102
  go_wp2_with (first | (go_at_call 106; refine (highest2 _ _ _ _ _ ?h0 ?h1).mono ?_; (case h0 => omega); (case h1 => omega); rintro e w' ⟨rfl, o6, rfl⟩) | (go_at_call 137; refine (lowest _ _ _ _ _ _).mono ?_; rintro e w' ⟨rfl, o6, rfl⟩) | (go_at_call 134; refine (moveUp2 _ _ _ _ _ _ ?h0 ?h1 ?h2 ?h3).mono ?_; (case h0 => omega); (case h1 => omega); (case h2 => omega); (case h3 => omega); rintro e w' ⟨rfl, o1, o2, o3, rfl⟩) | (go_at_call 135; refine (keepFallen _ _ _ _ _ _).mono ?_; rintro e w' ⟨rfl, o4, o5, rfl⟩))
  go_region_with (first | (go_at_call 106; refine (highest2 _ _ _ _ _ ?h0 ?h1).mono ?_; (case h0 => omega); (case h1 => omega); rintro e w' ⟨rfl, o6, rfl⟩) | (go_at_call 137; refine (lowest _ _ _ _ _ _).mono ?_; rintro e w' ⟨rfl, o6, rfl⟩) | (go_at_call 134; refine (moveUp2 _ _ _ _ _ _ ?h0 ?h1 ?h2 ?h3).mono ?_; (case h0 => omega); (case h1 => omega); (case h2 => omega); (case h3 => omega); rintro e w' ⟨rfl, o1, o2, o3, rfl⟩) | (go_at_call 135; refine (keepFallen _ _ _ _ _ _).mono ?_; rintro e w' ⟨rfl, o4, o5, rfl⟩))
  all_goals go_wp2_with fail
  all_goals
    refine bodyPost_ret (v := .agg #[iv (v * 2 % 65536 + Pl.hi 2 v), iv 16, iv x, iv (Pl.hi 2 v), .bool t]) ?_ rfl ⟨?_, ?_⟩
    · rw [results_cell1 rfl]; go_simp
    · exact rA E1.out rfl E2.out E3.out rfl
    · (repeat' (first | with_reducible exact Below.refl _ _ | with_reducible refine Below.drew ?_ | with_reducible refine Below.alloc ?_ ?_ _ | (simp; done) | (simp; omega)))
set_option maxHeartbeats 8000000 in
theorem turnDown2 (v x f : Int) (t : Bool) (w : World) (h0 : 0 ≤ v) (h1 : v < 65536) (x0 : 0 ≤ x) (x1 : x ≤ 1) :
    Calls Try.prog 103 #[.agg #[iv v, iv 16, iv x, iv f, .bool t]] w fun e w' => e = .returned (.agg #[iv (Pl.nv 5 2 x v), iv 16, iv (Pl.nx 5 2 x v), iv (Pl.fell 5 2 v), .bool t]) ∧ Below w.heap.size w w' := by
  obtain ⟨b0, b1⟩ := Pl.hi_bd 2 v
  have E1 : Hid ((v / 2 + v % 2 * 32768) = Pl.nv 5 2 x v) := hide (by simp only [Pl.nv, Pl.inn, Pl.fell, Pl.top, Int.reduceMod, Int.reduceEq, Int.reduceLE, Int.reduceDiv, if_true, if_false, or_self, or_true, true_or, or_false, false_or] <;> omega)
  have E2 : Hid (x = Pl.nx 5 2 x v) := hide (by simp only [Pl.nx, Pl.fell, Int.reduceMod, Int.reduceEq, if_true, if_false, or_self, or_true, true_or, or_false, false_or])
  have E3 : Hid ((v % 2) = Pl.fell 5 2 v) := hide (by simp only [Pl.fell, Int.reduceMod, Int.reduceEq, if_true, if_false])
  go_enter Try.func103, Try.ntmps103
  go_wp2_with (first | (go_at_call 106; refine (highest2 _ _ _ _ _ ?h0 ?h1).mono ?_; (case h0 => omega); (case h1 => omega); rintro e w' ⟨rfl, o6, rfl⟩) | (go_at_call 137; refine (lowest _ _ _ _ _ _).mono ?_; rintro e w' ⟨rfl, o6, rfl⟩) | (go_at_call 136; refine (moveDown2 _ _ _ _ _ _ ?h0 ?h1 ?h2 ?h3).mono ?_; (case h0 => omega); (case h1 => omega); (case h2 => omega); (case h3 => omega); rintro e w' ⟨rfl, o1, o2, o3, rfl⟩) | (go_at_call 135; refine (keepFallen _ _ _ _ _ _).mono ?_; rintro e w' ⟨rfl, o4, o5, rfl⟩))
  go_region_with (first | (go_at_call 106; refine (highest2 _ _ _ _ _ ?h0 ?h1).mono ?_; (case h0 => omega); (case h1 => omega); rintro e w' ⟨rfl, o6, rfl⟩) | (go_at_call 137; refine (lowest _ _ _ _ _ _).mono ?_; rintro e w' ⟨rfl, o6, rfl⟩) | (go_at_call 136; refine (moveDown2 _ _ _ _ _ _ ?h0 ?h1 ?h2 ?h3).mono ?_; (case h0 => omega); (case h1 => omega); (case h2 => omega); (case h3 => omega); rintro e w' ⟨rfl, o1, o2, o3, rfl⟩) | (go_at_call 135; refine (keepFallen _ _ _ _ _ _).mono ?_; rintro e w' ⟨rfl, o4, o5, rfl⟩))
  all_goals go_wp2_with fail
  all_goals
    refine bodyPost_ret (v := .agg #[iv (v / 2 + v % 2 * 32768), iv 16, iv x, iv (v % 2), .bool t]) ?_ rfl ⟨?_, ?_⟩
    · rw [results_cell1 rfl]; go_simp
    · exact rA E1.out rfl E2.out E3.out rfl
    · (repeat' (first | with_reducible exact Below.refl _ _ | with_reducible refine Below.drew ?_ | with_reducible refine Below.alloc ?_ ?_ _ | (simp; done) | (simp; omega)))
set_option maxHeartbeats 8000000 in
theorem turnUpThroughExtend2 (v x f : Int) (t : Bool) (w : World) (h0 : 0 ≤ v) (h1 : v < 65536) (x0 : 0 ≤ x) (x1 : x ≤ 1) :
    Calls Try.prog 104 #[.agg #[iv v, iv 16, iv x, iv f, .bool t]] w fun e w' => e = .returned (.agg #[iv (Pl.nv 6 2 x v), iv 16, iv (Pl.nx 6 2 x v), iv (Pl.fell 6 2 v), .bool t]) ∧ Below w.heap.size w w' := by
  obtain ⟨b0, b1⟩ := Pl.hi_bd 2 v
  have E1 : Hid ((v * 2 % 65536 + x) = Pl.nv 6 2 x v) := hide (by simp only [Pl.nv, Pl.inn, Pl.fell, Pl.top, Int.reduceMod, Int.reduceEq, Int.reduceLE, Int.reduceDiv, if_true, if_false, or_self, or_true, true_or, or_false, false_or] <;> omega)
  have E2 : Hid ((Pl.hi 2 v) = Pl.nx 6 2 x v) := hide (by simp only [Pl.nx, Pl.fell, Int.reduceMod, Int.reduceEq, if_true, if_false, or_self, or_true, true_or, or_false, false_or])
  have E3 : Hid ((Pl.hi 2 v) = Pl.fell 6 2 v) := hide (by simp only [Pl.fell, Int.reduceMod, Int.reduceEq, if_true, if_false])
  go_enter Try.func104, Try.ntmps104
  go_wp2_with (first | (go_at_call 106; refine (highest2 _ _ _ _ _ ?h0 ?h1).mono ?_; (case h0 => omega); (case h1 => omega); rintro e w' ⟨rfl, o6, rfl⟩) | (go_at_call 137; refine (lowest _ _ _ _ _ _).mono ?_; rintro e w' ⟨rfl, o6, rfl⟩) | (go_at_call 134; refine (moveUp2 _ _ _ _ _ _ ?h0 ?h1 ?h2 ?h3).mono ?_; (case h0 => omega); (case h1 => omega); (case h2 => omega); (case h3 => omega); rintro e w' ⟨rfl, o1, o2, o3, rfl⟩) | (go_at_call 135; refine (keepFallen _ _ _ _ _ _).mono ?_; rintro e w' ⟨rfl, o4, o5, rfl⟩))
  all_goals
    refine bodyPost_ret (v := .agg #[iv (v * 2 % 65536 + x), iv 16, iv (Pl.hi 2 v), iv (Pl.hi 2 v), .bool t]) ?_ rfl ⟨?_, ?_⟩
    · rw [results_cell1 rfl]; go_simp
    · exact rA E1.out rfl E2.out E3.out rfl
    · (repeat' (first | with_reducible exact Below.refl _ _ | with_reducible refine Below.drew ?_ | with_reducible refine Below.alloc ?_ ?_ _ | (simp; done) | (simp; omega)))
set_option maxHeartbeats 8000000 in
theorem turnDownThroughExtend2 (v x f : Int) (t : Bool) (w : World) (h0 : 0 ≤ v) (h1 : v < 65536) (x0 : 0 ≤ x) (x1 : x ≤ 1) :
    Calls Try.prog 105 #[.agg #[iv v, iv 16, iv x, iv f, .bool t]] w fun e w' => e = .returned (.agg #[iv (Pl.nv 7 2 x v), iv 16, iv (Pl.nx 7 2 x v), iv (Pl.fell 7 2 v), .bool t]) ∧ Below w.heap.size w w' := by
  obtain ⟨b0, b1⟩ := Pl.hi_bd 2 v
  have E1 : Hid ((v / 2 + x * 32768) = Pl.nv 7 2 x v) := hide (by simp only [Pl.nv, Pl.inn, Pl.fell, Pl.top, Int.reduceMod, Int.reduceEq, Int.reduceLE, Int.reduceDiv, if_true, if_false, or_self, or_true, true_or, or_false, false_or] <;> omega)
  have E2 : Hid ((v % 2) = Pl.nx 7 2 x v) := hide (by simp only [Pl.nx, Pl.fell, Int.reduceMod, Int.reduceEq, if_true, if_false, or_self, or_true, true_or, or_false, false_or])
  have E3 : Hid ((v % 2) = Pl.fell 7 2 v) := hide (by simp only [Pl.fell, Int.reduceMod, Int.reduceEq, if_true, if_false])
  go_enter Try.func105, Try.ntmps105
  go_wp2_with (first | (go_at_call 106; refine (highest2 _ _ _ _ _ ?h0 ?h1).mono ?_; (case h0 => omega); (case h1 => omega); rintro e w' ⟨rfl, o6, rfl⟩) | (go_at_call 137; refine (lowest _ _ _ _ _ _).mono ?_; rintro e w' ⟨rfl, o6, rfl⟩) | (go_at_call 136; refine (moveDown2 _ _ _ _ _ _ ?h0 ?h1 ?h2 ?h3).mono ?_; (case h0 => omega); (case h1 => omega); (case h2 => omega); (case h3 => omega); rintro e w' ⟨rfl, o1, o2, o3, rfl⟩) | (go_at_call 135; refine (keepFallen _ _ _ _ _ _).mono ?_; rintro e w' ⟨rfl, o4, o5, rfl⟩))
  all_goals
    refine bodyPost_ret (v := .agg #[iv (v / 2 + x * 32768), iv 16, iv (v % 2), iv (v % 2), .bool t]) ?_ rfl ⟨?_, ?_⟩
    · rw [results_cell1 rfl]; go_simp
    · exact rA E1.out rfl E2.out E3.out rfl
    · (repeat' (first | with_reducible exact Below.refl _ _ | with_reducible refine Below.drew ?_ | with_reducible refine Below.alloc ?_ ?_ _ | (simp; done) | (simp; omega)))
end Go.Proofs.Ytnmddmmmgdfknaa

