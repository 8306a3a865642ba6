/- What the program's moves by one place answer, for each kind and size: one contract a method; each makes new blocks and changes none that was there. What the program's moves of each kind answer at size 1: each makes new blocks and changes none that was there. -/
import Derived.Test.YtnmddmmmgdfknaaED1
import Derived.RegionTactic
import Derived.ChangeAlike
import Derived.BigRegion
import Derived.Deep.RegionWith
namespace Go.Proofs.Ytnmddmmmgdfknaa
open Go.RowKit
set_option linter.unusedVariables false

theorem rA {a b c d a' b' c' d' : Int} {t t' : Bool} (ha : a = a') (hb : b = b') (hc : c = c') (hd : d = d') (ht : t = t') : Ending.returned (.agg #[iv a, iv b, iv c, iv d, .bool t]) = .returned (.agg #[iv a', iv b', iv c', iv d', .bool t']) := by rw [ha, hb, hc, hd, ht]
theorem results_cell1 {fn : Func} {p : Tmp} {ty : TypeId} (h : fn.results = #[.cell p ty]) (tmps : Array Value) (P : Program) (w : World) :
    (results fn tmps).run P w = ((asAddr (tmps.getD p undef)).run P w).andThen fun a w₁ => (loadVar ty a).run P w₁ := by
  simp only [results, h]
  simp [Sem.run_bind, Result.andThen]
theorem Pl.or_low' {a q : Int} (h0 : 0 ≤ a) (h1 : a < 131072) (h2 : a % 2 = 0) (q0 : 0 ≤ q) (q1 : q ≤ 1) : bits .or .i64 a q = a + q :=
  bits_join .i64 62 (by decide) wraps_i64 1 a q (by omega) (by omega) (by omega) (by omega) (by omega) (by omega)
theorem lowest (v s x f : Int) (t : Bool) (w : World) :
    Calls Try.prog 137 #[.agg #[iv v, iv s, iv x, iv f, .bool t]] w fun e w' => e = .returned (iv (v % 2)) ∧ ∃ o, w' = w.alloc o := by
  have hA := Pl.and1 v
  go_enter Try.func137, Try.ntmps137
  go_wp2
  go_ret
  exact ⟨rfl, _, rfl⟩
theorem keepFallen (v s x f : Int) (t : Bool) (w : World) :
    Calls Try.prog 135 #[.agg #[iv v, iv s, iv x, iv f, .bool t]] w fun e w' => e = .returned (.agg #[iv v, iv s, iv f, iv f, .bool t]) ∧ ∃ o1 o2, w' = (w.alloc o1).alloc o2 := by
  go_enter Try.func135, Try.ntmps135
  go_wp2
  refine bodyPost_ret (v := .agg #[iv v, iv s, iv f, iv f, .bool t]) ?_ rfl ⟨rfl, _, _, rfl⟩
  rw [results_cell1 rfl]; go_simp
theorem highest1 (v x f : Int) (t : Bool) (w : World) (h0 : 0 ≤ v) (h1 : v < 256) :
    Calls Try.prog 106 #[.agg #[iv v, iv 8, iv x, iv f, .bool t]] w fun e w' => e = .returned (iv (Pl.hi 1 v)) ∧ ∃ o, w' = w.alloc o := by
  have E : Hid (v / 128 = Pl.hi 1 v) := hide (by simp [Pl.hi, Pl.top]; omega)
  go_enter Try.func106, Try.ntmps106
  go_wp2
  go_ret
  exact ⟨rI E.out, _, rfl⟩
theorem moveUp1 (v x f i : Int) (t : Bool) (w : World) (h0 : 0 ≤ v) (h1 : v < 256) (i0 : 0 ≤ i) (i1 : i ≤ 1) :
    Calls Try.prog 134 #[.agg #[iv v, iv 8, iv x, iv f, .bool t], iv i] w fun e w' => e = .returned (.agg #[iv (v * 2 % 256 + i), iv 8, iv x, iv (Pl.hi 1 v), .bool t]) ∧ ∃ o1 o2 o3, w' = (((w.alloc o1).alloc o2).alloc o3).drew := by
  have hO := Pl.or_low' (a := v * 2) (q := i) (by omega) (by omega) (by omega) i0 i1
  have hA := Pl.and255 (v * 2 + i)
  have hE : (v * 2 + i) % 256 = v * 2 % 256 + i := by omega
  go_enter Try.func134, Try.ntmps134
  go_wp2_with fail
  refine (highest1 v x f t _ h0 h1).mono ?_
  rintro e w' ⟨rfl, o, rfl⟩
  go_wp2_with fail
  go_region
  go_wp2_with fail
  refine bodyPost_ret (v := .agg #[iv (v * 2 % 256 + i), iv 8, iv x, iv (Pl.hi 1 v), .bool t]) ?_ rfl ⟨rfl, _, _, _, rfl⟩
  rw [results_cell1 rfl]; go_simp
theorem moveDown1 (v x f i : Int) (t : Bool) (w : World) (h0 : 0 ≤ v) (h1 : v < 256) (i0 : 0 ≤ i) (i1 : i ≤ 1) :
    Calls Try.prog 136 #[.agg #[iv v, iv 8, iv x, iv f, .bool t], iv i] w fun e w' => e = .returned (.agg #[iv (v / 2 + i * 128), iv 8, iv x, iv (v % 2), .bool t]) ∧ ∃ o1 o2 o3, w' = (((w.alloc o1).alloc o2).alloc o3).drew := by
  have hO := Pl.or_high1 (a := v / 2) (q := i) (by omega) (by omega) i0 i1
  go_enter Try.func136, Try.ntmps136
  go_wp2_with fail
  refine (lowest v 8 x f t _).mono ?_
  rintro e w' ⟨rfl, o, rfl⟩
  go_wp2_with fail
  go_region
  go_wp2_with fail
  refine bodyPost_ret (v := .agg #[iv (v / 2 + i * 128), iv 8, iv x, iv (v % 2), .bool t]) ?_ rfl ⟨rfl, _, _, _, rfl⟩
  rw [results_cell1 rfl]; go_simp
theorem highest2 (v x f : Int) (t : Bool) (w : World) (h0 : 0 ≤ v) (h1 : v < 65536) :
    Calls Try.prog 106 #[.agg #[iv v, iv 16, iv x, iv f, .bool t]] w fun e w' => e = .returned (iv (Pl.hi 2 v)) ∧ ∃ o, w' = w.alloc o := by
  have E : Hid (v / 32768 = Pl.hi 2 v) := hide (by simp [Pl.hi, Pl.top]; omega)
  go_enter Try.func106, Try.ntmps106
  go_wp2
  go_ret
  exact ⟨rI E.out, _, rfl⟩
theorem moveUp2 (v x f i : Int) (t : Bool) (w : World) (h0 : 0 ≤ v) (h1 : v < 65536) (i0 : 0 ≤ i) (i1 : i ≤ 1) :
    Calls Try.prog 134 #[.agg #[iv v, iv 16, iv x, iv f, .bool t], iv i] w fun e w' => e = .returned (.agg #[iv (v * 2 % 65536 + i), iv 16, iv x, iv (Pl.hi 2 v), .bool t]) ∧ ∃ o1 o2 o3, w' = (((w.alloc o1).alloc o2).alloc o3).drew := by
  have hO := Pl.or_low' (a := v * 2) (q := i) (by omega) (by omega) (by omega) i0 i1
  have hA := Pl.and65535 (v * 2 + i)
  have hE : (v * 2 + i) % 65536 = v * 2 % 65536 + i := by omega
  go_enter Try.func134, Try.ntmps134
  go_wp2_with fail
  refine (highest2 v x f t _ h0 h1).mono ?_
  rintro e w' ⟨rfl, o, rfl⟩
  go_wp2_with fail
  go_region
  go_wp2_with fail
  refine bodyPost_ret (v := .agg #[iv (v * 2 % 65536 + i), iv 16, iv x, iv (Pl.hi 2 v), .bool t]) ?_ rfl ⟨rfl, _, _, _, rfl⟩
  rw [results_cell1 rfl]; go_simp
theorem moveDown2 (v x f i : Int) (t : Bool) (w : World) (h0 : 0 ≤ v) (h1 : v < 65536) (i0 : 0 ≤ i) (i1 : i ≤ 1) :
    Calls Try.prog 136 #[.agg #[iv v, iv 16, iv x, iv f, .bool t], iv i] w fun e w' => e = .returned (.agg #[iv (v / 2 + i * 32768), iv 16, iv x, iv (v % 2), .bool t]) ∧ ∃ o1 o2 o3, w' = (((w.alloc o1).alloc o2).alloc o3).drew := by
  have hO := Pl.or_high2 (a := v / 2) (q := i) (by omega) (by omega) i0 i1
  go_enter Try.func136, Try.ntmps136
  go_wp2_with fail
  refine (lowest v 16 x f t _).mono ?_
  rintro e w' ⟨rfl, o, rfl⟩
  go_wp2_with fail
  go_region
  go_wp2_with fail
  refine bodyPost_ret (v := .agg #[iv (v / 2 + i * 32768), iv 16, iv x, iv (v % 2), .bool t]) ?_ rfl ⟨rfl, _, _, _, rfl⟩
  rw [results_cell1 rfl]; go_simp
end Go.Proofs.Ytnmddmmmgdfknaa

namespace Go.Proofs.Ytnmddmmmgdfknaa
open Go.RowKit
set_option linter.unusedVariables false
set_option linter.unusedSimpArgs false

set_option maxHeartbeats 8000000 in
theorem arithmeticUp1 (v x f : Int) (t : Bool) (w : World) (h0 : 0 ≤ v) (h1 : v < 256) (x0 : 0 ≤ x) (x1 : x ≤ 1) :
    Calls Try.prog 98 #[.agg #[iv v, iv 8, iv x, iv f, .bool t]] w fun e w' => e = .returned (.agg #[iv (Pl.nv 0 1 x v), iv 8, iv (Pl.nx 0 1 x v), iv (Pl.fell 0 1 v), .bool (Pl.vfl 0 1 x v)]) ∧ Below w.heap.size w w' := by
  obtain ⟨b0, b1⟩ := Pl.hi_bd 1 v
  have E1 : Hid ((v * 2 % 256) = Pl.nv 0 1 x v) := hide (by simp only [Pl.nv, Pl.inn, Pl.fell, Pl.top, Int.reduceMod, Int.reduceEq, Int.reduceLE, Int.reduceDiv, if_true, if_false, or_self, or_true, true_or, or_false, false_or] <;> omega)
  have E2 : Hid ((Pl.hi 1 v) = Pl.nx 0 1 x v) := hide (by simp only [Pl.nx, Pl.fell, Int.reduceMod, Int.reduceEq, if_true, if_false, or_self, or_true, true_or, or_false, false_or])
  have E3 : Hid ((Pl.hi 1 v) = Pl.fell 0 1 v) := hide (by simp only [Pl.fell, Int.reduceMod, Int.reduceEq, if_true, if_false])
  have E4 : Hid ((Pl.hi 1 (v * 2 % 256) != Pl.hi 1 v) = Pl.vfl 0 1 x v) := hide (by rw [Pl.vfl, ← E1.out, Pl.bne_symm]; rfl)
  go_enter Try.func98, Try.ntmps98
  go_wp2_with (first | (go_at_call 106; refine (highest1 _ _ _ _ _ ?h0 ?h1).mono ?_; (case h0 => omega); (case h1 => omega); rintro e w' ⟨rfl, o6, rfl⟩) | (go_at_call 137; refine (lowest _ _ _ _ _ _).mono ?_; rintro e w' ⟨rfl, o6, rfl⟩) | (go_at_call 134; refine (moveUp1 _ _ _ _ _ _ ?h0 ?h1 ?h2 ?h3).mono ?_; (case h0 => omega); (case h1 => omega); (case h2 => omega); (case h3 => omega); rintro e w' ⟨rfl, o1, o2, o3, rfl⟩) | (go_at_call 135; refine (keepFallen _ _ _ _ _ _).mono ?_; rintro e w' ⟨rfl, o4, o5, rfl⟩))
  go_region_with (first | (go_at_call 106; refine (highest1 _ _ _ _ _ ?h0 ?h1).mono ?_; (case h0 => omega); (case h1 => omega); rintro e w' ⟨rfl, o6, rfl⟩) | (go_at_call 137; refine (lowest _ _ _ _ _ _).mono ?_; rintro e w' ⟨rfl, o6, rfl⟩) | (go_at_call 134; refine (moveUp1 _ _ _ _ _ _ ?h0 ?h1 ?h2 ?h3).mono ?_; (case h0 => omega); (case h1 => omega); (case h2 => omega); (case h3 => omega); rintro e w' ⟨rfl, o1, o2, o3, rfl⟩) | (go_at_call 135; refine (keepFallen _ _ _ _ _ _).mono ?_; rintro e w' ⟨rfl, o4, o5, rfl⟩))
  all_goals go_wp2_with fail
  all_goals
    refine bodyPost_ret (v := .agg #[iv (v * 2 % 256), iv 8, iv (Pl.hi 1 v), iv (Pl.hi 1 v), .bool (Pl.hi 1 (v * 2 % 256) != Pl.hi 1 v)]) ?_ rfl ⟨?_, ?_⟩
    · rw [results_cell1 rfl]; go_simp
    · exact rA E1.out rfl E2.out E3.out E4.out
    · (repeat' (first | with_reducible exact Below.refl _ _ | with_reducible refine Below.drew ?_ | with_reducible refine Below.alloc ?_ ?_ _ | (simp; done) | (simp; omega)))
set_option maxHeartbeats 8000000 in
theorem arithmeticDown1 (v x f : Int) (t : Bool) (w : World) (h0 : 0 ≤ v) (h1 : v < 256) (x0 : 0 ≤ x) (x1 : x ≤ 1) :
    Calls Try.prog 99 #[.agg #[iv v, iv 8, iv x, iv f, .bool t]] w fun e w' => e = .returned (.agg #[iv (Pl.nv 1 1 x v), iv 8, iv (Pl.nx 1 1 x v), iv (Pl.fell 1 1 v), .bool t]) ∧ Below w.heap.size w w' := by
  obtain ⟨b0, b1⟩ := Pl.hi_bd 1 v
  have E1 : Hid ((v / 2 + Pl.hi 1 v * 128) = Pl.nv 1 1 x v) := hide (by simp only [Pl.nv, Pl.inn, Pl.fell, Pl.top, Int.reduceMod, Int.reduceEq, Int.reduceLE, Int.reduceDiv, if_true, if_false, or_self, or_true, true_or, or_false, false_or] <;> omega)
  have E2 : Hid ((v % 2) = Pl.nx 1 1 x v) := hide (by simp only [Pl.nx, Pl.fell, Int.reduceMod, Int.reduceEq, if_true, if_false, or_self, or_true, true_or, or_false, false_or])
  have E3 : Hid ((v % 2) = Pl.fell 1 1 v) := hide (by simp only [Pl.fell, Int.reduceMod, Int.reduceEq, if_true, if_false])
  go_enter Try.func99, Try.ntmps99
  go_wp2_with (first | (go_at_call 106; refine (highest1 _ _ _ _ _ ?h0 ?h1).mono ?_; (case h0 => omega); (case h1 => omega); rintro e w' ⟨rfl, o6, rfl⟩) | (go_at_call 137; refine (lowest _ _ _ _ _ _).mono ?_; rintro e w' ⟨rfl, o6, rfl⟩) | (go_at_call 136; refine (moveDown1 _ _ _ _ _ _ ?h0 ?h1 ?h2 ?h3).mono ?_; (case h0 => omega); (case h1 => omega); (case h2 => omega); (case h3 => omega); rintro e w' ⟨rfl, o1, o2, o3, rfl⟩) | (go_at_call 135; refine (keepFallen _ _ _ _ _ _).mono ?_; rintro e w' ⟨rfl, o4, o5, rfl⟩))
  go_region_with (first | (go_at_call 106; refine (highest1 _ _ _ _ _ ?h0 ?h1).mono ?_; (case h0 => omega); (case h1 => omega); rintro e w' ⟨rfl, o6, rfl⟩) | (go_at_call 137; refine (lowest _ _ _ _ _ _).mono ?_; rintro e w' ⟨rfl, o6, rfl⟩) | (go_at_call 136; refine (moveDown1 _ _ _ _ _ _ ?h0 ?h1 ?h2 ?h3).mono ?_; (case h0 => omega); (case h1 => omega); (case h2 => omega); (case h3 => omega); rintro e w' ⟨rfl, o1, o2, o3, rfl⟩) | (go_at_call 135; refine (keepFallen _ _ _ _ _ _).mono ?_; rintro e w' ⟨rfl, o4, o5, rfl⟩))
  all_goals go_wp2_with fail
  all_goals
    refine bodyPost_ret (v := .agg #[iv (v / 2 + Pl.hi 1 v * 128), iv 8, iv (v % 2), iv (v % 2), .bool t]) ?_ rfl ⟨?_, ?_⟩
    · rw [results_cell1 rfl]; go_simp
    · exact rA E1.out rfl E2.out E3.out rfl
    · (repeat' (first | with_reducible exact Below.refl _ _ | with_reducible refine Below.drew ?_ | with_reducible refine Below.alloc ?_ ?_ _ | (simp; done) | (simp; omega)))
set_option maxHeartbeats 8000000 in
theorem plainUp1 (v x f : Int) (t : Bool) (w : World) (h0 : 0 ≤ v) (h1 : v < 256) (x0 : 0 ≤ x) (x1 : x ≤ 1) :
    Calls Try.prog 100 #[.agg #[iv v, iv 8, iv x, iv f, .bool t]] w fun e w' => e = .returned (.agg #[iv (Pl.nv 2 1 x v), iv 8, iv (Pl.nx 2 1 x v), iv (Pl.fell 2 1 v), .bool t]) ∧ Below w.heap.size w w' := by
  obtain ⟨b0, b1⟩ := Pl.hi_bd 1 v
  have E1 : Hid ((v * 2 % 256) = Pl.nv 2 1 x v) := hide (by simp only [Pl.nv, Pl.inn, Pl.fell, Pl.top, Int.reduceMod, Int.reduceEq, Int.reduceLE, Int.reduceDiv, if_true, if_false, or_self, or_true, true_or, or_false, false_or] <;> omega)
  have E2 : Hid ((Pl.hi 1 v) = Pl.nx 2 1 x v) := hide (by simp only [Pl.nx, Pl.fell, Int.reduceMod, Int.reduceEq, if_true, if_false, or_self, or_true, true_or, or_false, false_or])
  have E3 : Hid ((Pl.hi 1 v) = Pl.fell 2 1 v) := hide (by simp only [Pl.fell, Int.reduceMod, Int.reduceEq, if_true, if_false])
  go_enter Try.func100, Try.ntmps100
  go_wp2_with (first | (go_at_call 106; refine (highest1 _ _ _ _ _ ?h0 ?h1).mono ?_; (case h0 => omega); (case h1 => omega); rintro e w' ⟨rfl, o6, rfl⟩) | (go_at_call 137; refine (lowest _ _ _ _ _ _).mono ?_; rintro e w' ⟨rfl, o6, rfl⟩) | (go_at_call 134; refine (moveUp1 _ _ _ _ _ _ ?h0 ?h1 ?h2 ?h3).mono ?_; (case h0 => omega); (case h1 => omega); (case h2 => omega); (case h3 => omega); rintro e w' ⟨rfl, o1, o2, o3, rfl⟩) | (go_at_call 135; refine (keepFallen _ _ _ _ _ _).mono ?_; rintro e w' ⟨rfl, o4, o5, rfl⟩))
  all_goals
    refine bodyPost_ret (v := .agg #[iv (v * 2 % 256), iv 8, iv (Pl.hi 1 v), iv (Pl.hi 1 v), .bool t]) ?_ rfl ⟨?_, ?_⟩
    · rw [results_cell1 rfl]; go_simp
    · exact rA E1.out rfl E2.out E3.out rfl
    · (repeat' (first | with_reducible exact Below.refl _ _ | with_reducible refine Below.drew ?_ | with_reducible refine Below.alloc ?_ ?_ _ | (simp; done) | (simp; omega)))
set_option maxHeartbeats 8000000 in
theorem plainDown1 (v x f : Int) (t : Bool) (w : World) (h0 : 0 ≤ v) (h1 : v < 256) (x0 : 0 ≤ x) (x1 : x ≤ 1) :
    Calls Try.prog 101 #[.agg #[iv v, iv 8, iv x, iv f, .bool t]] w fun e w' => e = .returned (.agg #[iv (Pl.nv 3 1 x v), iv 8, iv (Pl.nx 3 1 x v), iv (Pl.fell 3 1 v), .bool t]) ∧ Below w.heap.size w w' := by
  obtain ⟨b0, b1⟩ := Pl.hi_bd 1 v
  have E1 : Hid ((v / 2) = Pl.nv 3 1 x v) := hide (by simp only [Pl.nv, Pl.inn, Pl.fell, Pl.top, Int.reduceMod, Int.reduceEq, Int.reduceLE, Int.reduceDiv, if_true, if_false, or_self, or_true, true_or, or_false, false_or] <;> omega)
  have E2 : Hid ((v % 2) = Pl.nx 3 1 x v) := hide (by simp only [Pl.nx, Pl.fell, Int.reduceMod, Int.reduceEq, if_true, if_false, or_self, or_true, true_or, or_false, false_or])
  have E3 : Hid ((v % 2) = Pl.fell 3 1 v) := hide (by simp only [Pl.fell, Int.reduceMod, Int.reduceEq, if_true, if_false])
  go_enter Try.func101, Try.ntmps101
  go_wp2_with (first | (go_at_call 106; refine (highest1 _ _ _ _ _ ?h0 ?h1).mono ?_; (case h0 => omega); (case h1 => omega); rintro e w' ⟨rfl, o6, rfl⟩) | (go_at_call 137; refine (lowest _ _ _ _ _ _).mono ?_; rintro e w' ⟨rfl, o6, rfl⟩) | (go_at_call 136; refine (moveDown1 _ _ _ _ _ _ ?h0 ?h1 ?h2 ?h3).mono ?_; (case h0 => omega); (case h1 => omega); (case h2 => omega); (case h3 => omega); rintro e w' ⟨rfl, o1, o2, o3, rfl⟩) | (go_at_call 135; refine (keepFallen _ _ _ _ _ _).mono ?_; rintro e w' ⟨rfl, o4, o5, rfl⟩))
  all_goals
    refine bodyPost_ret (v := .agg #[iv (v / 2), iv 8, iv (v % 2), iv (v % 2), .bool t]) ?_ rfl ⟨?_, ?_⟩
    · rw [results_cell1 rfl]; go_simp
    · exact rA E1.out rfl E2.out E3.out rfl
    · (repeat' (first | with_reducible exact Below.refl _ _ | with_reducible refine Below.drew ?_ | with_reducible refine Below.alloc ?_ ?_ _ | (simp; done) | (simp; omega)))
set_option maxHeartbeats 8000000 in
theorem turnUp1 (v x f : Int) (t : Bool) (w : World) (h0 : 0 ≤ v) (h1 : v < 256) (x0 : 0 ≤ x) (x1 : x ≤ 1) :
    Calls Try.prog 102 #[.agg #[iv v, iv 8, iv x, iv f, .bool t]] w fun e w' => e = .returned (.agg #[iv (Pl.nv 4 1 x v), iv 8, iv (Pl.nx 4 1 x v), iv (Pl.fell 4 1 v), .bool t]) ∧ Below w.heap.size w w' := by
  obtain ⟨b0, b1⟩ := Pl.hi_bd 1 v
  have E1 : Hid ((v * 2 % 256 + Pl.hi 1 v) = Pl.nv 4 1 x v) := hide (by simp only [Pl.nv, Pl.inn, Pl.fell, Pl.top, Int.reduceMod, Int.reduceEq, Int.reduceLE, Int.reduceDiv, if_true, if_false, or_self, or_true, true_or, or_false, false_or] <;> omega)
  have E2 : Hid (x = Pl.nx 4 1 x v) := hide (by simp only [Pl.nx, Pl.fell, Int.reduceMod, Int.reduceEq, if_true, if_false, or_self, or_true, true_or, or_false, false_or])
  have E3 : Hid ((Pl.hi 1 v) = Pl.fell 4 1 v) := hide (by simp only [Pl.fell, Int.reduceMod, Int.reduceEq, if_true, if_false])
  go_enter Try.func102, Try.ntmps102
  go_wp2_with (first | (go_at_call 106; refine (highest1 _ _ _ _ _ ?h0 ?h1).mono ?_; (case h0 => omega); (case h1 => omega); rintro e w' ⟨rfl, o6, rfl⟩) | (go_at_call 137; refine (lowest _ _ _ _ _ _).mono ?_; rintro e w' ⟨rfl, o6, rfl⟩) | (go_at_call 134; refine (moveUp1 _ _ _ _ _ _ ?h0 ?h1 ?h2 ?h3).mono ?_; (case h0 => omega); (case h1 => omega); (case h2 => omega); (case h3 => omega); rintro e w' ⟨rfl, o1, o2, o3, rfl⟩) | (go_at_call 135; refine (keepFallen _ _ _ _ _ _).mono ?_; rintro e w' ⟨rfl, o4, o5, rfl⟩))
  go_region_with (first | (go_at_call 106; refine (highest1 _ _ _ _ _ ?h0 ?h1).mono ?_; (case h0 => omega); (case h1 => omega); rintro e w' ⟨rfl, o6, rfl⟩) | (go_at_call 137; refine (lowest _ _ _ _ _ _).mono ?_; rintro e w' ⟨rfl, o6, rfl⟩) | (go_at_call 134; refine (moveUp1 _ _ _ _ _ _ ?h0 ?h1 ?h2 ?h3).mono ?_; (case h0 => omega); (case h1 => omega); (case h2 => omega); (case h3 => omega); rintro e w' ⟨rfl, o1, o2, o3, rfl⟩) | (go_at_call 135; refine (keepFallen _ _ _ _ _ _).mono ?_; rintro e w' ⟨rfl, o4, o5, rfl⟩))
  all_goals go_wp2_with fail
  all_goals
    refine bodyPost_ret (v := .agg #[iv (v * 2 % 256 + Pl.hi 1 v), iv 8, iv x, iv (Pl.hi 1 v), .bool t]) ?_ rfl ⟨?_, ?_⟩
    · rw [results_cell1 rfl]; go_simp
    · exact rA E1.out rfl E2.out E3.out rfl
    · (repeat' (first | with_reducible exact Below.refl _ _ | with_reducible refine Below.drew ?_ | with_reducible refine Below.alloc ?_ ?_ _ | (simp; done) | (simp; omega)))
set_option maxHeartbeats 8000000 in
theorem turnDown1 (v x f : Int) (t : Bool) (w : World) (h0 : 0 ≤ v) (h1 : v < 256) (x0 : 0 ≤ x) (x1 : x ≤ 1) :
    Calls Try.prog 103 #[.agg #[iv v, iv 8, iv x, iv f, .bool t]] w fun e w' => e = .returned (.agg #[iv (Pl.nv 5 1 x v), iv 8, iv (Pl.nx 5 1 x v), iv (Pl.fell 5 1 v), .bool t]) ∧ Below w.heap.size w w' := by
  obtain ⟨b0, b1⟩ := Pl.hi_bd 1 v
  have E1 : Hid ((v / 2 + v % 2 * 128) = Pl.nv 5 1 x v) := hide (by simp only [Pl.nv, Pl.inn, Pl.fell, Pl.top, Int.reduceMod, Int.reduceEq, Int.reduceLE, Int.reduceDiv, if_true, if_false, or_self, or_true, true_or, or_false, false_or] <;> omega)
  have E2 : Hid (x = Pl.nx 5 1 x v) := hide (by simp only [Pl.nx, Pl.fell, Int.reduceMod, Int.reduceEq, if_true, if_false, or_self, or_true, true_or, or_false, false_or])
  have E3 : Hid ((v % 2) = Pl.fell 5 1 v) := hide (by simp only [Pl.fell, Int.reduceMod, Int.reduceEq, if_true, if_false])
  go_enter Try.func103, Try.ntmps103
  go_wp2_with (first | (go_at_call 106; refine (highest1 _ _ _ _ _ ?h0 ?h1).mono ?_; (case h0 => omega); (case h1 => omega); rintro e w' ⟨rfl, o6, rfl⟩) | (go_at_call 137; refine (lowest _ _ _ _ _ _).mono ?_; rintro e w' ⟨rfl, o6, rfl⟩) | (go_at_call 136; refine (moveDown1 _ _ _ _ _ _ ?h0 ?h1 ?h2 ?h3).mono ?_; (case h0 => omega); (case h1 => omega); (case h2 => omega); (case h3 => omega); rintro e w' ⟨rfl, o1, o2, o3, rfl⟩) | (go_at_call 135; refine (keepFallen _ _ _ _ _ _).mono ?_; rintro e w' ⟨rfl, o4, o5, rfl⟩))
  go_region_with (first | (go_at_call 106; refine (highest1 _ _ _ _ _ ?h0 ?h1).mono ?_; (case h0 => omega); (case h1 => omega); rintro e w' ⟨rfl, o6, rfl⟩) | (go_at_call 137; refine (lowest _ _ _ _ _ _).mono ?_; rintro e w' ⟨rfl, o6, rfl⟩) | (go_at_call 136; refine (moveDown1 _ _ _ _ _ _ ?h0 ?h1 ?h2 ?h3).mono ?_; (case h0 => omega); (case h1 => omega); (case h2 => omega); (case h3 => omega); rintro e w' ⟨rfl, o1, o2, o3, rfl⟩) | (go_at_call 135; refine (keepFallen _ _ _ _ _ _).mono ?_; rintro e w' ⟨rfl, o4, o5, rfl⟩))
  all_goals go_wp2_with fail
  all_goals
    refine bodyPost_ret (v := .agg #[iv (v / 2 + v % 2 * 128), iv 8, iv x, iv (v % 2), .bool t]) ?_ rfl ⟨?_, ?_⟩
    · rw [results_cell1 rfl]; go_simp
    · exact rA E1.out rfl E2.out E3.out rfl
    · (repeat' (first | with_reducible exact Below.refl _ _ | with_reducible refine Below.drew ?_ | with_reducible refine Below.alloc ?_ ?_ _ | (simp; done) | (simp; omega)))
set_option maxHeartbeats 8000000 in
theorem turnUpThroughExtend1 (v x f : Int) (t : Bool) (w : World) (h0 : 0 ≤ v) (h1 : v < 256) (x0 : 0 ≤ x) (x1 : x ≤ 1) :
    Calls Try.prog 104 #[.agg #[iv v, iv 8, iv x, iv f, .bool t]] w fun e w' => e = .returned (.agg #[iv (Pl.nv 6 1 x v), iv 8, iv (Pl.nx 6 1 x v), iv (Pl.fell 6 1 v), .bool t]) ∧ Below w.heap.size w w' := by
  obtain ⟨b0, b1⟩ := Pl.hi_bd 1 v
  have E1 : Hid ((v * 2 % 256 + x) = Pl.nv 6 1 x v) := hide (by simp only [Pl.nv, Pl.inn, Pl.fell, Pl.top, Int.reduceMod, Int.reduceEq, Int.reduceLE, Int.reduceDiv, if_true, if_false, or_self, or_true, true_or, or_false, false_or] <;> omega)
  have E2 : Hid ((Pl.hi 1 v) = Pl.nx 6 1 x v) := hide (by simp only [Pl.nx, Pl.fell, Int.reduceMod, Int.reduceEq, if_true, if_false, or_self, or_true, true_or, or_false, false_or])
  have E3 : Hid ((Pl.hi 1 v) = Pl.fell 6 1 v) := hide (by simp only [Pl.fell, Int.reduceMod, Int.reduceEq, if_true, if_false])
  go_enter Try.func104, Try.ntmps104
  go_wp2_with (first | (go_at_call 106; refine (highest1 _ _ _ _ _ ?h0 ?h1).mono ?_; (case h0 => omega); (case h1 => omega); rintro e w' ⟨rfl, o6, rfl⟩) | (go_at_call 137; refine (lowest _ _ _ _ _ _).mono ?_; rintro e w' ⟨rfl, o6, rfl⟩) | (go_at_call 134; refine (moveUp1 _ _ _ _ _ _ ?h0 ?h1 ?h2 ?h3).mono ?_; (case h0 => omega); (case h1 => omega); (case h2 => omega); (case h3 => omega); rintro e w' ⟨rfl, o1, o2, o3, rfl⟩) | (go_at_call 135; refine (keepFallen _ _ _ _ _ _).mono ?_; rintro e w' ⟨rfl, o4, o5, rfl⟩))
  all_goals
    refine bodyPost_ret (v := .agg #[iv (v * 2 % 256 + x), iv 8, iv (Pl.hi 1 v), iv (Pl.hi 1 v), .bool t]) ?_ rfl ⟨?_, ?_⟩
    · rw [results_cell1 rfl]; go_simp
    · exact rA E1.out rfl E2.out E3.out rfl
    · (repeat' (first | with_reducible exact Below.refl _ _ | with_reducible refine Below.drew ?_ | with_reducible refine Below.alloc ?_ ?_ _ | (simp; done) | (simp; omega)))
set_option maxHeartbeats 8000000 in
theorem turnDownThroughExtend1 (v x f : Int) (t : Bool) (w : World) (h0 : 0 ≤ v) (h1 : v < 256) (x0 : 0 ≤ x) (x1 : x ≤ 1) :
    Calls Try.prog 105 #[.agg #[iv v, iv 8, iv x, iv f, .bool t]] w fun e w' => e = .returned (.agg #[iv (Pl.nv 7 1 x v), iv 8, iv (Pl.nx 7 1 x v), iv (Pl.fell 7 1 v), .bool t]) ∧ Below w.heap.size w w' := by
  obtain ⟨b0, b1⟩ := Pl.hi_bd 1 v
  have E1 : Hid ((v / 2 + x * 128) = Pl.nv 7 1 x v) := hide (by simp only [Pl.nv, Pl.inn, Pl.fell, Pl.top, Int.reduceMod, Int.reduceEq, Int.reduceLE, Int.reduceDiv, if_true, if_false, or_self, or_true, true_or, or_false, false_or] <;> omega)
  have E2 : Hid ((v % 2) = Pl.nx 7 1 x v) := hide (by simp only [Pl.nx, Pl.fell, Int.reduceMod, Int.reduceEq, if_true, if_false, or_self, or_true, true_or, or_false, false_or])
  have E3 : Hid ((v % 2) = Pl.fell 7 1 v) := hide (by simp only [Pl.fell, Int.reduceMod, Int.reduceEq, if_true, if_false])
  go_enter Try.func105, Try.ntmps105
  go_wp2_with (first | (go_at_call 106; refine (highest1 _ _ _ _ _ ?h0 ?h1).mono ?_; (case h0 => omega); (case h1 => omega); rintro e w' ⟨rfl, o6, rfl⟩) | (go_at_call 137; refine (lowest _ _ _ _ _ _).mono ?_; rintro e w' ⟨rfl, o6, rfl⟩) | (go_at_call 136; refine (moveDown1 _ _ _ _ _ _ ?h0 ?h1 ?h2 ?h3).mono ?_; (case h0 => omega); (case h1 => omega); (case h2 => omega); (case h3 => omega); rintro e w' ⟨rfl, o1, o2, o3, rfl⟩) | (go_at_call 135; refine (keepFallen _ _ _ _ _ _).mono ?_; rintro e w' ⟨rfl, o4, o5, rfl⟩))
  all_goals
    refine bodyPost_ret (v := .agg #[iv (v / 2 + x * 128), iv 8, iv (v % 2), iv (v % 2), .bool t]) ?_ rfl ⟨?_, ?_⟩
    · rw [results_cell1 rfl]; go_simp
    · exact rA E1.out rfl E2.out E3.out rfl
    · (repeat' (first | with_reducible exact Below.refl _ _ | with_reducible refine Below.drew ?_ | with_reducible refine Below.alloc ?_ ?_ _ | (simp; done) | (simp; omega)))
end Go.Proofs.Ytnmddmmmgdfknaa

