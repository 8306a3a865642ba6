/- What the program lays ahead of the first place, and the flags that it tells of a row of bits: one contract a function. -/
import Derived.Test.YtlagdbajdehanaaMoves
import Derived.Test.YtlagdbajdehanaaSpecShf
import Derived.Laws.ResultCell
namespace Go.Proofs.Ytlagdbajdehanaa
open Go.RowKit
set_option linter.unusedVariables false
set_option linter.unusedSimpArgs false

theorem flagsIf (b : Bool) (f : Int) (w : World) :
    Calls Try.prog 64 #[.bool b, .int .i64 f] w fun e w' => e = .returned (.int .i64 (Pl.fl b f)) ∧ w' = w := by
  cases b
  all_goals
    go_enter Try.func64, Try.ntmps64
    go_wp2
    go_ret
    exact ⟨rfl, rfl⟩
theorem widthOf (s : Int) (w : World) (s0 : 0 ≤ s) (s1 : s ≤ 2) :
    Calls Try.prog 50 #[.int .i64 s] w fun e w' => e = .returned (.int .i64 (8 * s)) ∧ w' = w := by
  go_enter Try.func50, Try.ntmps50
  go_wp2
  go_ret
  exact ⟨rI (by omega), rfl⟩
theorem isShift (k : Int) (w : World) :
    Calls Try.prog 43 #[.int .i64 k] w fun e w' => e = .returned (.bool (Pl.kin k)) ∧ w' = w := by
  by_cases h0 : 0 ≤ k
  all_goals
    by_cases h1 : k ≤ 7
    all_goals
      go_enter Try.func43, Try.ntmps43
      go_wp2
      go_ret
      exact ⟨rB (by simp [Pl.kin]; omega), rfl⟩
theorem isFlags (f : Int) (w : World) :
    Calls Try.prog 55 #[.int .i64 f] w fun e w' => e = .returned (.bool (Pl.flags f)) ∧ w' = w := by
  by_cases h0 : 0 ≤ f
  all_goals
    by_cases h1 : f ≤ 31
    all_goals
      go_enter Try.func55, Try.ntmps55
      go_wp2
      go_ret
      exact ⟨rB (by simp [Pl.flags]; omega), rfl⟩
theorem isLeft (k : Int) (w : World) :
    Calls Try.prog 20 #[.int .i64 k] w fun e w' => e = .returned (.tuple #[.bool (Pl.left k), .bool (Pl.kin k)]) ∧ w' = w := by
  cases h1 : Pl.kin k
  · have K : Hid (Pl.left k = false) := hide (by simp [Pl.left, h1])
    go_enter Try.func20, Try.ntmps20
    go_wp2_with fail
    refine (isShift _ _).mono ?_
    rintro e w' ⟨rfl, rfl⟩
    go_wp2_with fail
    go_ret2
    exact ⟨rBB K.out.symm rfl, rfl⟩
  · have hk : 0 ≤ k ∧ k ≤ 7 := by simpa [Pl.kin] using h1
    have : k = 0 ∨ k = 1 ∨ k = 2 ∨ k = 3 ∨ k = 4 ∨ k = 5 ∨ k = 6 ∨ k = 7 := by omega
    clear hk
    rcases this with rfl | rfl | rfl | rfl | rfl | rfl | rfl | rfl
    all_goals
      go_enter Try.func20, Try.ntmps20
      go_wp2_with fail
      refine (isShift _ _).mono ?_
      rintro e w' ⟨rfl, rfl⟩
      go_wp2_with fail
      go_ret2
      exact ⟨rfl, rfl⟩
theorem Pl.five {x f h : Int} {t z : Bool} (hx : x = 0 ∨ x = 1) (hf : f = 0 ∨ f = 1) (hh : h = 0 ∨ h = 1) :
    bits .or .i64 (bits .or .i64 (bits .or .i64 (bits .or .i64 (Pl.fl (f == 1) 1) (Pl.fl t 2)) (Pl.fl z 4)) (Pl.fl (h == 1) 8)) (Pl.fl (x == 1) 16) = f + Pl.fl t 2 + (Pl.fl z 4 + Pl.fl (h == 1) 8) + 16 * x := by
  rcases hx with rfl | rfl <;> rcases hf with rfl | rfl <;> rcases hh with rfl | rfl <;> cases t <;> cases z <;> decide
theorem Pl.hi_top (s v : Int) : (Pl.hi s v == 1) = decide (Pl.top s / 2 ≤ v) := by
  unfold Pl.hi; split
  · rename_i h; simp [h]
  · rename_i h; simp [h]
theorem flags1 (v x f : Int) (t : Bool) (w : World) (h0 : 0 ≤ v) (h1 : v < 256) (x0 : 0 ≤ x) (x1 : x ≤ 1) (f0 : 0 ≤ f) (f1 : f ≤ 1) :
    Calls Try.prog 36 #[.agg #[.int .i64 v, .int .i64 8, .int .i64 x, .int .i64 f, .bool t]] w fun e w' => e = .returned (.int .i64 (f + Pl.fl t 2 + Pl.zn 1 v + 16 * x)) ∧ ∃ o1 o2, w' = (w.alloc o1).alloc o2 := by
  go_enter Try.func36, Try.ntmps36
  go_wp2_with (first | (go_at_call 64; refine (flagsIf _ _ _).mono ?_; rintro e w' ⟨rfl, rfl⟩) | (go_at_call 65; refine (highest1 _ _ _ _ _ h0 h1).mono ?_; rintro e w' ⟨rfl, o, rfl⟩))
  go_ret
  obtain ⟨b0, b1⟩ := Pl.hi_bd 1 v
  refine ⟨rI ?_, _, _, rfl⟩
  show bits .or .i64 _ _ = _
  rw [Pl.five (by omega) (by omega) (by omega), Pl.hi_top]; rfl
theorem flags2 (v x f : Int) (t : Bool) (w : World) (h0 : 0 ≤ v) (h1 : v < 65536) (x0 : 0 ≤ x) (x1 : x ≤ 1) (f0 : 0 ≤ f) (f1 : f ≤ 1) :
    Calls Try.prog 36 #[.agg #[.int .i64 v, .int .i64 16, .int .i64 x, .int .i64 f, .bool t]] w fun e w' => e = .returned (.int .i64 (f + Pl.fl t 2 + Pl.zn 2 v + 16 * x)) ∧ ∃ o1 o2, w' = (w.alloc o1).alloc o2 := by
  go_enter Try.func36, Try.ntmps36
  go_wp2_with (first | (go_at_call 64; refine (flagsIf _ _ _).mono ?_; rintro e w' ⟨rfl, rfl⟩) | (go_at_call 65; refine (highest2 _ _ _ _ _ h0 h1).mono ?_; rintro e w' ⟨rfl, o, rfl⟩))
  go_ret
  obtain ⟨b0, b1⟩ := Pl.hi_bd 2 v
  refine ⟨rI ?_, _, _, rfl⟩
  show bits .or .i64 _ _ = _
  rw [Pl.five (by omega) (by omega) (by omega), Pl.hi_top]; rfl
theorem flags5 (s v x f W : Int) (t : Bool) (w : World) (h : Pl.Fit s (v, x)) (hW : W = 8 * s) (f0 : 0 ≤ f) (f1 : f ≤ 1) :
    Calls Try.prog 36 #[.agg #[.int .i64 v, .int .i64 W, .int .i64 x, .int .i64 f, .bool t]] w fun e w' => e = .returned (.int .i64 (f + Pl.fl t 2 + Pl.zn s v + 16 * x)) ∧ ∃ o1 o2, w' = (w.alloc o1).alloc o2 := by
  obtain ⟨hs, v0, v1, x0, x1⟩ := h
  simp only at v0 v1 x0 x1
  subst hW
  rcases Pl.top12 hs with ⟨rfl, e⟩ | ⟨rfl, e⟩ <;> rw [e] at v1
  · exact flags1 v x f t w v0 v1 x0 x1 f0 f1
  · exact flags2 v x f t w v0 v1 x0 x1 f0 f1
theorem rowOf_bad (k s f v : Int) (w : World) (lo : -9223372036854775808 ≤ v) (hi : v ≤ 9223372036854775807) (h : Pl.goodK k s f v = false) :
    Calls Try.prog 34 #[.int .i64 k, .int .i64 s, .int .i64 f, .int .i64 v] w fun e w' => e = .returned (.tuple #[.agg #[.int .i64 0, .int .i64 0, .int .i64 0, .int .i64 0, .bool false], .bool false]) ∧ Below w.heap.size w w' := by
  have H : (Pl.okv s v = false) ∨ (Pl.okv s v = true ∧ Pl.flags f = false) ∨ (Pl.okv s v = true ∧ Pl.flags f = true ∧ Pl.kin k = false) := by
    unfold Pl.goodK at h
    unfold Pl.kin
    revert h
    cases Pl.okv s v <;> cases Pl.flags f <;> simp
  clear h
  rcases H with h1 | ⟨h1, h2⟩ | ⟨h1, h2, h3⟩
  all_goals
    go_enter Try.func34, Try.ntmps34
    go_wp2_with (first | (go_at_call 16; refine (signedOf _ _ _ lo hi).mono ?_; rintro e w' ⟨rfl, rfl⟩) | (go_at_call 55; refine (isFlags _ _).mono ?_; rintro e w' ⟨rfl, rfl⟩) | (go_at_call 43; refine (isShift _ _).mono ?_; rintro e w' ⟨rfl, rfl⟩))
    refine bodyPost_ret (v := .tuple #[.agg #[.int .i64 0, .int .i64 0, .int .i64 0, .int .i64 0, .bool false], .bool false]) ?_ rfl ⟨rfl, ?_⟩
    · rw [results_cell_tmp rfl]; go_simp
    · (repeat' (first | with_reducible exact Below.refl _ _ | with_reducible refine Below.drew ?_ | with_reducible refine Below.alloc ?_ ?_ _ | (simp; done) | (simp; omega)))
def Pl.fal0 (k f : Int) : Int := if 6 ≤ k then f / 16 else 0
theorem rowOf (k s f v : Int) (w : World) (h : Pl.goodK k s f v = true) :
    Calls Try.prog 34 #[.int .i64 k, .int .i64 s, .int .i64 f, .int .i64 v] w fun e w' => e = .returned (.tuple #[.agg #[.int .i64 v, .int .i64 (8 * s), .int .i64 (f / 16), .int .i64 (Pl.fal0 k f), .bool false], .bool true]) ∧ Below w.heap.size w w' := by
  obtain ⟨k0, k1, h1, f0, f1, hs, v0, v1, _, _⟩ := Pl.goodK_ok h
  have h2 : Pl.flags f = true := by simp [Pl.flags, f0, f1]
  have h3 : Pl.kin k = true := by simp [Pl.kin, k0, k1]
  have vb : v < 65536 := by
    simp only at v1
    rcases Pl.top12 hs with ⟨_, e⟩ | ⟨_, e⟩ <;> rw [e] at v1 <;> omega
  simp only at v0 v1
  clear h v1
  have s0 : 0 ≤ s := by omega
  have s1 : s ≤ 2 := by omega
  obtain k6 | ⟨k6, k7⟩ | ⟨k6, k7⟩ : k = 6 ∨ ((k == 6) = false ∧ k = 7) ∨ ((k == 6) = false ∧ (k == 7) = false) := by simp; omega
  · have E : Hid (f / 16 = Pl.fal0 k f) := hide (by simp [Pl.fal0]; omega)
    have c6 : (k == 6) = true := by simp [k6]
    clear k6
    go_enter Try.func34, Try.ntmps34
    go_wp2_with (first | (go_at_call 16; refine (signedOf _ _ _ (by omega) (by omega)).mono ?_; rintro e w' ⟨rfl, rfl⟩) | (go_at_call 55; refine (isFlags _ _).mono ?_; rintro e w' ⟨rfl, rfl⟩) | (go_at_call 43; refine (isShift _ _).mono ?_; rintro e w' ⟨rfl, rfl⟩) | (go_at_call 50; refine (widthOf _ _ s0 s1).mono ?_; rintro e w' ⟨rfl, rfl⟩))
    refine bodyPost_ret (v := .tuple #[.agg #[.int .i64 v, .int .i64 (8 * s), .int .i64 (f / 16), .int .i64 (f / 16), .bool false], .bool true]) ?_ rfl ⟨by rw [E.out], ?_⟩
    · rw [results_cell_tmp rfl]; go_simp
    · (repeat' (first | with_reducible exact Below.refl _ _ | with_reducible refine Below.drew ?_ | with_reducible refine Below.alloc ?_ ?_ _ | (simp; done) | (simp; omega)))
  · have E : Hid (f / 16 = Pl.fal0 k f) := hide (by simp [Pl.fal0]; omega)
    have c7 : (k == 7) = true := by simp [k7]
    clear k7
    go_enter Try.func34, Try.ntmps34
    go_wp2_with (first | (go_at_call 16; refine (signedOf _ _ _ (by omega) (by omega)).mono ?_; rintro e w' ⟨rfl, rfl⟩) | (go_at_call 55; refine (isFlags _ _).mono ?_; rintro e w' ⟨rfl, rfl⟩) | (go_at_call 43; refine (isShift _ _).mono ?_; rintro e w' ⟨rfl, rfl⟩) | (go_at_call 50; refine (widthOf _ _ s0 s1).mono ?_; rintro e w' ⟨rfl, rfl⟩))
    refine bodyPost_ret (v := .tuple #[.agg #[.int .i64 v, .int .i64 (8 * s), .int .i64 (f / 16), .int .i64 (f / 16), .bool false], .bool true]) ?_ rfl ⟨by rw [E.out], ?_⟩
    · rw [results_cell_tmp rfl]; go_simp
    · (repeat' (first | with_reducible exact Below.refl _ _ | with_reducible refine Below.drew ?_ | with_reducible refine Below.alloc ?_ ?_ _ | (simp; done) | (simp; omega)))
  · have E : Hid (0 = Pl.fal0 k f) := hide (by
      have : ¬ 6 ≤ k := by simp at k6 k7; omega
      simp [Pl.fal0, this])
    go_enter Try.func34, Try.ntmps34
    go_wp2_with (first | (go_at_call 16; refine (signedOf _ _ _ (by omega) (by omega)).mono ?_; rintro e w' ⟨rfl, rfl⟩) | (go_at_call 55; refine (isFlags _ _).mono ?_; rintro e w' ⟨rfl, rfl⟩) | (go_at_call 43; refine (isShift _ _).mono ?_; rintro e w' ⟨rfl, rfl⟩) | (go_at_call 50; refine (widthOf _ _ s0 s1).mono ?_; rintro e w' ⟨rfl, rfl⟩))
    refine bodyPost_ret (v := .tuple #[.agg #[.int .i64 v, .int .i64 (8 * s), .int .i64 (f / 16), .int .i64 0, .bool false], .bool true]) ?_ rfl ⟨by rw [← E.out], ?_⟩
    · rw [results_cell_tmp rfl]; go_simp
    · (repeat' (first | with_reducible exact Below.refl _ _ | with_reducible refine Below.drew ?_ | with_reducible refine Below.alloc ?_ ?_ _ | (simp; done) | (simp; omega)))
end Go.Proofs.Ytlagdbajdehanaa
