/- What the program's moves by one place answer, for each kind and size: one contract a method; each makes new blocks and changes none that was there. What the program lays ahead of the first place, and the flags that it tells of a row of bits: one contract a function. What the program's ways to an operand answer, of a processor that is worked on: its place, its value of a register. What the program's slot of an operand answers, of a processor that is worked on; an operand read and written. What the program's push and pop answer, of a processor that is worked on. An instruction whose fields fit into its words: plain arithmetic; no Go text is spoken of here. A region that draws its order, by what holds whatever has come up so far: every order at once. -/
import Derived.Test.YtblddehlkaolbaaGreatDoorJA7
import Derived.Test.YtblddehlkaolbaaGreatDoorJA18
import Derived.Test.YtblddehlkaolbaaGreatDoorJA24
import Derived.RegionTactic
import Derived.ChangeAlike
import Derived.BigRegion
import Derived.Deep.RegionWith
import Derived.Laws.ResultCell
import Derived.Test.YtblddehlkaolbaaGreatDoorJA23
import Derived.Test.YtblddehlkaolbaaGreatDoorJA8
import Derived.StillTailTactics
import Derived.BigQuiet
import Derived.Deep.QuietTactic
import Derived.Test.YtblddehlkaolbaaGreatDoorJA14
import Derived.Test.YtblddehlkaolbaaGreatDoorJA2
import Derived.Test.YtblddehlkaolbaaGreatDoorJA1
namespace Go.Proofs.YtblddehlkaolbaaGreatDoor
open Go.RowKit
set_option linter.unusedVariables false

theorem rA {a b c d a' b' c' d' : Int} {t t' : Bool} (ha : a = a') (hb : b = b') (hc : c = c') (hd : d = d') (ht : t = t') : Ending.returned (.agg #[.int .i64 a, .int .i64 b, .int .i64 c, .int .i64 d, .bool t]) = .returned (.agg #[.int .i64 a', .int .i64 b', .int .i64 c', .int .i64 d', .bool t']) := by rw [ha, hb, hc, hd, ht]
theorem results_cell1 {fn : Func} {p : Tmp} {ty : TypeId} (h : fn.results = #[.cell p ty]) (tmps : Array Value) (P : Program) (w : World) :
    (results fn tmps).run P w = ((asAddr (tmps.getD p undef)).run P w).andThen fun a w₁ => (loadVar ty a).run P w₁ := by
  simp only [results, h]
  simp [Sem.run_bind, Result.andThen]
theorem Pl.or_low' {a q : Int} (h0 : 0 ≤ a) (h1 : a < 131072) (h2 : a % 2 = 0) (q0 : 0 ≤ q) (q1 : q ≤ 1) : bits .or .i64 a q = a + q :=
  bits_join .i64 62 (by decide) wraps_i64 1 a q (by omega) (by omega) (by omega) (by omega) (by omega) (by omega)
theorem lowest (v s x f : Int) (t : Bool) (w : World) :
    Calls Tryz.prog 249 #[.agg #[.int .i64 v, .int .i64 s, .int .i64 x, .int .i64 f, .bool t]] w fun e w' => e = .returned (.int .i64 (v % 2)) ∧ ∃ o, w' = w.alloc o := by
  have hA := Pl.and1 v
  go_enter Tryz.func249, Tryz.ntmps249
  go_wp2
  go_ret
  exact ⟨rfl, _, rfl⟩
theorem keepFallen (v s x f : Int) (t : Bool) (w : World) :
    Calls Tryz.prog 247 #[.agg #[.int .i64 v, .int .i64 s, .int .i64 x, .int .i64 f, .bool t]] w fun e w' => e = .returned (.agg #[.int .i64 v, .int .i64 s, .int .i64 f, .int .i64 f, .bool t]) ∧ ∃ o1 o2, w' = (w.alloc o1).alloc o2 := by
  go_enter Tryz.func247, Tryz.ntmps247
  go_wp2
  refine bodyPost_ret (v := .agg #[.int .i64 v, .int .i64 s, .int .i64 f, .int .i64 f, .bool t]) ?_ rfl ⟨rfl, _, _, rfl⟩
  rw [results_cell1 rfl]; go_simp
theorem highest1 (v x f : Int) (t : Bool) (w : World) (h0 : 0 ≤ v) (h1 : v < 256) :
    Calls Tryz.prog 237 #[.agg #[.int .i64 v, .int .i64 8, .int .i64 x, .int .i64 f, .bool t]] w fun e w' => e = .returned (.int .i64 (Pl.hi 1 v)) ∧ ∃ o, w' = w.alloc o := by
  have E : Hid (v / 128 = Pl.hi 1 v) := hide (by simp [Pl.hi, Pl.top]; omega)
  go_enter Tryz.func237, Tryz.ntmps237
  go_wp2
  go_ret
  exact ⟨rI E.out, _, rfl⟩
theorem moveUp1 (v x f i : Int) (t : Bool) (w : World) (h0 : 0 ≤ v) (h1 : v < 256) (i0 : 0 ≤ i) (i1 : i ≤ 1) :
    Calls Tryz.prog 246 #[.agg #[.int .i64 v, .int .i64 8, .int .i64 x, .int .i64 f, .bool t], .int .i64 i] w fun e w' => e = .returned (.agg #[.int .i64 (v * 2 % 256 + i), .int .i64 8, .int .i64 x, .int .i64 (Pl.hi 1 v), .bool t]) ∧ ∃ o1 o2 o3, w' = (((w.alloc o1).alloc o2).alloc o3).drew := by
  have hO := Pl.or_low' (a := v * 2) (q := i) (by omega) (by omega) (by omega) i0 i1
  have hA := Pl.and255 (v * 2 + i)
  have hE : (v * 2 + i) % 256 = v * 2 % 256 + i := by omega
  go_enter Tryz.func246, Tryz.ntmps246
  go_wp2_with fail
  refine (highest1 v x f t _ h0 h1).mono ?_
  rintro e w' ⟨rfl, o, rfl⟩
  go_wp2_with fail
  go_region
  go_wp2_with fail
  refine bodyPost_ret (v := .agg #[.int .i64 (v * 2 % 256 + i), .int .i64 8, .int .i64 x, .int .i64 (Pl.hi 1 v), .bool t]) ?_ rfl ⟨rfl, _, _, _, rfl⟩
  rw [results_cell1 rfl]; go_simp
theorem moveDown1 (v x f i : Int) (t : Bool) (w : World) (h0 : 0 ≤ v) (h1 : v < 256) (i0 : 0 ≤ i) (i1 : i ≤ 1) :
    Calls Tryz.prog 248 #[.agg #[.int .i64 v, .int .i64 8, .int .i64 x, .int .i64 f, .bool t], .int .i64 i] w fun e w' => e = .returned (.agg #[.int .i64 (v / 2 + i * 128), .int .i64 8, .int .i64 x, .int .i64 (v % 2), .bool t]) ∧ ∃ o1 o2 o3, w' = (((w.alloc o1).alloc o2).alloc o3).drew := by
  have hO := Pl.or_high1 (a := v / 2) (q := i) (by omega) (by omega) i0 i1
  go_enter Tryz.func248, Tryz.ntmps248
  go_wp2_with fail
  refine (lowest v 8 x f t _).mono ?_
  rintro e w' ⟨rfl, o, rfl⟩
  go_wp2_with fail
  go_region
  go_wp2_with fail
  refine bodyPost_ret (v := .agg #[.int .i64 (v / 2 + i * 128), .int .i64 8, .int .i64 x, .int .i64 (v % 2), .bool t]) ?_ rfl ⟨rfl, _, _, _, rfl⟩
  rw [results_cell1 rfl]; go_simp
theorem highest2 (v x f : Int) (t : Bool) (w : World) (h0 : 0 ≤ v) (h1 : v < 65536) :
    Calls Tryz.prog 237 #[.agg #[.int .i64 v, .int .i64 16, .int .i64 x, .int .i64 f, .bool t]] w fun e w' => e = .returned (.int .i64 (Pl.hi 2 v)) ∧ ∃ o, w' = w.alloc o := by
  have E : Hid (v / 32768 = Pl.hi 2 v) := hide (by simp [Pl.hi, Pl.top]; omega)
  go_enter Tryz.func237, Tryz.ntmps237
  go_wp2
  go_ret
  exact ⟨rI E.out, _, rfl⟩
theorem moveUp2 (v x f i : Int) (t : Bool) (w : World) (h0 : 0 ≤ v) (h1 : v < 65536) (i0 : 0 ≤ i) (i1 : i ≤ 1) :
    Calls Tryz.prog 246 #[.agg #[.int .i64 v, .int .i64 16, .int .i64 x, .int .i64 f, .bool t], .int .i64 i] w fun e w' => e = .returned (.agg #[.int .i64 (v * 2 % 65536 + i), .int .i64 16, .int .i64 x, .int .i64 (Pl.hi 2 v), .bool t]) ∧ ∃ o1 o2 o3, w' = (((w.alloc o1).alloc o2).alloc o3).drew := by
  have hO := Pl.or_low' (a := v * 2) (q := i) (by omega) (by omega) (by omega) i0 i1
  have hA := Pl.and65535 (v * 2 + i)
  have hE : (v * 2 + i) % 65536 = v * 2 % 65536 + i := by omega
  go_enter Tryz.func246, Tryz.ntmps246
  go_wp2_with fail
  refine (highest2 v x f t _ h0 h1).mono ?_
  rintro e w' ⟨rfl, o, rfl⟩
  go_wp2_with fail
  go_region
  go_wp2_with fail
  refine bodyPost_ret (v := .agg #[.int .i64 (v * 2 % 65536 + i), .int .i64 16, .int .i64 x, .int .i64 (Pl.hi 2 v), .bool t]) ?_ rfl ⟨rfl, _, _, _, rfl⟩
  rw [results_cell1 rfl]; go_simp
theorem moveDown2 (v x f i : Int) (t : Bool) (w : World) (h0 : 0 ≤ v) (h1 : v < 65536) (i0 : 0 ≤ i) (i1 : i ≤ 1) :
    Calls Tryz.prog 248 #[.agg #[.int .i64 v, .int .i64 16, .int .i64 x, .int .i64 f, .bool t], .int .i64 i] w fun e w' => e = .returned (.agg #[.int .i64 (v / 2 + i * 32768), .int .i64 16, .int .i64 x, .int .i64 (v % 2), .bool t]) ∧ ∃ o1 o2 o3, w' = (((w.alloc o1).alloc o2).alloc o3).drew := by
  have hO := Pl.or_high2 (a := v / 2) (q := i) (by omega) (by omega) i0 i1
  go_enter Tryz.func248, Tryz.ntmps248
  go_wp2_with fail
  refine (lowest v 16 x f t _).mono ?_
  rintro e w' ⟨rfl, o, rfl⟩
  go_wp2_with fail
  go_region
  go_wp2_with fail
  refine bodyPost_ret (v := .agg #[.int .i64 (v / 2 + i * 32768), .int .i64 16, .int .i64 x, .int .i64 (v % 2), .bool t]) ?_ rfl ⟨rfl, _, _, _, rfl⟩
  rw [results_cell1 rfl]; go_simp
end Go.Proofs.YtblddehlkaolbaaGreatDoor

namespace Go.Proofs.YtblddehlkaolbaaGreatDoor
open Go.RowKit
set_option linter.unusedVariables false
set_option linter.unusedSimpArgs false

theorem flagsIfR (b : Bool) (f : Int) (w : World) :
    Calls Tryz.prog 189 #[.bool b, .int .i64 f] w fun e w' => e = .returned (.int .i64 (Pl.fl b f)) ∧ w' = w := by
  cases b
  all_goals
    go_enter Tryz.func189, Tryz.ntmps189
    go_wp2
    go_ret
    exact ⟨rfl, rfl⟩
theorem widthOf (s : Int) (w : World) (s0 : 0 ≤ s) (s1 : s ≤ 2) :
    Calls Tryz.prog 208 #[.int .i64 s] w fun e w' => e = .returned (.int .i64 (8 * s)) ∧ w' = w := by
  go_enter Tryz.func208, Tryz.ntmps208
  go_wp2
  go_ret
  exact ⟨rI (by omega), rfl⟩
theorem isShift (k : Int) (w : World) :
    Calls Tryz.prog 228 #[.int .i64 k] w fun e w' => e = .returned (.bool (Pl.kin k)) ∧ w' = w := by
  by_cases h0 : 0 ≤ k
  all_goals
    by_cases h1 : k ≤ 7
    all_goals
      go_enter Tryz.func228, Tryz.ntmps228
      go_wp2
      go_ret
      exact ⟨rB (by simp [Pl.kin]; omega), rfl⟩
theorem isFlagsR (f : Int) (w : World) :
    Calls Tryz.prog 90 #[.int .i64 f] w fun e w' => e = .returned (.bool (Pl.flags f)) ∧ w' = w := by
  by_cases h0 : 0 ≤ f
  all_goals
    by_cases h1 : f ≤ 31
    all_goals
      go_enter Tryz.func90, Tryz.ntmps90
      go_wp2
      go_ret
      exact ⟨rB (by simp [Pl.flags]; omega), rfl⟩
theorem Pl.five {x f h : Int} {t z : Bool} (hx : x = 0 ∨ x = 1) (hf : f = 0 ∨ f = 1) (hh : h = 0 ∨ h = 1) :
    bits .or .i64 (bits .or .i64 (bits .or .i64 (bits .or .i64 (Pl.fl (f == 1) 1) (Pl.fl t 2)) (Pl.fl z 4)) (Pl.fl (h == 1) 8)) (Pl.fl (x == 1) 16) = f + Pl.fl t 2 + (Pl.fl z 4 + Pl.fl (h == 1) 8) + 16 * x := by
  rcases hx with rfl | rfl <;> rcases hf with rfl | rfl <;> rcases hh with rfl | rfl <;> cases t <;> cases z <;> decide
theorem Pl.hi_top (s v : Int) : (Pl.hi s v == 1) = decide (Pl.top s / 2 ≤ v) := by
  unfold Pl.hi; split
  · rename_i h; simp [h]
  · rename_i h; simp [h]
theorem flags1 (v x f : Int) (t : Bool) (w : World) (h0 : 0 ≤ v) (h1 : v < 256) (x0 : 0 ≤ x) (x1 : x ≤ 1) (f0 : 0 ≤ f) (f1 : f ≤ 1) :
    Calls Tryz.prog 212 #[.agg #[.int .i64 v, .int .i64 8, .int .i64 x, .int .i64 f, .bool t]] w fun e w' => e = .returned (.int .i64 (f + Pl.fl t 2 + Pl.zn 1 v + 16 * x)) ∧ ∃ o1 o2, w' = (w.alloc o1).alloc o2 := by
  go_enter Tryz.func212, Tryz.ntmps212
  go_wp2_with (first | (go_at_call 189; refine (flagsIfR _ _ _).mono ?_; rintro e w' ⟨rfl, rfl⟩) | (go_at_call 237; refine (highest1 _ _ _ _ _ h0 h1).mono ?_; rintro e w' ⟨rfl, o, rfl⟩))
  go_ret
  obtain ⟨b0, b1⟩ := Pl.hi_bd 1 v
  refine ⟨rI ?_, _, _, rfl⟩
  show bits .or .i64 _ _ = _
  rw [Pl.five (by omega) (by omega) (by omega), Pl.hi_top]; rfl
theorem flags2 (v x f : Int) (t : Bool) (w : World) (h0 : 0 ≤ v) (h1 : v < 65536) (x0 : 0 ≤ x) (x1 : x ≤ 1) (f0 : 0 ≤ f) (f1 : f ≤ 1) :
    Calls Tryz.prog 212 #[.agg #[.int .i64 v, .int .i64 16, .int .i64 x, .int .i64 f, .bool t]] w fun e w' => e = .returned (.int .i64 (f + Pl.fl t 2 + Pl.zn 2 v + 16 * x)) ∧ ∃ o1 o2, w' = (w.alloc o1).alloc o2 := by
  go_enter Tryz.func212, Tryz.ntmps212
  go_wp2_with (first | (go_at_call 189; refine (flagsIfR _ _ _).mono ?_; rintro e w' ⟨rfl, rfl⟩) | (go_at_call 237; refine (highest2 _ _ _ _ _ h0 h1).mono ?_; rintro e w' ⟨rfl, o, rfl⟩))
  go_ret
  obtain ⟨b0, b1⟩ := Pl.hi_bd 2 v
  refine ⟨rI ?_, _, _, rfl⟩
  show bits .or .i64 _ _ = _
  rw [Pl.five (by omega) (by omega) (by omega), Pl.hi_top]; rfl
theorem flags5 (s v x f W : Int) (t : Bool) (w : World) (h : Pl.Fit s (v, x)) (hW : W = 8 * s) (f0 : 0 ≤ f) (f1 : f ≤ 1) :
    Calls Tryz.prog 212 #[.agg #[.int .i64 v, .int .i64 W, .int .i64 x, .int .i64 f, .bool t]] w fun e w' => e = .returned (.int .i64 (f + Pl.fl t 2 + Pl.zn s v + 16 * x)) ∧ ∃ o1 o2, w' = (w.alloc o1).alloc o2 := by
  obtain ⟨hs, v0, v1, x0, x1⟩ := h
  simp only at v0 v1 x0 x1
  subst hW
  rcases Pl.top12 hs with ⟨rfl, e⟩ | ⟨rfl, e⟩ <;> rw [e] at v1
  · exact flags1 v x f t w v0 v1 x0 x1 f0 f1
  · exact flags2 v x f t w v0 v1 x0 x1 f0 f1
theorem rowOf_bad (k s f v : Int) (w : World) (lo : -9223372036854775808 ≤ v) (hi : v ≤ 9223372036854775807) (h : Pl.goodK k s f v = false) :
    Calls Tryz.prog 210 #[.int .i64 k, .int .i64 s, .int .i64 f, .int .i64 v] w fun e w' => e = .returned (.tuple #[.agg #[.int .i64 0, .int .i64 0, .int .i64 0, .int .i64 0, .bool false], .bool false]) ∧ Below w.heap.size w w' := by
  have H : (Pl.okv s v = false) ∨ (Pl.okv s v = true ∧ Pl.flags f = false) ∨ (Pl.okv s v = true ∧ Pl.flags f = true ∧ Pl.kin k = false) := by
    unfold Pl.goodK at h
    unfold Pl.kin
    revert h
    cases Pl.okv s v <;> cases Pl.flags f <;> simp
  clear h
  rcases H with h1 | ⟨h1, h2⟩ | ⟨h1, h2, h3⟩
  all_goals
    go_enter Tryz.func210, Tryz.ntmps210
    go_wp2_with (first | (go_at_call 133; refine (signedOf _ _ _ lo hi).mono ?_; rintro e w' ⟨rfl, rfl⟩) | (go_at_call 90; refine (isFlagsR _ _).mono ?_; rintro e w' ⟨rfl, rfl⟩) | (go_at_call 228; refine (isShift _ _).mono ?_; rintro e w' ⟨rfl, rfl⟩))
    refine bodyPost_ret (v := .tuple #[.agg #[.int .i64 0, .int .i64 0, .int .i64 0, .int .i64 0, .bool false], .bool false]) ?_ rfl ⟨rfl, ?_⟩
    · rw [results_cell_tmp rfl]; go_simp
    · (repeat' (first | with_reducible exact Below.refl _ _ | with_reducible refine Below.drew ?_ | with_reducible refine Below.alloc ?_ ?_ _ | (simp; done) | (simp; omega)))
def Pl.fal0 (k f : Int) : Int := if 6 ≤ k then f / 16 else 0
theorem rowOf (k s f v : Int) (w : World) (h : Pl.goodK k s f v = true) :
    Calls Tryz.prog 210 #[.int .i64 k, .int .i64 s, .int .i64 f, .int .i64 v] w fun e w' => e = .returned (.tuple #[.agg #[.int .i64 v, .int .i64 (8 * s), .int .i64 (f / 16), .int .i64 (Pl.fal0 k f), .bool false], .bool true]) ∧ Below w.heap.size w w' := by
  obtain ⟨k0, k1, h1, f0, f1, hs, v0, v1, _, _⟩ := Pl.goodK_ok h
  have h2 : Pl.flags f = true := by simp [Pl.flags, f0, f1]
  have h3 : Pl.kin k = true := by simp [Pl.kin, k0, k1]
  have vb : v < 65536 := by
    simp only at v1
    rcases Pl.top12 hs with ⟨_, e⟩ | ⟨_, e⟩ <;> rw [e] at v1 <;> omega
  simp only at v0 v1
  clear h v1
  have s0 : 0 ≤ s := by omega
  have s1 : s ≤ 2 := by omega
  obtain k6 | ⟨k6, k7⟩ | ⟨k6, k7⟩ : k = 6 ∨ ((k == 6) = false ∧ k = 7) ∨ ((k == 6) = false ∧ (k == 7) = false) := by simp; omega
  · have E : Hid (f / 16 = Pl.fal0 k f) := hide (by simp [Pl.fal0]; omega)
    have c6 : (k == 6) = true := by simp [k6]
    clear k6
    go_enter Tryz.func210, Tryz.ntmps210
    go_wp2_with (first | (go_at_call 133; refine (signedOf _ _ _ (by omega) (by omega)).mono ?_; rintro e w' ⟨rfl, rfl⟩) | (go_at_call 90; refine (isFlagsR _ _).mono ?_; rintro e w' ⟨rfl, rfl⟩) | (go_at_call 228; refine (isShift _ _).mono ?_; rintro e w' ⟨rfl, rfl⟩) | (go_at_call 208; refine (widthOf _ _ s0 s1).mono ?_; rintro e w' ⟨rfl, rfl⟩))
    refine bodyPost_ret (v := .tuple #[.agg #[.int .i64 v, .int .i64 (8 * s), .int .i64 (f / 16), .int .i64 (f / 16), .bool false], .bool true]) ?_ rfl ⟨by rw [E.out], ?_⟩
    · rw [results_cell_tmp rfl]; go_simp
    · (repeat' (first | with_reducible exact Below.refl _ _ | with_reducible refine Below.drew ?_ | with_reducible refine Below.alloc ?_ ?_ _ | (simp; done) | (simp; omega)))
  · have E : Hid (f / 16 = Pl.fal0 k f) := hide (by simp [Pl.fal0]; omega)
    have c7 : (k == 7) = true := by simp [k7]
    clear k7
    go_enter Tryz.func210, Tryz.ntmps210
    go_wp2_with (first | (go_at_call 133; refine (signedOf _ _ _ (by omega) (by omega)).mono ?_; rintro e w' ⟨rfl, rfl⟩) | (go_at_call 90; refine (isFlagsR _ _).mono ?_; rintro e w' ⟨rfl, rfl⟩) | (go_at_call 228; refine (isShift _ _).mono ?_; rintro e w' ⟨rfl, rfl⟩) | (go_at_call 208; refine (widthOf _ _ s0 s1).mono ?_; rintro e w' ⟨rfl, rfl⟩))
    refine bodyPost_ret (v := .tuple #[.agg #[.int .i64 v, .int .i64 (8 * s), .int .i64 (f / 16), .int .i64 (f / 16), .bool false], .bool true]) ?_ rfl ⟨by rw [E.out], ?_⟩
    · rw [results_cell_tmp rfl]; go_simp
    · (repeat' (first | with_reducible exact Below.refl _ _ | with_reducible refine Below.drew ?_ | with_reducible refine Below.alloc ?_ ?_ _ | (simp; done) | (simp; omega)))
  · have E : Hid (0 = Pl.fal0 k f) := hide (by
      have : ¬ 6 ≤ k := by simp at k6 k7; omega
      simp [Pl.fal0, this])
    go_enter Tryz.func210, Tryz.ntmps210
    go_wp2_with (first | (go_at_call 133; refine (signedOf _ _ _ (by omega) (by omega)).mono ?_; rintro e w' ⟨rfl, rfl⟩) | (go_at_call 90; refine (isFlagsR _ _).mono ?_; rintro e w' ⟨rfl, rfl⟩) | (go_at_call 228; refine (isShift _ _).mono ?_; rintro e w' ⟨rfl, rfl⟩) | (go_at_call 208; refine (widthOf _ _ s0 s1).mono ?_; rintro e w' ⟨rfl, rfl⟩))
    refine bodyPost_ret (v := .tuple #[.agg #[.int .i64 v, .int .i64 (8 * s), .int .i64 (f / 16), .int .i64 0, .bool false], .bool true]) ?_ rfl ⟨by rw [← E.out], ?_⟩
    · rw [results_cell_tmp rfl]; go_simp
    · (repeat' (first | with_reducible exact Below.refl _ _ | with_reducible refine Below.drew ?_ | with_reducible refine Below.alloc ?_ ?_ _ | (simp; done) | (simp; omega)))
end Go.Proofs.YtblddehlkaolbaaGreatDoor

namespace Go.Proofs.YtblddehlkaolbaaGreatDoor
open Go.RowKit
set_option linter.unusedVariables false
def wayV (m k e : Int) : Value := if m = 0 then .iface 189 (.agg #[.int .i64 k]) else if m = 1 then .iface 190 (.agg #[.int .i64 k]) else if m = 2 then .iface 200 (.agg #[.int .i64 k]) else if m = 3 then .iface 201 (.agg #[.int .i64 k]) else if m = 4 then .iface 202 (.agg #[.int .i64 k]) else if m = 5 then .iface 204 (.agg #[.int .i64 k, .int .i64 e]) else if m = 6 then .iface 205 (.agg #[.int .i64 e]) else .iface 192 (.agg #[.int .i64 e])
theorem tx00 (v : Value) (w : World) : (Instr.typeAssert (.iface 189 v) 160 189 true).run Tryz.prog w = .ok (.tuple #[v, .bool true]) w := by kernel_rfl
theorem tx10 (v : Value) (w : World) : (Instr.typeAssert (.iface 190 v) 160 189 true).run Tryz.prog w = .ok (.tuple #[.agg #[.int .i64 0], .bool false]) w := by kernel_rfl
theorem tx11 (v : Value) (w : World) : (Instr.typeAssert (.iface 190 v) 160 190 true).run Tryz.prog w = .ok (.tuple #[v, .bool true]) w := by kernel_rfl
theorem tx20 (v : Value) (w : World) : (Instr.typeAssert (.iface 200 v) 160 189 true).run Tryz.prog w = .ok (.tuple #[.agg #[.int .i64 0], .bool false]) w := by kernel_rfl
theorem tx21 (v : Value) (w : World) : (Instr.typeAssert (.iface 200 v) 160 190 true).run Tryz.prog w = .ok (.tuple #[.agg #[.int .i64 0], .bool false]) w := by kernel_rfl
theorem tx27 (v : Value) (w : World) : (Instr.typeAssert (.iface 200 v) 160 192 true).run Tryz.prog w = .ok (.tuple #[.agg #[.int .i64 0], .bool false]) w := by kernel_rfl
theorem tx30 (v : Value) (w : World) : (Instr.typeAssert (.iface 201 v) 160 189 true).run Tryz.prog w = .ok (.tuple #[.agg #[.int .i64 0], .bool false]) w := by kernel_rfl
theorem tx31 (v : Value) (w : World) : (Instr.typeAssert (.iface 201 v) 160 190 true).run Tryz.prog w = .ok (.tuple #[.agg #[.int .i64 0], .bool false]) w := by kernel_rfl
theorem tx37 (v : Value) (w : World) : (Instr.typeAssert (.iface 201 v) 160 192 true).run Tryz.prog w = .ok (.tuple #[.agg #[.int .i64 0], .bool false]) w := by kernel_rfl
theorem tx40 (v : Value) (w : World) : (Instr.typeAssert (.iface 202 v) 160 189 true).run Tryz.prog w = .ok (.tuple #[.agg #[.int .i64 0], .bool false]) w := by kernel_rfl
theorem tx41 (v : Value) (w : World) : (Instr.typeAssert (.iface 202 v) 160 190 true).run Tryz.prog w = .ok (.tuple #[.agg #[.int .i64 0], .bool false]) w := by kernel_rfl
theorem tx47 (v : Value) (w : World) : (Instr.typeAssert (.iface 202 v) 160 192 true).run Tryz.prog w = .ok (.tuple #[.agg #[.int .i64 0], .bool false]) w := by kernel_rfl
theorem tx50 (v : Value) (w : World) : (Instr.typeAssert (.iface 204 v) 160 189 true).run Tryz.prog w = .ok (.tuple #[.agg #[.int .i64 0], .bool false]) w := by kernel_rfl
theorem tx51 (v : Value) (w : World) : (Instr.typeAssert (.iface 204 v) 160 190 true).run Tryz.prog w = .ok (.tuple #[.agg #[.int .i64 0], .bool false]) w := by kernel_rfl
theorem tx57 (v : Value) (w : World) : (Instr.typeAssert (.iface 204 v) 160 192 true).run Tryz.prog w = .ok (.tuple #[.agg #[.int .i64 0], .bool false]) w := by kernel_rfl
theorem tx60 (v : Value) (w : World) : (Instr.typeAssert (.iface 205 v) 160 189 true).run Tryz.prog w = .ok (.tuple #[.agg #[.int .i64 0], .bool false]) w := by kernel_rfl
theorem tx61 (v : Value) (w : World) : (Instr.typeAssert (.iface 205 v) 160 190 true).run Tryz.prog w = .ok (.tuple #[.agg #[.int .i64 0], .bool false]) w := by kernel_rfl
theorem tx67 (v : Value) (w : World) : (Instr.typeAssert (.iface 205 v) 160 192 true).run Tryz.prog w = .ok (.tuple #[.agg #[.int .i64 0], .bool false]) w := by kernel_rfl
theorem tx70 (v : Value) (w : World) : (Instr.typeAssert (.iface 192 v) 160 189 true).run Tryz.prog w = .ok (.tuple #[.agg #[.int .i64 0], .bool false]) w := by kernel_rfl
theorem tx71 (v : Value) (w : World) : (Instr.typeAssert (.iface 192 v) 160 190 true).run Tryz.prog w = .ok (.tuple #[.agg #[.int .i64 0], .bool false]) w := by kernel_rfl
theorem tx77 (v : Value) (w : World) : (Instr.typeAssert (.iface 192 v) 160 192 true).run Tryz.prog w = .ok (.tuple #[v, .bool true]) w := by kernel_rfl
theorem onesOf (z : Int) (w : World) (hz : z = 1 ∨ z = 2) : Calls Tryz.prog 177 #[.int .i64 z] w fun e w' => e = .returned (.int .i64 (Pl.top z - 1)) ∧ w' = w := by
  rcases hz with rfl | rfl
  all_goals
    go_enter Tryz.func177, Tryz.ntmps177
    go_wp2_with (go_at_call 208; refine (widthOf _ _ (by decide) (by decide)).mono ?_; rintro e w' ⟨rfl, rfl⟩)
    go_ret
    exact ⟨rfl, rfl⟩
theorem and_top {z x : Int} (hz : z = 1 ∨ z = 2) : bits .and .i64 x (Pl.top z - 1) = x % Pl.top z := by
  rcases hz with rfl | rfl
  · exact Pl.and255 x
  · exact Pl.and65535 x
theorem cData (w : World) (lo b g : Nat) (c : Pl.Mc) (h : Bool) (z k : Int) (hC : CAt w lo b g c h) (hz : z = 1 ∨ z = 2) (k0 : 0 ≤ k) (k3 : k ≤ 3) :
    Calls Tryz.prog 172 #[.pointer (some ⟨b, 0, none⟩), .int .i64 z, .int .i64 k] w fun e w' => e = .returned (.int .i64 (c.low z k)) ∧ ∃ n, w' = w.drewN n := by
  obtain ⟨n, rfl⟩ : ∃ n : Nat, k = (n : Int) := ⟨k.toNat, by omega⟩
  have hn : n < 4 := by omega
  have q0 := hC.cX hn
  have ha := and_top (x := el c.r.xs n) hz
  clear hC
  go_enter Tryz.func172, Tryz.ntmps172
  go_wp2_with fail
  go_quiet (first | (go_at_call 177; exact Calls.quiet_of_same (onesOf _ _ hz)) | fail)
  go_wp2_with fail
  go_ret
  exact ⟨rfl, _, rfl⟩
theorem cLogic (w : World) (lo b g : Nat) (c : Pl.Mc) (h : Bool) (z v : Int) (hC : CAt w lo b g c h) (v0 : 0 ≤ v) (v1 : v ≤ 65535) :
    Calls Tryz.prog 174 #[.pointer (some ⟨b, 0, none⟩), .int .i64 z, .int .i64 v] w fun e w' => e = .returned (.tuple #[]) ∧ CAt w' lo b g (c.setF (Pl.logF z c.r.f v)) h ∧ Kept b (b + 1) w w' := by
  have HC := hide hC
  have q := hC.cF
  have qf := hC.fz
  clear hC
  go_enter Tryz.func174, Tryz.ntmps174
  go_wp2_with (go_at_call 207; refine (logicFlags _ _ _ _ (by omega) (by omega)).mono ?_; rintro e w' ⟨rfl, hw⟩; have hw2 := hw.symm; clear hw; subst hw2)
  go_end0
  exact ⟨rfl, HC.out.setF _, kept_one _ _ _ _⟩
theorem wayOfV (m k e : Int) (w : World) (m0 : 0 ≤ m) (m7 : m ≤ 7) : Calls Tryz.prog 178 #[.agg #[.int .i64 m, .int .i64 k, .int .i64 e]] w fun r w' => r = .returned (wayV m k e) ∧ Kept 0 0 w w' := by
  have : m = 0 ∨ m = 1 ∨ m = 2 ∨ m = 3 ∨ m = 4 ∨ m = 5 ∨ m = 6 ∨ m = 7 := by omega
  rcases this with rfl | rfl | rfl | rfl | rfl | rfl | rfl | rfl
  · exact wayOf0 k e w
  · exact wayOf1 k e w
  · exact wayOf2 k e w
  · exact wayOf3 k e w
  · exact wayOf4 k e w
  · exact wayOf5 k e w
  · exact wayOf6 k e w
  · exact wayOf7 k e w
set_option maxHeartbeats 4000000 in
set_option maxRecDepth 100000 in
theorem cPlace2 (w : World) (lo b g : Nat) (c : Pl.Mc) (h : Bool) (z k e : Int) (hC : CAt w lo b g c h) (hg : Pl.Good c.r) (hz : z = 1 ∨ z = 2) (k0 : 0 ≤ k) (k3 : k ≤ 3) (x0 : 0 ≤ e) (x1 : e ≤ 65535) :
    Calls Tryz.prog 179 #[.pointer (some ⟨b, 0, none⟩), .int .i64 z, .iface 200 (.agg #[.int .i64 k])] w fun e' w' => e' = .returned (.tuple #[.int .i64 (Pl.placeV c.r z 2 k e), .bool true]) ∧ CAt w' lo b g (c.plc z 2 k e) h ∧ Kept b (b + 1) w w' := by
  have t2 := ta22
  have t3 := ta23
  have t4 := ta24
  have t5 := ta25
  have t6 := ta26
  obtain ⟨n, rfl⟩ : ∃ n : Nat, k = (n : Int) := ⟨k.toNat, by omega⟩
  have hn : n < 4 := by omega
  obtain ⟨y0, y1⟩ := hg.aw n hn
  have h4 := hide hg.a4
  have l9 := hC.lt
  have HC := hide hC
  have EV : Hid (el c.r.ys n = Pl.placeV c.r z 2 (n : Int) e) := hide (by simp [Pl.placeV])
  have ER : Hid (c.plc z 2 (n : Int) e = c) := hide (by unfold Pl.Mc.plc Pl.placeR; rw [if_neg (by decide), if_neg (by decide)]; rfl)
  have HN := hide (Blk.new w #[.int .i64 (n : Int)] 200)
  have C1 := hide (hC.alloc (.cells #[.int .i64 (n : Int)] 200))
  have HK := hide (kept_alloc w (.cells #[.int .i64 (n : Int)] 200))
  clear hg hC
  obtain ⟨X, hX⟩ : ∃ X : World, w.alloc (.cells #[.int .i64 (n : Int)] 200) = X := ⟨_, rfl⟩
  rw [hX] at HN C1 HK
  have i0 : (0 : Int) ≤ (n : Int) := by omega
  have i1 : (n : Int) < 4 := by omega
  have n0 := HN.out.cell (i := 0) rfl
  go_enter Tryz.func179, Tryz.ntmps179
  go_wp2_with fail
  clear hX t2 t3 t4 t5 t6
  have q0 := C1.out.cY hn
  go_region
  go_wp2_with fail
  go_ret2
  exact ⟨rIB EV.out rfl, by rw [ER.out]; exact C1.out.drew, kept_drew HK.out.any⟩
set_option maxHeartbeats 4000000 in
set_option maxRecDepth 100000 in
theorem cPlace5 (w : World) (lo b g : Nat) (c : Pl.Mc) (h : Bool) (z k e : Int) (hC : CAt w lo b g c h) (hg : Pl.Good c.r) (hz : z = 1 ∨ z = 2) (k0 : 0 ≤ k) (k3 : k ≤ 3) (x0 : 0 ≤ e) (x1 : e ≤ 65535) :
    Calls Tryz.prog 179 #[.pointer (some ⟨b, 0, none⟩), .int .i64 z, .iface 204 (.agg #[.int .i64 k, .int .i64 e])] w fun e' w' => e' = .returned (.tuple #[.int .i64 (Pl.placeV c.r z 5 k e), .bool true]) ∧ CAt w' lo b g (c.plc z 5 k e) h ∧ Kept b (b + 1) w w' := by
  have t2 := ta52
  have t3 := ta53
  have t4 := ta54
  have t5 := ta55
  have t6 := ta56
  obtain ⟨n, rfl⟩ : ∃ n : Nat, k = (n : Int) := ⟨k.toNat, by omega⟩
  have hn : n < 4 := by omega
  obtain ⟨y0, y1⟩ := hg.aw n hn
  have h4 := hide hg.a4
  have l9 := hC.lt
  have HC := hide hC
  have EV : Hid ((el c.r.ys n + e) % 65536 = Pl.placeV c.r z 5 (n : Int) e) := hide (by simp [Pl.placeV])
  have ER : Hid (c.plc z 5 (n : Int) e = c) := hide (by unfold Pl.Mc.plc Pl.placeR; rw [if_neg (by decide), if_neg (by decide)]; rfl)
  have HN := hide (Blk.new w #[.int .i64 (n : Int), .int .i64 e] 204)
  have C1 := hide (hC.alloc (.cells #[.int .i64 (n : Int), .int .i64 e] 204))
  have HK := hide (kept_alloc w (.cells #[.int .i64 (n : Int), .int .i64 e] 204))
  clear hg hC
  obtain ⟨X, hX⟩ : ∃ X : World, w.alloc (.cells #[.int .i64 (n : Int), .int .i64 e] 204) = X := ⟨_, rfl⟩
  rw [hX] at HN C1 HK
  have i0 : (0 : Int) ≤ (n : Int) := by omega
  have i1 : (n : Int) < 4 := by omega
  have n0 := HN.out.cell (i := 0) rfl
  go_enter Tryz.func179, Tryz.ntmps179
  go_wp2_with fail
  clear hX t2 t3 t4 t5 t6
  have q0 := C1.out.cY hn
  have n1 := HN.out.cell (i := 1) rfl
  go_quiet (first | (go_at_call 95; exact Calls.quiet_of_same (wrapWord _ _)) | fail)
  go_wp2_with fail
  go_ret2
  exact ⟨rIB EV.out rfl, by rw [ER.out]; exact C1.out.any (kept_drewN (Kept.refl _ _ _) _), kept_drewN HK.out.any _⟩
set_option maxHeartbeats 4000000 in
set_option maxRecDepth 100000 in
theorem cPlace6 (w : World) (lo b g : Nat) (c : Pl.Mc) (h : Bool) (z k e : Int) (hC : CAt w lo b g c h) (hg : Pl.Good c.r) (hz : z = 1 ∨ z = 2) (k0 : 0 ≤ k) (k3 : k ≤ 3) (x0 : 0 ≤ e) (x1 : e ≤ 65535) :
    Calls Tryz.prog 179 #[.pointer (some ⟨b, 0, none⟩), .int .i64 z, .iface 205 (.agg #[.int .i64 e])] w fun e' w' => e' = .returned (.tuple #[.int .i64 (Pl.placeV c.r z 6 k e), .bool true]) ∧ CAt w' lo b g (c.plc z 6 k e) h ∧ Kept b (b + 1) w w' := by
  have t2 := ta62
  have t3 := ta63
  have t4 := ta64
  have t5 := ta65
  have t6 := ta66
  obtain ⟨n, rfl⟩ : ∃ n : Nat, k = (n : Int) := ⟨k.toNat, by omega⟩
  have hn : n < 4 := by omega
  obtain ⟨y0, y1⟩ := hg.aw n hn
  have h4 := hide hg.a4
  have l9 := hC.lt
  have HC := hide hC
  have EV : Hid (e = Pl.placeV c.r z 6 (n : Int) e) := hide (by simp [Pl.placeV])
  have ER : Hid (c.plc z 6 (n : Int) e = c) := hide (by unfold Pl.Mc.plc Pl.placeR; rw [if_neg (by decide), if_neg (by decide)]; rfl)
  have HN := hide (Blk.new w #[.int .i64 e] 205)
  have C1 := hide (hC.alloc (.cells #[.int .i64 e] 205))
  have HK := hide (kept_alloc w (.cells #[.int .i64 e] 205))
  clear hg hC
  obtain ⟨X, hX⟩ : ∃ X : World, w.alloc (.cells #[.int .i64 e] 205) = X := ⟨_, rfl⟩
  rw [hX] at HN C1 HK
  have i0 : (0 : Int) ≤ (n : Int) := by omega
  have i1 : (n : Int) < 4 := by omega
  have n0 := HN.out.cell (i := 0) rfl
  go_enter Tryz.func179, Tryz.ntmps179
  go_wp2_with fail
  clear hX t2 t3 t4 t5 t6
  go_ret2
  exact ⟨rIB EV.out rfl, by rw [ER.out]; exact C1.out, HK.out.any⟩
set_option maxHeartbeats 4000000 in
set_option maxRecDepth 100000 in
theorem cPlace3 (w : World) (lo b g : Nat) (c : Pl.Mc) (h : Bool) (z k e : Int) (hC : CAt w lo b g c h) (hg : Pl.Good c.r) (hz : z = 1 ∨ z = 2) (k0 : 0 ≤ k) (k3 : k ≤ 3) (x0 : 0 ≤ e) (x1 : e ≤ 65535) :
    Calls Tryz.prog 179 #[.pointer (some ⟨b, 0, none⟩), .int .i64 z, .iface 201 (.agg #[.int .i64 k])] w fun e' w' => e' = .returned (.tuple #[.int .i64 (Pl.placeV c.r z 3 k e), .bool true]) ∧ CAt w' lo b g (c.plc z 3 k e) h ∧ Kept b (b + 1) w w' := by
  have t2 := ta32
  have t3 := ta33
  have t4 := ta34
  have t5 := ta35
  have t6 := ta36
  obtain ⟨n, rfl⟩ : ∃ n : Nat, k = (n : Int) := ⟨k.toNat, by omega⟩
  have hn : n < 4 := by omega
  obtain ⟨y0, y1⟩ := hg.aw n hn
  have h4 := hide hg.a4
  have l9 := hC.lt
  have HC := hide hC
  have EV : Hid (el c.r.ys n = Pl.placeV c.r z 3 (n : Int) e) := hide (by simp [Pl.placeV])
  obtain ⟨nb0, nb1⟩ : 1 ≤ Pl.byN z (n : Int) ∧ Pl.byN z (n : Int) ≤ 2 := by unfold Pl.byN; split <;> omega
  have ew : IntKind.i64.wrap (el c.r.ys n + Pl.byN z (n : Int)) = el c.r.ys n + Pl.byN z (n : Int) := by rw [IntKind.wrap_i64]; omega
  have ER : Hid (c.plc z 3 (n : Int) e = c.setA n ((el c.r.ys n + Pl.byN z (n : Int)) % 65536)) := hide (by simp [Pl.Mc.plc, Pl.placeR, Pl.Mc.setA, Pl.Mc.setR])
  have HN := hide (Blk.new w #[.int .i64 (n : Int)] 201)
  have C1 := hide (hC.alloc (.cells #[.int .i64 (n : Int)] 201))
  have HK := hide (kept_alloc w (.cells #[.int .i64 (n : Int)] 201))
  clear hg hC
  obtain ⟨X, hX⟩ : ∃ X : World, w.alloc (.cells #[.int .i64 (n : Int)] 201) = X := ⟨_, rfl⟩
  rw [hX] at HN C1 HK
  have i0 : (0 : Int) ≤ (n : Int) := by omega
  have i1 : (n : Int) < 4 := by omega
  have n0 := HN.out.cell (i := 0) rfl
  go_enter Tryz.func179, Tryz.ntmps179
  go_wp2_with fail
  clear hX t2 t3 t4 t5 t6
  have q0 := C1.out.cY hn
  go_region
  go_wp2_with fail
  clear q0 n0
  refine wp_region_still_tail 12 (by kernel_rfl) (by kernel_rfl) ?_
  simp only [List.take_succ_cons, List.take_zero, List.drop_succ_cons, List.drop_zero]
  obtain ⟨Y, hY⟩ : ∃ Y : World, Y = { X.drew with drawn := (X.drew).drawn + 1 } := ⟨_, rfl⟩
  rw [← hY]
  have CY : Hid (CAt Y lo b g c h) := hide (by rw [hY]; exact C1.out.any (kept_drew (kept_drew (Kept.refl _ _ _))))
  have NY : Hid (Blk Y w.heap.size #[.int .i64 (n : Int)] 201) := hide (by rw [hY]; exact HN.out)
  have KY : Hid (Kept 0 0 w Y) := hide (by rw [hY]; exact kept_drew (kept_drew HK.out))
  clear hY
  have q1 := CY.out.cY hn
  have qf := CY.out.fz (4 + n)
  have n1 := NY.out.cell (i := 0) rfl
  iterate 7 still_step
  still_call (strideOf _ _ _ hz)
  iterate 1 still_step
  still_call (wrapWord _ _)
  iterate 2 still_step
  refine wpStill_nil ?_
  go_wp2_with fail
  go_ret2
  exact ⟨rIB EV.out rfl, by rw [ER.out]; exact CY.out.setY h4.out hn _, kept_set KY.out.any _ _ _ (.inl ⟨by omega, by omega⟩)⟩
set_option maxHeartbeats 4000000 in
set_option maxRecDepth 100000 in
theorem cPlace4 (w : World) (lo b g : Nat) (c : Pl.Mc) (h : Bool) (z k e : Int) (hC : CAt w lo b g c h) (hg : Pl.Good c.r) (hz : z = 1 ∨ z = 2) (k0 : 0 ≤ k) (k3 : k ≤ 3) (x0 : 0 ≤ e) (x1 : e ≤ 65535) :
    Calls Tryz.prog 179 #[.pointer (some ⟨b, 0, none⟩), .int .i64 z, .iface 202 (.agg #[.int .i64 k])] w fun e' w' => e' = .returned (.tuple #[.int .i64 (Pl.placeV c.r z 4 k e), .bool true]) ∧ CAt w' lo b g (c.plc z 4 k e) h ∧ Kept b (b + 1) w w' := by
  have t2 := ta42
  have t3 := ta43
  have t4 := ta44
  have t5 := ta45
  have t6 := ta46
  obtain ⟨n, rfl⟩ : ∃ n : Nat, k = (n : Int) := ⟨k.toNat, by omega⟩
  have hn : n < 4 := by omega
  obtain ⟨y0, y1⟩ := hg.aw n hn
  have h4 := hide hg.a4
  have l9 := hC.lt
  have HC := hide hC
  have EV : Hid ((el c.r.ys n - Pl.byN z (n : Int)) % 65536 = Pl.placeV c.r z 4 (n : Int) e) := hide (by simp [Pl.placeV])
  obtain ⟨nb0, nb1⟩ : 1 ≤ Pl.byN z (n : Int) ∧ Pl.byN z (n : Int) ≤ 2 := by unfold Pl.byN; split <;> omega
  have ew : IntKind.i64.wrap (el c.r.ys n - Pl.byN z (n : Int)) = el c.r.ys n - Pl.byN z (n : Int) := by rw [IntKind.wrap_i64]; omega
  have ER : Hid (c.plc z 4 (n : Int) e = c.setA n ((el c.r.ys n - Pl.byN z (n : Int)) % 65536)) := hide (by simp [Pl.Mc.plc, Pl.placeR, Pl.Mc.setA, Pl.Mc.setR])
  have HN := hide (Blk.new w #[.int .i64 (n : Int)] 202)
  have C1 := hide (hC.alloc (.cells #[.int .i64 (n : Int)] 202))
  have HK := hide (kept_alloc w (.cells #[.int .i64 (n : Int)] 202))
  clear hg hC
  obtain ⟨X, hX⟩ : ∃ X : World, w.alloc (.cells #[.int .i64 (n : Int)] 202) = X := ⟨_, rfl⟩
  rw [hX] at HN C1 HK
  have i0 : (0 : Int) ≤ (n : Int) := by omega
  have i1 : (n : Int) < 4 := by omega
  have n0 := HN.out.cell (i := 0) rfl
  go_enter Tryz.func179, Tryz.ntmps179
  go_wp2_with fail
  clear hX t2 t3 t4 t5 t6
  clear n0
  refine wp_region_still_tail 18 (by kernel_rfl) (by kernel_rfl) ?_
  simp only [List.take_succ_cons, List.take_zero, List.drop_succ_cons, List.drop_zero]
  obtain ⟨Y, hY⟩ : ∃ Y : World, Y = { X with drawn := (X).drawn + 1 } := ⟨_, rfl⟩
  rw [← hY]
  have CY : Hid (CAt Y lo b g c h) := hide (by rw [hY]; exact C1.out.any (kept_drew (Kept.refl _ _ _)))
  have NY : Hid (Blk Y w.heap.size #[.int .i64 (n : Int)] 202) := hide (by rw [hY]; exact HN.out)
  have KY : Hid (Kept 0 0 w Y) := hide (by rw [hY]; exact kept_drew HK.out)
  clear hY
  have q1 := CY.out.cY hn
  have qf := CY.out.fz (4 + n)
  have n1 := NY.out.cell (i := 0) rfl
  iterate 13 still_step
  still_call (strideOf _ _ _ hz)
  iterate 1 still_step
  still_call (wrapWord _ _)
  iterate 2 still_step
  refine wpStill_nil ?_
  go_wp2_with fail
  go_region
  go_wp2_with fail
  go_ret2
  exact ⟨rIB EV.out rfl, by rw [ER.out]; exact (CY.out.setY h4.out hn _).drew, kept_drew (kept_set KY.out.any _ _ _ (.inl ⟨by omega, by omega⟩))⟩
theorem cPlace0 (w : World) (b : Nat) (z : Int) (v : Value) :
    Calls Tryz.prog 179 #[.pointer (some ⟨b, 0, none⟩), .int .i64 z, .iface 189 v] w fun e' w' => e' = .returned (.tuple #[.int .i64 0, .bool false]) ∧ w' = w := by
  have t2 := ta02
  have t3 := ta03
  have t4 := ta04
  have t5 := ta05
  have t6 := ta06
  go_enter Tryz.func179, Tryz.ntmps179
  go_wp2_with fail
  go_ret2
  exact ⟨rfl, rfl⟩
theorem cPlace1 (w : World) (b : Nat) (z : Int) (v : Value) :
    Calls Tryz.prog 179 #[.pointer (some ⟨b, 0, none⟩), .int .i64 z, .iface 190 v] w fun e' w' => e' = .returned (.tuple #[.int .i64 0, .bool false]) ∧ w' = w := by
  have t2 := ta12
  have t3 := ta13
  have t4 := ta14
  have t5 := ta15
  have t6 := ta16
  go_enter Tryz.func179, Tryz.ntmps179
  go_wp2_with fail
  go_ret2
  exact ⟨rfl, rfl⟩
theorem cPlace7 (w : World) (b : Nat) (z : Int) (v : Value) :
    Calls Tryz.prog 179 #[.pointer (some ⟨b, 0, none⟩), .int .i64 z, .iface 192 v] w fun e' w' => e' = .returned (.tuple #[.int .i64 0, .bool false]) ∧ w' = w := by
  have t2 := ta72
  have t3 := ta73
  have t4 := ta74
  have t5 := ta75
  have t6 := ta76
  go_enter Tryz.func179, Tryz.ntmps179
  go_wp2_with fail
  go_ret2
  exact ⟨rfl, rfl⟩
def Pl.Mc.slot (c : Pl.Mc) (z m k e : Int) : Pl.Mc := bif Pl.Mc.inReg m then c else c.plc z m k e
/-- .. of whatever way -/
theorem cPlaceV (w : World) (lo b g : Nat) (c : Pl.Mc) (h : Bool) (z m k e : Int) (hC : CAt w lo b g c h) (hg : Pl.Good c.r) (hz : z = 1 ∨ z = 2) (m0 : 0 ≤ m) (m7 : m ≤ 7) (k0 : 0 ≤ k) (k3 : k ≤ 3) (x0 : 0 ≤ e) (x1 : e ≤ 65535) :
    Calls Tryz.prog 179 #[.pointer (some ⟨b, 0, none⟩), .int .i64 z, wayV m k e] w fun e' w' => e' = .returned (.tuple #[.int .i64 (c.readA z m k e), .bool (!Pl.Mc.inReg m)]) ∧ CAt w' lo b g (c.slot z m k e) h ∧ Kept b (b + 1) w w' := by
  have : m = 0 ∨ m = 1 ∨ m = 2 ∨ m = 3 ∨ m = 4 ∨ m = 5 ∨ m = 6 ∨ m = 7 := by omega
  rcases this with rfl | rfl | rfl | rfl | rfl | rfl | rfl | rfl
  · refine (cPlace0 w b z (.agg #[.int .i64 k])).mono ?_; rintro e9 w9 ⟨rfl, rfl⟩; exact ⟨rfl, hC, Kept.refl _ _ _⟩
  · refine (cPlace1 w b z (.agg #[.int .i64 k])).mono ?_; rintro e9 w9 ⟨rfl, rfl⟩; exact ⟨rfl, hC, Kept.refl _ _ _⟩
  · exact cPlace2 w lo b g c h z k e hC hg hz k0 k3 x0 x1
  · exact cPlace3 w lo b g c h z k e hC hg hz k0 k3 x0 x1
  · exact cPlace4 w lo b g c h z k e hC hg hz k0 k3 x0 x1
  · exact cPlace5 w lo b g c h z k e hC hg hz k0 k3 x0 x1
  · exact cPlace6 w lo b g c h z k e hC hg hz k0 k3 x0 x1
  · refine (cPlace7 w b z (.agg #[.int .i64 e])).mono ?_; rintro e9 w9 ⟨rfl, rfl⟩; exact ⟨rfl, hC, Kept.refl _ _ _⟩
end Go.Proofs.YtblddehlkaolbaaGreatDoor

namespace Go.Proofs.YtblddehlkaolbaaGreatDoor
open Go.RowKit
set_option linter.unusedVariables false
theorem cDataK (w : World) (lo b g : Nat) (c : Pl.Mc) (h : Bool) (z k : Int) (hC : CAt w lo b g c h) (hz : z = 1 ∨ z = 2) (k0 : 0 ≤ k) (k3 : k ≤ 3) :
    Calls Tryz.prog 172 #[.pointer (some ⟨b, 0, none⟩), .int .i64 z, .int .i64 k] w fun e w' => e = .returned (.int .i64 (c.low z k)) ∧ Kept 0 0 w w' := by
  refine (cData w lo b g c h z k hC hz k0 k3).mono ?_
  rintro e w' ⟨rfl, n, rfl⟩
  exact ⟨rfl, kept_drewN (Kept.refl _ _ _) _⟩
theorem keptP {w W W' : World} {lo hi l h : Nat} (k : Kept lo hi w W) (m : Kept l h W W') (hg : w.heap.size ≤ l) : Kept lo hi w W' :=
  ⟨m.os.trans k.os, m.tape.trans k.tape, m.output.trans k.output, Nat.le_trans k.size m.size, fun i hi hn => (m.block i (Nat.lt_of_lt_of_le hi k.size) (by omega)).trans (k.block i hi hn)⟩
theorem wayV_if (m k e : Int) : ∃ (T : TypeId) (U : Value), wayV m k e = .iface T U := by
  unfold wayV; repeat' split
  all_goals exact ⟨_, _, rfl⟩
set_option maxRecDepth 100000 in
set_option maxHeartbeats 4000000 in
theorem cSlot (w : World) (lo b g : Nat) (c : Pl.Mc) (h : Bool) (x : Pl.In) (hC : CAt w lo b g c h) (G : Pl.GM c) (B : Pl.InB x) :
    Calls Tryz.prog 144 #[.pointer (some ⟨b, 0, none⟩), .agg #[.int .i64 x.op, .int .i64 x.z, .int .i64 x.r, .int .i64 x.m, .int .i64 x.k, .int .i64 x.e, .int .i64 x.s]] w fun e w' => e = .returned (.agg #[wayV x.m x.k x.e, .int .i64 x.z, .int .i64 (c.readA x.z x.m x.k x.e)]) ∧ CAt w' lo b g (c.slot x.z x.m x.k x.e) h ∧ Kept b (b + 1) w w' := by
  obtain ⟨l0, l1, l2, l3, l4⟩ := hC.lt
  have HB := hide B
  have HG := hide G.g
  have K0 := hide (kept_new (kept_alloc w (.cells #[.int .i64 x.op, .int .i64 x.z, .int .i64 x.r, .int .i64 x.m, .int .i64 x.k, .int .i64 x.e, .int .i64 x.s] 79)) (.cells #[.nilIface, .int .i64 0, .int .i64 0] 162))
  have C0 := hide ((hC.alloc (.cells #[.int .i64 x.op, .int .i64 x.z, .int .i64 x.r, .int .i64 x.m, .int .i64 x.k, .int .i64 x.e, .int .i64 x.s] 79)).alloc (.cells #[.nilIface, .int .i64 0, .int .i64 0] 162))
  have I0 := hide ((Blk.new w #[.int .i64 x.op, .int .i64 x.z, .int .i64 x.r, .int .i64 x.m, .int .i64 x.k, .int .i64 x.e, .int .i64 x.s] 79).alloc (.cells #[.nilIface, .int .i64 0, .int .i64 0] 162))
  have R0 := Blk.new (w.alloc (.cells #[.int .i64 x.op, .int .i64 x.z, .int .i64 x.r, .int .i64 x.m, .int .i64 x.k, .int .i64 x.e, .int .i64 x.s] 79)) #[.nilIface, .int .i64 0, .int .i64 0] 162
  simp only [World.size_alloc] at R0
  replace R0 := hide R0
  obtain ⟨X, hX⟩ : ∃ X : World, (w.alloc (.cells #[.int .i64 x.op, .int .i64 x.z, .int .i64 x.r, .int .i64 x.m, .int .i64 x.k, .int .i64 x.e, .int .i64 x.s] 79)).alloc (.cells #[.nilIface, .int .i64 0, .int .i64 0] 162) = X := ⟨_, rfl⟩
  rw [hX] at K0 C0 I0 R0
  obtain ⟨T, U, hV⟩ := wayV_if x.m x.k x.e
  have HV := hide hV
  obtain ⟨A, hA⟩ : ∃ A, A = c.readA x.z x.m x.k x.e := ⟨_, rfl⟩
  have HA := hide hA
  rw [hV, ← hA]
  clear hC G B hV hA
  have p := I0.out.all
  go_enter Tryz.func144, Tryz.ntmps144
  go_wp2_with (go_at_call 178; refine (wayOfV x.m x.k x.e _ HB.out.m0 HB.out.m1).mono ?_; rintro e9 W1 ⟨rfl, k1⟩; rw [HV.out]; have C1 := hide (C0.out.any k1); have I1 := hide (I0.out.kept0 k1); have R1 := hide (R0.out.kept0 k1); have K1 := hide (K0.out.trans k1); clear k1)
  clear hX p
  have p := I1.out.cell (i := 1) rfl
  go_region_held3 (fun w' => w'.cell? ⟨w.heap.size, 1, none⟩ = some (.int .i64 x.z)) (first | with_reducible exact I2.out.cell (i := 1) rfl | with_reducible exact I1.out.cell (i := 1) rfl | exact (show Blk _ _ _ _ from I1.out).cell (i := 1) rfl)
    (first | (go_at_call 179; rw [← HV.out]; refine (cPlaceV _ lo b g c h x.z x.m x.k x.e C1.out.drew HG.out HB.out.z HB.out.m0 HB.out.m1 HB.out.k0 HB.out.k1 HB.out.e0 HB.out.e1).mono ?_; rintro e9 W2 ⟨rfl, hc2, kd⟩; rw [← HA.out]; try rw [HV.out]; have k2 := undrewK kd; have C2 := hide hc2; have I2 := hide (I1.out.kept k2 (by omega)); have R2 := hide (R1.out.kept k2 (by omega)); have K2 := hide (K1.out.any.trans k2); clear kd k2 hc2))
  clear p
  have p2 := I2.out.all
  have r2 := R2.out.all
  have rf2 := R2.out.fz
  go_wp2_with fail
  have K3 := ((kept_one W2 (w.heap.size + 1) 0 (.iface T U)).one 1 (.int .i64 x.z)).one 2 (.int .i64 A)
  refine bodyPost_ret (v := .agg #[.iface T U, .int .i64 x.z, .int .i64 A]) ?_ rfl ⟨rfl, C2.out.kept K3 (by omega) (by omega), keptP K2.out K3 (by omega)⟩
  rw [results_one rfl]; go_simp
set_option maxRecDepth 100000 in
set_option maxHeartbeats 4000000 in
theorem cRead0 (w : World) (lo b g : Nat) (c : Pl.Mc) (h : Bool) (z a k : Int) (hC : CAt w lo b g c h) (hz : z = 1 ∨ z = 2) (k0 : 0 ≤ k) (k3 : k ≤ 3) :
    Calls Tryz.prog 170 #[.pointer (some ⟨b, 0, none⟩), .agg #[.iface 189 (.agg #[.int .i64 k]), .int .i64 z, .int .i64 a]] w fun e w' => e = .returned (.tuple #[.int .i64 (c.low z k), .agg #[.int .i64 0, .int .i64 0, .int .i64 0, .int .i64 0, .bool false]]) ∧ CAt w' lo b g c h ∧ Kept 0 0 w w' := by
  have t0 := tx00
  obtain ⟨l0, l1, l2, l3, l4⟩ := hC.lt
  have K0 := hide (kept_new (kept_alloc w (.cells #[.iface 189 (.agg #[.int .i64 k]), .int .i64 z, .int .i64 a] 162)) (.cells #[.int .i64 0, .int .i64 0, .int .i64 0, .int .i64 0, .bool false] 38))
  have C0 := hide ((hC.alloc (.cells #[.iface 189 (.agg #[.int .i64 k]), .int .i64 z, .int .i64 a] 162)).alloc (.cells #[.int .i64 0, .int .i64 0, .int .i64 0, .int .i64 0, .bool false] 38))
  have I0 := hide ((Blk.new w #[.iface 189 (.agg #[.int .i64 k]), .int .i64 z, .int .i64 a] 162).alloc (.cells #[.int .i64 0, .int .i64 0, .int .i64 0, .int .i64 0, .bool false] 38))
  have R0 := Blk.new (w.alloc (.cells #[.iface 189 (.agg #[.int .i64 k]), .int .i64 z, .int .i64 a] 162)) #[.int .i64 0, .int .i64 0, .int .i64 0, .int .i64 0, .bool false] 38
  simp only [World.size_alloc] at R0
  replace R0 := hide R0
  obtain ⟨X, hX⟩ : ∃ X : World, (w.alloc (.cells #[.iface 189 (.agg #[.int .i64 k]), .int .i64 z, .int .i64 a] 162)).alloc (.cells #[.int .i64 0, .int .i64 0, .int .i64 0, .int .i64 0, .bool false] 38) = X := ⟨_, rfl⟩
  rw [hX] at K0 C0 I0 R0
  have p := I0.out.all
  have r := R0.out.all
  have rf := R0.out.fz
  have sX : w.heap.size + 1 < X.heap.size := R0.out.lt
  have K1 := hide (kept_new K0.out (.cells #[.int .i64 k] 189))
  have C1 := hide (C0.out.alloc (.cells #[.int .i64 k] 189))
  have R1 := hide (R0.out.alloc (.cells #[.int .i64 k] 189))
  have I1 := hide (I0.out.alloc (.cells #[.int .i64 k] 189))
  have N1 := hide (Blk.new X #[.int .i64 k] 189)
  obtain ⟨W1, hW⟩ : ∃ W : World, X.alloc (.cells #[.int .i64 k] 189) = W := ⟨_, rfl⟩
  rw [hW] at K1 C1 R1 I1 N1
  have p1 := I1.out.all
  have r1 := R1.out.all
  have rf1 := R1.out.fz
  have n1 := N1.out.all
  have nf1 := N1.out.fz
  have s1 : X.heap.size < W1.heap.size := N1.out.lt
  clear hC
  go_enter Tryz.func170, Tryz.ntmps170
  go_wp2_with (go_at_call 172; refine (cDataK _ lo b g c h z k C1.out hz k0 k3).mono ?_; rintro e9 W2 ⟨rfl, k1⟩; have C2 := hide (C1.out.any k1); have R2 := hide (R1.out.kept0 k1); have K2 := hide (K1.out.trans k1); have r2 := R2.out.all; have rf2 := R2.out.fz; clear k1)
  have K3 := (((((kept_one W2 (w.heap.size + 1) 0 (.int .i64 0)).one 1 (.int .i64 0)).one 2 (.int .i64 0)).one 3 (.int .i64 0)).one 4 (.bool false))
  refine bodyPost_ret (v := .tuple #[.int .i64 (c.low z k), .agg #[.int .i64 0, .int .i64 0, .int .i64 0, .int .i64 0, .bool false]]) ?_ rfl ⟨rfl, C2.out.kept K3 (by omega) (by omega), kept_over K2.out K3 (by omega)⟩
  rw [results_tc rfl]; go_simp
set_option maxRecDepth 100000 in
set_option maxHeartbeats 4000000 in
theorem cRead1 (w : World) (lo b g : Nat) (c : Pl.Mc) (h : Bool) (z a k : Int) (hC : CAt w lo b g c h) (k0 : 0 ≤ k) (k3 : k ≤ 3) :
    Calls Tryz.prog 170 #[.pointer (some ⟨b, 0, none⟩), .agg #[.iface 190 (.agg #[.int .i64 k]), .int .i64 z, .int .i64 a]] w fun e w' => e = .returned (.tuple #[.int .i64 (el c.r.ys k.toNat), .agg #[.int .i64 0, .int .i64 0, .int .i64 0, .int .i64 0, .bool false]]) ∧ CAt w' lo b g c h ∧ Kept 0 0 w w' := by
  obtain ⟨n, rfl⟩ : ∃ n : Nat, k = (n : Int) := ⟨k.toNat, by omega⟩
  have hn : n < 4 := by omega
  have t0 := tx10
  have t1 := tx11
  obtain ⟨l0, l1, l2, l3, l4⟩ := hC.lt
  have K0 := hide (kept_new (kept_alloc w (.cells #[.iface 190 (.agg #[.int .i64 (n : Int)]), .int .i64 z, .int .i64 a] 162)) (.cells #[.int .i64 0, .int .i64 0, .int .i64 0, .int .i64 0, .bool false] 38))
  have C0 := hide ((hC.alloc (.cells #[.iface 190 (.agg #[.int .i64 (n : Int)]), .int .i64 z, .int .i64 a] 162)).alloc (.cells #[.int .i64 0, .int .i64 0, .int .i64 0, .int .i64 0, .bool false] 38))
  have I0 := hide ((Blk.new w #[.iface 190 (.agg #[.int .i64 (n : Int)]), .int .i64 z, .int .i64 a] 162).alloc (.cells #[.int .i64 0, .int .i64 0, .int .i64 0, .int .i64 0, .bool false] 38))
  have R0 := Blk.new (w.alloc (.cells #[.iface 190 (.agg #[.int .i64 (n : Int)]), .int .i64 z, .int .i64 a] 162)) #[.int .i64 0, .int .i64 0, .int .i64 0, .int .i64 0, .bool false] 38
  simp only [World.size_alloc] at R0
  replace R0 := hide R0
  obtain ⟨X, hX⟩ : ∃ X : World, (w.alloc (.cells #[.iface 190 (.agg #[.int .i64 (n : Int)]), .int .i64 z, .int .i64 a] 162)).alloc (.cells #[.int .i64 0, .int .i64 0, .int .i64 0, .int .i64 0, .bool false] 38) = X := ⟨_, rfl⟩
  rw [hX] at K0 C0 I0 R0
  have p := I0.out.all
  have r := R0.out.all
  have rf := R0.out.fz
  have sX : w.heap.size + 1 < X.heap.size := R0.out.lt
  have K1 := hide (kept_new K0.out (.cells #[.int .i64 (n : Int)] 190))
  have C1 := hide (C0.out.alloc (.cells #[.int .i64 (n : Int)] 190))
  have R1 := hide (R0.out.alloc (.cells #[.int .i64 (n : Int)] 190))
  have I1 := hide (I0.out.alloc (.cells #[.int .i64 (n : Int)] 190))
  have N1 := hide (Blk.new X #[.int .i64 (n : Int)] 190)
  obtain ⟨W1, hW⟩ : ∃ W : World, X.alloc (.cells #[.int .i64 (n : Int)] 190) = W := ⟨_, rfl⟩
  rw [hW] at K1 C1 R1 I1 N1
  have p1 := I1.out.all
  have r1 := R1.out.all
  have rf1 := R1.out.fz
  have n1 := N1.out.all
  have nf1 := N1.out.fz
  have s1 : X.heap.size < W1.heap.size := N1.out.lt
  clear hC
  have i0 : (0 : Int) ≤ (n : Int) := by omega
  have i1 : (n : Int) < 4 := by omega
  go_enter Tryz.func170, Tryz.ntmps170
  go_wp2_with fail
  clear hW hX p r rf
  have q := C1.out.cY hn
  go_region
  go_wp2_with fail
  have K2 := kept_drew (((((kept_one W1 (w.heap.size + 1) 0 (.int .i64 0)).one 1 (.int .i64 0)).one 2 (.int .i64 0)).one 3 (.int .i64 0)).one 4 (.bool false))
  refine bodyPost_ret (v := .tuple #[.int .i64 (el c.r.ys n), .agg #[.int .i64 0, .int .i64 0, .int .i64 0, .int .i64 0, .bool false]]) ?_ rfl ⟨rfl, C1.out.kept K2 (by omega) (by omega), kept_over K1.out K2 (by omega)⟩
  rw [results_tc rfl]; go_simp
set_option maxRecDepth 100000 in
set_option maxHeartbeats 4000000 in
theorem cRead7 (w : World) (lo b g : Nat) (c : Pl.Mc) (h : Bool) (z a e : Int) (hC : CAt w lo b g c h) :
    Calls Tryz.prog 170 #[.pointer (some ⟨b, 0, none⟩), .agg #[.iface 192 (.agg #[.int .i64 e]), .int .i64 z, .int .i64 a]] w fun e' w' => e' = .returned (.tuple #[.int .i64 e, .agg #[.int .i64 0, .int .i64 0, .int .i64 0, .int .i64 0, .bool false]]) ∧ CAt w' lo b g c h ∧ Kept 0 0 w w' := by
  have t0 := tx70
  have t1 := tx71
  have t7 := tx77
  obtain ⟨l0, l1, l2, l3, l4⟩ := hC.lt
  have K0 := hide (kept_new (kept_alloc w (.cells #[.iface 192 (.agg #[.int .i64 e]), .int .i64 z, .int .i64 a] 162)) (.cells #[.int .i64 0, .int .i64 0, .int .i64 0, .int .i64 0, .bool false] 38))
  have C0 := hide ((hC.alloc (.cells #[.iface 192 (.agg #[.int .i64 e]), .int .i64 z, .int .i64 a] 162)).alloc (.cells #[.int .i64 0, .int .i64 0, .int .i64 0, .int .i64 0, .bool false] 38))
  have I0 := hide ((Blk.new w #[.iface 192 (.agg #[.int .i64 e]), .int .i64 z, .int .i64 a] 162).alloc (.cells #[.int .i64 0, .int .i64 0, .int .i64 0, .int .i64 0, .bool false] 38))
  have R0 := Blk.new (w.alloc (.cells #[.iface 192 (.agg #[.int .i64 e]), .int .i64 z, .int .i64 a] 162)) #[.int .i64 0, .int .i64 0, .int .i64 0, .int .i64 0, .bool false] 38
  simp only [World.size_alloc] at R0
  replace R0 := hide R0
  obtain ⟨X, hX⟩ : ∃ X : World, (w.alloc (.cells #[.iface 192 (.agg #[.int .i64 e]), .int .i64 z, .int .i64 a] 162)).alloc (.cells #[.int .i64 0, .int .i64 0, .int .i64 0, .int .i64 0, .bool false] 38) = X := ⟨_, rfl⟩
  rw [hX] at K0 C0 I0 R0
  have p := I0.out.all
  have r := R0.out.all
  have rf := R0.out.fz
  have sX : w.heap.size + 1 < X.heap.size := R0.out.lt
  have K1 := hide (kept_new K0.out (.cells #[.int .i64 e] 192))
  have C1 := hide (C0.out.alloc (.cells #[.int .i64 e] 192))
  have R1 := hide (R0.out.alloc (.cells #[.int .i64 e] 192))
  have I1 := hide (I0.out.alloc (.cells #[.int .i64 e] 192))
  have N1 := hide (Blk.new X #[.int .i64 e] 192)
  obtain ⟨W1, hW⟩ : ∃ W : World, X.alloc (.cells #[.int .i64 e] 192) = W := ⟨_, rfl⟩
  rw [hW] at K1 C1 R1 I1 N1
  have p1 := I1.out.all
  have r1 := R1.out.all
  have rf1 := R1.out.fz
  have n1 := N1.out.all
  have nf1 := N1.out.fz
  have s1 : X.heap.size < W1.heap.size := N1.out.lt
  clear hC
  go_enter Tryz.func170, Tryz.ntmps170
  go_wp2_with fail
  have K2 := (((((kept_one W1 (w.heap.size + 1) 0 (.int .i64 0)).one 1 (.int .i64 0)).one 2 (.int .i64 0)).one 3 (.int .i64 0)).one 4 (.bool false))
  refine bodyPost_ret (v := .tuple #[.int .i64 e, .agg #[.int .i64 0, .int .i64 0, .int .i64 0, .int .i64 0, .bool false]]) ?_ rfl ⟨rfl, C1.out.kept K2 (by omega) (by omega), kept_over K1.out K2 (by omega)⟩
  rw [results_tc rfl]; go_simp
set_option maxRecDepth 100000 in
set_option maxHeartbeats 4000000 in
theorem cReadM (w : World) (lo b g : Nat) (c : Pl.Mc) (h : Bool) (z a : Int) (T : TypeId) (U : Value) (t0 : ∀ w, (Instr.typeAssert (.iface T U) 160 189 true).run Tryz.prog w = .ok (.tuple #[.agg #[.int .i64 0], .bool false]) w) (t1 : ∀ w, (Instr.typeAssert (.iface T U) 160 190 true).run Tryz.prog w = .ok (.tuple #[.agg #[.int .i64 0], .bool false]) w) (t7 : ∀ w, (Instr.typeAssert (.iface T U) 160 192 true).run Tryz.prog w = .ok (.tuple #[.agg #[.int .i64 0], .bool false]) w) (hC : CAt w lo b g c h) (G : Pl.GM c) (hf : c.f = Pl.ftNo) (hz : z = 1 ∨ z = 2) (a0 : 0 ≤ a) (a1 : a ≤ 65535) :
    Calls Tryz.prog 170 #[.pointer (some ⟨b, 0, none⟩), .agg #[.iface T U, .int .i64 z, .int .i64 a]] w fun e w' => ∃ g', e = .returned (.tuple #[.int .i64 (c.accV 1 z a 0), .agg (ftC (c.acc 1 z a 0).f)]) ∧ CAt w' lo b g' (c.acc 1 z a 0) h ∧ Since w b (b + 1) g w' g' := by
  have HA := hide (Pl.ask_at hz a0 a1)
  have HG := hide G
  obtain ⟨F, hF⟩ : ∃ F, F = Pl.Mc.accF Pl.ftNo 1 z a := ⟨_, rfl⟩
  have HF := hide hF
  rw [show (c.acc 1 z a 0).f = F by show Pl.Mc.accF c.f 1 z a = F; rw [hf, hF]]
  obtain ⟨V, hV⟩ : ∃ V, V = c.accV 1 z a 0 := ⟨_, rfl⟩
  have HV : Hid (V = if (1 : Int) = 2 then 0 else Pl.lv c.bx 1 z a 0) := hide hV
  rw [← hV]
  obtain ⟨l0, l1, l2, l3, l4⟩ := hC.lt
  have K0 := hide (kept_new (kept_alloc w (.cells #[.iface T U, .int .i64 z, .int .i64 a] 162)) (.cells #[.int .i64 0, .int .i64 0, .int .i64 0, .int .i64 0, .bool false] 38))
  have C0 := hide ((hC.alloc (.cells #[.iface T U, .int .i64 z, .int .i64 a] 162)).alloc (.cells #[.int .i64 0, .int .i64 0, .int .i64 0, .int .i64 0, .bool false] 38))
  have I0 := hide ((Blk.new w #[.iface T U, .int .i64 z, .int .i64 a] 162).alloc (.cells #[.int .i64 0, .int .i64 0, .int .i64 0, .int .i64 0, .bool false] 38))
  have R0 := Blk.new (w.alloc (.cells #[.iface T U, .int .i64 z, .int .i64 a] 162)) #[.int .i64 0, .int .i64 0, .int .i64 0, .int .i64 0, .bool false] 38
  simp only [World.size_alloc] at R0
  replace R0 := hide R0
  obtain ⟨X, hX⟩ : ∃ X : World, (w.alloc (.cells #[.iface T U, .int .i64 z, .int .i64 a] 162)).alloc (.cells #[.int .i64 0, .int .i64 0, .int .i64 0, .int .i64 0, .bool false] 38) = X := ⟨_, rfl⟩
  rw [hX] at K0 C0 I0 R0
  have p := I0.out.all
  have r := R0.out.all
  have rf := R0.out.fz
  have sX : w.heap.size + 1 < X.heap.size := R0.out.lt
  clear hC G hF hV
  go_enter Tryz.func170, Tryz.ntmps170
  go_wp2_with (go_at_call 94; refine (cAccess _ lo b g c h 1 z a 0 C0.out HG.out HA.out V HV F HF).mono ?_; rintro e9 W1 ⟨g', rfl, hc1, hs1⟩; unfold ftC; have S1 := hide (((Since.refl w b (b + 1) g).any K0.out).trans hs1); have C1 := hide hc1; have R1 := hide (hs1.blk R0.out (by omega) (by omega)); have n1 := hs1.ne (b := w.heap.size + 1) R0.out.lt (by omega); have r1 := R1.out.all; have rf1 := R1.out.fz; clear hc1 hs1)
  have K2 := (((((kept_one W1 (w.heap.size + 1) 0 (.int .i64 F.v)).one 1 (.int .i64 F.pc)).one 2 (.int .i64 F.ad)).one 3 (.int .i64 F.wo)).one 4 (.bool F.wr))
  refine bodyPost_ret (v := .tuple #[.int .i64 V, .agg #[.int .i64 F.v, .int .i64 F.pc, .int .i64 F.ad, .int .i64 F.wo, .bool F.wr]]) ?_ rfl ⟨g', rfl, C1.out.kept K2 (by omega) (by omega), S1.out.mine K2 (by omega)⟩
  rw [results_tc rfl]; go_simp
set_option maxRecDepth 100000 in
set_option maxHeartbeats 4000000 in
theorem cWrite0 (w : World) (lo b g : Nat) (c : Pl.Mc) (h : Bool) (z a k v : Int) (hC : CAt w lo b g c h) (hg : Pl.Good c.r) (hz : z = 1 ∨ z = 2) (k0 : 0 ≤ k) (k3 : k ≤ 3) (hv : Pl.okv z v = true) :
    Calls Tryz.prog 175 #[.pointer (some ⟨b, 0, none⟩), .agg #[.iface 189 (.agg #[.int .i64 k]), .int .i64 z, .int .i64 a], .int .i64 v] w fun e w' => e = .returned (.agg #[.int .i64 0, .int .i64 0, .int .i64 0, .int .i64 0, .bool false]) ∧ CAt w' lo b g (c.put z k v) h ∧ Kept b (b + 1) w w' := by
  have t0 := tx00
  have HGd := hide hg
  have HV := hide hv
  obtain ⟨l0, l1, l2, l3, l4⟩ := hC.lt
  have K0 := hide (kept_new (kept_alloc w (.cells #[.iface 189 (.agg #[.int .i64 k]), .int .i64 z, .int .i64 a] 162)) (.cells #[.int .i64 0, .int .i64 0, .int .i64 0, .int .i64 0, .bool false] 38))
  have C0 := hide ((hC.alloc (.cells #[.iface 189 (.agg #[.int .i64 k]), .int .i64 z, .int .i64 a] 162)).alloc (.cells #[.int .i64 0, .int .i64 0, .int .i64 0, .int .i64 0, .bool false] 38))
  have I0 := hide ((Blk.new w #[.iface 189 (.agg #[.int .i64 k]), .int .i64 z, .int .i64 a] 162).alloc (.cells #[.int .i64 0, .int .i64 0, .int .i64 0, .int .i64 0, .bool false] 38))
  have R0 := Blk.new (w.alloc (.cells #[.iface 189 (.agg #[.int .i64 k]), .int .i64 z, .int .i64 a] 162)) #[.int .i64 0, .int .i64 0, .int .i64 0, .int .i64 0, .bool false] 38
  simp only [World.size_alloc] at R0
  replace R0 := hide R0
  obtain ⟨X, hX⟩ : ∃ X : World, (w.alloc (.cells #[.iface 189 (.agg #[.int .i64 k]), .int .i64 z, .int .i64 a] 162)).alloc (.cells #[.int .i64 0, .int .i64 0, .int .i64 0, .int .i64 0, .bool false] 38) = X := ⟨_, rfl⟩
  rw [hX] at K0 C0 I0 R0
  have p := I0.out.all
  have r := R0.out.all
  have rf := R0.out.fz
  have sX : w.heap.size + 1 < X.heap.size := R0.out.lt
  have K1 := hide (kept_new K0.out (.cells #[.int .i64 k] 189))
  have C1 := hide (C0.out.alloc (.cells #[.int .i64 k] 189))
  have R1 := hide (R0.out.alloc (.cells #[.int .i64 k] 189))
  have I1 := hide (I0.out.alloc (.cells #[.int .i64 k] 189))
  have N1 := hide (Blk.new X #[.int .i64 k] 189)
  obtain ⟨W1, hW⟩ : ∃ W : World, X.alloc (.cells #[.int .i64 k] 189) = W := ⟨_, rfl⟩
  rw [hW] at K1 C1 R1 I1 N1
  have p1 := I1.out.all
  have r1 := R1.out.all
  have rf1 := R1.out.fz
  have n1 := N1.out.all
  have nf1 := N1.out.fz
  have s1 : X.heap.size < W1.heap.size := N1.out.lt
  clear hC hg hv
  go_enter Tryz.func175, Tryz.ntmps175
  go_wp2_with fail
  clear hW hX p r rf p1 r1 rf1 n1
  have n1 := N1.out.cell (i := 0) rfl
  have i1 := I1.out.cell (i := 1) rfl
  go_region_held3 (fun w' => w'.cell? ⟨X.heap.size, 0, none⟩ = some (.int .i64 k) ∧ w'.cell? ⟨w.heap.size, 1, none⟩ = some (.int .i64 z)) (first | with_reducible exact ⟨N2.out.cell (i := 0) rfl, I2.out.cell (i := 1) rfl⟩ | exact ⟨(show Blk _ _ _ _ from N1.out).cell (i := 0) rfl, (show Blk _ _ _ _ from I1.out).cell (i := 1) rfl⟩)
    (first | (go_at_call 173; refine (cPut _ lo b g c h z k v C1.out.drew HGd.out k0 k3 hz HV.out).mono ?_; rintro e9 W2 ⟨rfl, hc2, kd⟩; have k2 := undrewK kd; have C2 := hide hc2; have N2 := hide (N1.out.kept k2 (by omega)); have I2 := hide (I1.out.kept k2 (by omega)); have R2 := hide (R1.out.kept k2 (by omega)); have K2 := hide (K1.out.any.trans k2); clear hc2 kd k2))
  have r2 := R2.out.all
  have rf2 := R2.out.fz
  go_wp2_with fail
  have K3 := (((((kept_one W2 (w.heap.size + 1) 0 (.int .i64 0)).one 1 (.int .i64 0)).one 2 (.int .i64 0)).one 3 (.int .i64 0)).one 4 (.bool false))
  refine bodyPost_ret (v := .agg #[.int .i64 0, .int .i64 0, .int .i64 0, .int .i64 0, .bool false]) ?_ rfl ⟨rfl, C2.out.kept K3 (by omega) (by omega), keptP K2.out K3 (by omega)⟩
  rw [results_one rfl]; go_simp
set_option maxRecDepth 100000 in
set_option maxHeartbeats 4000000 in
theorem cWriteM (w : World) (lo b g : Nat) (c : Pl.Mc) (h : Bool) (z a v : Int) (T : TypeId) (U : Value) (t0 : ∀ w, (Instr.typeAssert (.iface T U) 160 189 true).run Tryz.prog w = .ok (.tuple #[.agg #[.int .i64 0], .bool false]) w) (hC : CAt w lo b g c h) (G : Pl.GM c) (hf : c.f = Pl.ftNo) (ha : Pl.askOk 2 z a v = true) :
    Calls Tryz.prog 175 #[.pointer (some ⟨b, 0, none⟩), .agg #[.iface T U, .int .i64 z, .int .i64 a], .int .i64 v] w fun e w' => ∃ g', e = .returned (.agg (ftC (c.acc 2 z a v).f)) ∧ CAt w' lo b g' (c.acc 2 z a v) h ∧ Since w b (b + 1) g w' g' := by
  have HA := hide ha
  have HG := hide G
  obtain ⟨F, hF⟩ : ∃ F, F = Pl.Mc.accF Pl.ftNo 2 z a := ⟨_, rfl⟩
  have HF := hide hF
  rw [show (c.acc 2 z a v).f = F by show Pl.Mc.accF c.f 2 z a = F; rw [hf, hF]]
  obtain ⟨l0, l1, l2, l3, l4⟩ := hC.lt
  have K0 := hide (kept_new (kept_alloc w (.cells #[.iface T U, .int .i64 z, .int .i64 a] 162)) (.cells #[.int .i64 0, .int .i64 0, .int .i64 0, .int .i64 0, .bool false] 38))
  have C0 := hide ((hC.alloc (.cells #[.iface T U, .int .i64 z, .int .i64 a] 162)).alloc (.cells #[.int .i64 0, .int .i64 0, .int .i64 0, .int .i64 0, .bool false] 38))
  have I0 := hide ((Blk.new w #[.iface T U, .int .i64 z, .int .i64 a] 162).alloc (.cells #[.int .i64 0, .int .i64 0, .int .i64 0, .int .i64 0, .bool false] 38))
  have R0 := Blk.new (w.alloc (.cells #[.iface T U, .int .i64 z, .int .i64 a] 162)) #[.int .i64 0, .int .i64 0, .int .i64 0, .int .i64 0, .bool false] 38
  simp only [World.size_alloc] at R0
  replace R0 := hide R0
  obtain ⟨X, hX⟩ : ∃ X : World, (w.alloc (.cells #[.iface T U, .int .i64 z, .int .i64 a] 162)).alloc (.cells #[.int .i64 0, .int .i64 0, .int .i64 0, .int .i64 0, .bool false] 38) = X := ⟨_, rfl⟩
  rw [hX] at K0 C0 I0 R0
  have p := I0.out.all
  have r := R0.out.all
  have rf := R0.out.fz
  have sX : w.heap.size + 1 < X.heap.size := R0.out.lt
  have K1 := hide (kept_new K0.out (.cells #[.int .i64 0] 189))
  have C1 := hide (C0.out.alloc (.cells #[.int .i64 0] 189))
  have R1 := hide (R0.out.alloc (.cells #[.int .i64 0] 189))
  have I1 := hide (I0.out.alloc (.cells #[.int .i64 0] 189))
  have N1 := hide (Blk.new X #[.int .i64 0] 189)
  obtain ⟨W1, hW⟩ : ∃ W : World, X.alloc (.cells #[.int .i64 0] 189) = W := ⟨_, rfl⟩
  rw [hW] at K1 C1 R1 I1 N1
  have p1 := I1.out.all
  have r1 := R1.out.all
  have rf1 := R1.out.fz
  have n1 := N1.out.all
  have nf1 := N1.out.fz
  have s1 : X.heap.size < W1.heap.size := N1.out.lt
  have C1b := hide (C1.out.other X.heap.size 0 (.int .i64 0) (by omega) (by omega))
  have K1b := hide (kept_over K1.out (kept_one W1 X.heap.size 0 (.int .i64 0)) (by omega))
  have R1b := hide (R1.out.other X.heap.size 0 (.int .i64 0) (by omega))
  clear hC G hF ha
  go_enter Tryz.func175, Tryz.ntmps175
  go_wp2_with (go_at_call 94; refine (cAccess _ lo b g c h 2 z a v C1b.out HG.out HA.out 0 (hide rfl) F HF).mono ?_; rintro e9 W2 ⟨g', rfl, hc2, hs2⟩; unfold ftC; have S2 := hide ((((Since.refl w b (b + 1) g).any K1b.out).trans hs2).alloc (.cells #[.int .i64 F.v, .int .i64 F.pc, .int .i64 F.ad, .int .i64 F.wo, .bool F.wr] 38)); have C2 := hide (hc2.alloc (.cells #[.int .i64 F.v, .int .i64 F.pc, .int .i64 F.ad, .int .i64 F.wo, .bool F.wr] 38)); have R2 := hide ((hs2.blk R1b.out (by omega) (by omega)).alloc (.cells #[.int .i64 F.v, .int .i64 F.pc, .int .i64 F.ad, .int .i64 F.wo, .bool F.wr] 38)); have n2 := hs2.ne (b := w.heap.size + 1) R1b.out.lt (by omega); have r2 := R2.out.all; have rf2 := R2.out.fz; clear hc2 hs2)
  have K3 := (((((kept_one (W2.alloc (.cells #[.int .i64 F.v, .int .i64 F.pc, .int .i64 F.ad, .int .i64 F.wo, .bool F.wr] 38)) (w.heap.size + 1) 0 (.int .i64 F.v)).one 1 (.int .i64 F.pc)).one 2 (.int .i64 F.ad)).one 3 (.int .i64 F.wo)).one 4 (.bool F.wr))
  refine bodyPost_ret (v := .agg #[.int .i64 F.v, .int .i64 F.pc, .int .i64 F.ad, .int .i64 F.wo, .bool F.wr]) ?_ rfl ⟨g', rfl, C2.out.kept K3 (by omega) (by omega), S2.out.mine K3 (by omega)⟩
  rw [results_one rfl]; go_simp
/-- an operand's value -/
theorem cReadV (w : World) (lo b g : Nat) (c : Pl.Mc) (h : Bool) (z m k e : Int) (hC : CAt w lo b g (c.slot z m k e) h) (G : Pl.GM c) (hf : c.f = Pl.ftNo) (hz : z = 1 ∨ z = 2) (m0 : 0 ≤ m) (m7 : m ≤ 7) (k0 : 0 ≤ k) (k3 : k ≤ 3) (x0 : 0 ≤ e) (x1 : e ≤ 65535) :
    Calls Tryz.prog 170 #[.pointer (some ⟨b, 0, none⟩), .agg #[wayV m k e, .int .i64 z, .int .i64 (c.readA z m k e)]] w fun r w' => ∃ g', r = .returned (.tuple #[.int .i64 (c.readV z m k e), .agg (ftC (c.read z m k e).f)]) ∧ CAt w' lo b g' (c.read z m k e) h ∧ Since w b (b + 1) g w' g' := by
  have hm : m = 0 ∨ m = 1 ∨ m = 2 ∨ m = 3 ∨ m = 4 ∨ m = 5 ∨ m = 6 ∨ m = 7 := by omega
  have q := Pl.placeV_in G.g (z := z) (m := m) k0 k3 x0 x1
  rcases hm with rfl | rfl | rfl | rfl | rfl | rfl | rfl | rfl
  · refine (cRead0 w lo b g c h z _ k hC hz k0 k3).mono ?_
    rintro e9 w9 ⟨rfl, hc, hk⟩
    exact ⟨g, by rw [show (c.read z 0 k e).f = Pl.ftNo from hf]; rfl, hc, (Since.refl _ _ _ _).any hk⟩
  · refine (cRead1 w lo b g c h z _ k hC k0 k3).mono ?_
    rintro e9 w9 ⟨rfl, hc, hk⟩
    exact ⟨g, by rw [show (c.read z 1 k e).f = Pl.ftNo from hf]; rfl, hc, (Since.refl _ _ _ _).any hk⟩
  · exact cReadM w lo b g (c.plc z 2 k e) h z _ _ _ (tx20 _) (tx21 _) (tx27 _) hC (G.plc k0 k3) hf hz q.1 q.2
  · exact cReadM w lo b g (c.plc z 3 k e) h z _ _ _ (tx30 _) (tx31 _) (tx37 _) hC (G.plc k0 k3) hf hz q.1 q.2
  · exact cReadM w lo b g (c.plc z 4 k e) h z _ _ _ (tx40 _) (tx41 _) (tx47 _) hC (G.plc k0 k3) hf hz q.1 q.2
  · exact cReadM w lo b g (c.plc z 5 k e) h z _ _ _ (tx50 _) (tx51 _) (tx57 _) hC (G.plc k0 k3) hf hz q.1 q.2
  · exact cReadM w lo b g (c.plc z 6 k e) h z _ _ _ (tx60 _) (tx61 _) (tx67 _) hC (G.plc k0 k3) hf hz q.1 q.2
  · refine (cRead7 w lo b g c h z _ e hC).mono ?_
    rintro e9 w9 ⟨rfl, hc, hk⟩
    exact ⟨g, by rw [show (c.read z 7 k e).f = Pl.ftNo from hf]; rfl, hc, (Since.refl _ _ _ _).any hk⟩
/-- a value put to an operand that can take one -/
theorem cWriteV (w : World) (lo b g : Nat) (c : Pl.Mc) (h : Bool) (z m k e a v : Int) (hC : CAt w lo b g c h) (G : Pl.GM c) (hf : c.f = Pl.ftNo) (hz : z = 1 ∨ z = 2) (hm : m = 0 ∨ (2 ≤ m ∧ m ≤ 6)) (k0 : 0 ≤ k) (k3 : k ≤ 3) (a0 : 0 ≤ a) (a1 : a ≤ 65535) (hv : Pl.okv z v = true) :
    Calls Tryz.prog 175 #[.pointer (some ⟨b, 0, none⟩), .agg #[wayV m k e, .int .i64 z, .int .i64 a], .int .i64 v] w fun r w' => ∃ g', r = .returned (.agg (ftC (c.write z m k a v).f)) ∧ CAt w' lo b g' (c.write z m k a v) h ∧ Since w b (b + 1) g w' g' := by
  have ha : Pl.askOk 2 z a v = true := by
    have h1 : Pl.addr a = true := by simp [Pl.addr]; omega
    unfold Pl.askOk; rw [hv, h1]; rfl
  have hm : m = 0 ∨ m = 2 ∨ m = 3 ∨ m = 4 ∨ m = 5 ∨ m = 6 := by omega
  rcases hm with rfl | rfl | rfl | rfl | rfl | rfl
  · refine (cWrite0 w lo b g c h z a k v hC G.g hz k0 k3 hv).mono ?_
    rintro e9 w9 ⟨rfl, hc, hk⟩
    exact ⟨g, by rw [show (c.write z 0 k a v).f = Pl.ftNo from hf]; rfl, hc, (Since.refl _ _ _ _).keptS hk (Nat.le_refl _) (Nat.le_refl _)⟩
  · exact cWriteM w lo b g c h z a v _ _ (tx20 _) hC G hf ha
  · exact cWriteM w lo b g c h z a v _ _ (tx30 _) hC G hf ha
  · exact cWriteM w lo b g c h z a v _ _ (tx40 _) hC G hf ha
  · exact cWriteM w lo b g c h z a v _ _ (tx50 _) hC G hf ha
  · exact cWriteM w lo b g c h z a v _ _ (tx60 _) hC G hf ha
end Go.Proofs.YtblddehlkaolbaaGreatDoor

namespace Go.Proofs.YtblddehlkaolbaaGreatDoor
open Go.RowKit
set_option linter.unusedVariables false
set_option maxRecDepth 100000 in
set_option maxHeartbeats 4000000 in
theorem cPush (w : World) (lo b g : Nat) (c : Pl.Mc) (h : Bool) (v : Int) (hC : CAt w lo b g c h) (G : Pl.GM c) (hf : c.f = Pl.ftNo) (v0 : 0 ≤ v) (v1 : v ≤ 65535) :
    Calls Tryz.prog 182 #[.pointer (some ⟨b, 0, none⟩), .int .i64 v] w fun e w' => ∃ g', e = .returned (.agg (ftC (c.push v).f)) ∧ CAt w' lo b g' (c.push v) h ∧ Since w b (b + 1) g w' g' := by
  have HA := hide (Pl.ask_push (c := c) v0 v1)
  obtain ⟨F, hF⟩ : ∃ F, F = Pl.Mc.accF Pl.ftNo 2 2 c.spA := ⟨_, rfl⟩
  have HF := hide hF
  have EF : Hid ((c.acc 2 2 c.spA v).f = F) := hide (by show Pl.Mc.accF c.f 2 2 c.spA = F; rw [hf, hF])
  obtain ⟨A, hA⟩ : ∃ A, A = c.spA := ⟨_, rfl⟩
  rw [← hA] at HA HF EF
  have eA : (el c.r.ys 3 - 2) % 65536 = A := hA.symm
  have HPA : Hid (c.spA = A) := hide hA.symm
  clear hA hF
  obtain ⟨l0, l1, l2, l3, l4⟩ := hC.lt
  obtain ⟨a30, a31⟩ := G.g.aw 3 (by omega)
  have h4 := hide G.g.a4
  have HG := hide G
  have C0 := hide (hC.alloc (.cells #[.int .i64 0, .int .i64 0, .int .i64 0, .int .i64 0, .bool false] 38))
  have R0 := hide (Blk.new w #[.int .i64 0, .int .i64 0, .int .i64 0, .int .i64 0, .bool false] 38)
  have K0 := hide (kept_alloc w (.cells #[.int .i64 0, .int .i64 0, .int .i64 0, .int .i64 0, .bool false] 38))
  obtain ⟨X, hX⟩ : ∃ X : World, w.alloc (.cells #[.int .i64 0, .int .i64 0, .int .i64 0, .int .i64 0, .bool false] 38) = X := ⟨_, rfl⟩
  rw [hX] at C0 R0 K0
  have x7 : X.cell? ⟨b, 7, none⟩ = some (.int .i64 (el c.r.ys 3)) := C0.out.cY (k := 3) (by omega)
  clear hC G
  cases hv : (F.v != 0)
  · have E : Hid (c.push v = (c.acc 2 2 A v).setA 3 A) := hide (by
      unfold Pl.Mc.push; rw [HPA.out]
      rw [show (c.acc 2 2 A v).fine = true by unfold Pl.Mc.fine; rw [EF.out]; simpa using hv]; rfl)
    go_enter Tryz.func182, Tryz.ntmps182
    go_wp2_with (first | (go_at_call 95; refine (wrapWord _ _).mono ?_; rintro e w' ⟨rfl, rfl⟩; rw [eA]) | (go_at_call 94; refine (cAccess _ lo b g c h 2 2 A v C0.out HG.out HA.out 0 (hide rfl) F HF).mono ?_; rintro e w3 ⟨g', rfl, hc3, hs3⟩; unfold ftC; have S3 := hide (((Since.refl w b (b + 1) g).any K0.out).trans hs3); have R3 := hide ((hs3.blk R0.out (by omega) (by omega)).alloc (.cells #[.int .i64 F.v, .int .i64 F.pc, .int .i64 F.ad, .int .i64 F.wo, .bool F.wr] 38)); have C3 := hide (hc3.alloc (.cells #[.int .i64 F.v, .int .i64 F.pc, .int .i64 F.ad, .int .i64 F.wo, .bool F.wr] 38)); have L3 := hide (Blk.new w3 #[.int .i64 F.v, .int .i64 F.pc, .int .i64 F.ad, .int .i64 F.wo, .bool F.wr] 38); have z3 := hs3.size; have n3 := hs3.ne (b := w.heap.size) R0.out.lt (by omega); clear hc3 hs3) | (go_at_call 34; refine (isFault F _).mono ?_; rintro e w4 ⟨rfl, k4⟩; have S4 := hide (S3.out.any ((kept_alloc w3 (.cells #[.int .i64 F.v, .int .i64 F.pc, .int .i64 F.ad, .int .i64 F.wo, .bool F.wr] 38)).trans k4)); have R4 := hide (R3.out.kept0 k4); have C4 := hide (C3.out.any k4); have L4 := hide (L3.out.kept0 k4); have y7 : w4.cell? ⟨b, 7, none⟩ = some (.int .i64 (el c.r.ys 3)) := C4.out.cY (k := 3) (by omega); have yf := C4.out.fz; have q := L4.out.all; have r := (show Blk w4 w.heap.size #[.int .i64 0, .int .i64 0, .int .i64 0, .int .i64 0, .bool false] 38 from R4.out).all; have rf := R4.out.fz; clear k4; rw [hv]))
    have K5 := (((((kept_one w4 w.heap.size 0 (.int .i64 F.v)).one 1 (.int .i64 F.pc)).one 2 (.int .i64 F.ad)).one 3 (.int .i64 F.wo)).one 4 (.bool F.wr))
    have C5 := C4.out.setY h4.out (k := 3) (by omega) A
    have S5 := S4.out.set b 7 (.int .i64 A) (.inl (by omega))
    have K5 := (((((kept_one (w4.setCell ⟨b, 7, none⟩ (.int .i64 A)) w.heap.size 0 (.int .i64 F.v)).one 1 (.int .i64 F.pc)).one 2 (.int .i64 F.ad)).one 3 (.int .i64 F.wo)).one 4 (.bool F.wr))
    refine bodyPost_ret (v := .agg #[.int .i64 F.v, .int .i64 F.pc, .int .i64 F.ad, .int .i64 F.wo, .bool F.wr]) ?_ rfl ⟨g', ?_, ?_, S5.mine K5 (by omega)⟩
    · rw [results_one rfl]; go_simp
    · rw [E.out, show ((c.acc 2 2 A v).setA 3 A).f = F from EF.out]; rfl
    · rw [E.out]; exact C5.kept K5 (by omega) (by omega)
  · have E : Hid (c.push v = c.acc 2 2 A v) := hide (by
      unfold Pl.Mc.push; rw [HPA.out]
      rw [show (c.acc 2 2 A v).fine = false by unfold Pl.Mc.fine; rw [EF.out]; simpa using hv]; rfl)
    go_enter Tryz.func182, Tryz.ntmps182
    go_wp2_with (first | (go_at_call 95; refine (wrapWord _ _).mono ?_; rintro e w' ⟨rfl, rfl⟩; rw [eA]) | (go_at_call 94; refine (cAccess _ lo b g c h 2 2 A v C0.out HG.out HA.out 0 (hide rfl) F HF).mono ?_; rintro e w3 ⟨g', rfl, hc3, hs3⟩; unfold ftC; have S3 := hide (((Since.refl w b (b + 1) g).any K0.out).trans hs3); have R3 := hide ((hs3.blk R0.out (by omega) (by omega)).alloc (.cells #[.int .i64 F.v, .int .i64 F.pc, .int .i64 F.ad, .int .i64 F.wo, .bool F.wr] 38)); have C3 := hide (hc3.alloc (.cells #[.int .i64 F.v, .int .i64 F.pc, .int .i64 F.ad, .int .i64 F.wo, .bool F.wr] 38)); have L3 := hide (Blk.new w3 #[.int .i64 F.v, .int .i64 F.pc, .int .i64 F.ad, .int .i64 F.wo, .bool F.wr] 38); have z3 := hs3.size; have n3 := hs3.ne (b := w.heap.size) R0.out.lt (by omega); clear hc3 hs3) | (go_at_call 34; refine (isFault F _).mono ?_; rintro e w4 ⟨rfl, k4⟩; have S4 := hide (S3.out.any ((kept_alloc w3 (.cells #[.int .i64 F.v, .int .i64 F.pc, .int .i64 F.ad, .int .i64 F.wo, .bool F.wr] 38)).trans k4)); have R4 := hide (R3.out.kept0 k4); have C4 := hide (C3.out.any k4); have L4 := hide (L3.out.kept0 k4); have y7 : w4.cell? ⟨b, 7, none⟩ = some (.int .i64 (el c.r.ys 3)) := C4.out.cY (k := 3) (by omega); have yf := C4.out.fz; have q := L4.out.all; have r := (show Blk w4 w.heap.size #[.int .i64 0, .int .i64 0, .int .i64 0, .int .i64 0, .bool false] 38 from R4.out).all; have rf := R4.out.fz; clear k4; rw [hv]))
    have K5 := (((((kept_one w4 w.heap.size 0 (.int .i64 F.v)).one 1 (.int .i64 F.pc)).one 2 (.int .i64 F.ad)).one 3 (.int .i64 F.wo)).one 4 (.bool F.wr))
    refine bodyPost_ret (v := .agg #[.int .i64 F.v, .int .i64 F.pc, .int .i64 F.ad, .int .i64 F.wo, .bool F.wr]) ?_ rfl ⟨g', ?_, ?_, S4.out.mine K5 (by omega)⟩
    · rw [results_one rfl]; go_simp
    · rw [E.out, EF.out]; rfl
    · rw [E.out]; exact C4.out.kept K5 (by omega) (by omega)
set_option maxRecDepth 100000 in
set_option maxHeartbeats 4000000 in
theorem cPop (w : World) (lo b g : Nat) (c : Pl.Mc) (h : Bool) (hC : CAt w lo b g c h) (G : Pl.GM c) (hf : c.f = Pl.ftNo) :
    Calls Tryz.prog 215 #[.pointer (some ⟨b, 0, none⟩)] w fun e w' => ∃ g', e = .returned (.tuple #[.int .i64 c.popV, .agg (ftC c.pop.f)]) ∧ CAt w' lo b g' (c.pop) h ∧ Since w b (b + 1) g w' g' := by
  obtain ⟨l0, l1, l2, l3, l4⟩ := hC.lt
  obtain ⟨a30, a31⟩ := G.g.aw 3 (by omega)
  have h4 := hide G.g.a4
  have HG := hide G
  have C0 := hide (hC.alloc (.cells #[.int .i64 0, .int .i64 0, .int .i64 0, .int .i64 0, .bool false] 38))
  have R0 := hide (Blk.new w #[.int .i64 0, .int .i64 0, .int .i64 0, .int .i64 0, .bool false] 38)
  have K0 := hide (kept_alloc w (.cells #[.int .i64 0, .int .i64 0, .int .i64 0, .int .i64 0, .bool false] 38))
  obtain ⟨X, hX⟩ : ∃ X : World, w.alloc (.cells #[.int .i64 0, .int .i64 0, .int .i64 0, .int .i64 0, .bool false] 38) = X := ⟨_, rfl⟩
  rw [hX] at C0 R0 K0
  have x7 : X.cell? ⟨b, 7, none⟩ = some (.int .i64 (el c.r.ys 3)) := C0.out.cY (k := 3) (by omega)
  clear hC G
  have HA := hide (Pl.ask_read (k := 1) (.inl rfl) a30 a31)
  obtain ⟨F, hF⟩ : ∃ F, F = Pl.Mc.accF Pl.ftNo 1 2 (el c.r.ys 3) := ⟨_, rfl⟩
  have HF := hide hF
  have EF : Hid ((c.acc 1 2 (el c.r.ys 3) 0).f = F) := hide (by show Pl.Mc.accF c.f 1 2 _ = F; rw [hf, hF])
  obtain ⟨V, hV⟩ : ∃ V, V = c.popV := ⟨_, rfl⟩
  have HV : Hid (V = if (1 : Int) = 2 then 0 else Pl.lv c.bx 1 2 (el c.r.ys 3) 0) := hide hV
  rw [← hV]
  clear hF hV
  cases hv : (F.v != 0)
  · have E : Hid (c.pop = (c.acc 1 2 (el c.r.ys 3) 0).setA 3 ((el c.r.ys 3 + 2) % 65536)) := hide (by
      unfold Pl.Mc.pop
      rw [show (c.acc 1 2 (el c.r.ys 3) 0).fine = true by unfold Pl.Mc.fine; rw [EF.out]; simpa using hv]; rfl)
    go_enter Tryz.func215, Tryz.ntmps215
    go_wp2_with (first | (go_at_call 94; refine (cAccess _ lo b g c h 1 2 (el c.r.ys 3) 0 C0.out HG.out HA.out V HV F HF).mono ?_; rintro e w3 ⟨g', rfl, hc3, hs3⟩; unfold ftC; have S3 := hide (((Since.refl w b (b + 1) g).any K0.out).trans hs3); have R3 := hide ((hs3.blk R0.out (by omega) (by omega)).alloc (.cells #[.int .i64 F.v, .int .i64 F.pc, .int .i64 F.ad, .int .i64 F.wo, .bool F.wr] 38)); have C3 := hide (hc3.alloc (.cells #[.int .i64 F.v, .int .i64 F.pc, .int .i64 F.ad, .int .i64 F.wo, .bool F.wr] 38)); have L3 := hide (Blk.new w3 #[.int .i64 F.v, .int .i64 F.pc, .int .i64 F.ad, .int .i64 F.wo, .bool F.wr] 38); have z3 := hs3.size; have n3 := hs3.ne (b := w.heap.size) R0.out.lt (by omega); clear hc3 hs3) | (go_at_call 34; refine (isFault F _).mono ?_; rintro e w4 ⟨rfl, k4⟩; have S4 := hide (S3.out.any ((kept_alloc w3 (.cells #[.int .i64 F.v, .int .i64 F.pc, .int .i64 F.ad, .int .i64 F.wo, .bool F.wr] 38)).trans k4)); have R4 := hide (R3.out.kept0 k4); have C4 := hide (C3.out.any k4); have L4 := hide (L3.out.kept0 k4); have y7 : w4.cell? ⟨b, 7, none⟩ = some (.int .i64 (el c.r.ys 3)) := C4.out.cY (k := 3) (by omega); have yf := C4.out.fz; have q := L4.out.all; have r := (show Blk w4 w.heap.size #[.int .i64 0, .int .i64 0, .int .i64 0, .int .i64 0, .bool false] 38 from R4.out).all; have rf := R4.out.fz; clear k4; rw [hv]))
    go_region_with (first | (go_at_call 95; refine (wrapWord _ _).mono ?_; rintro e w' ⟨rfl, rfl⟩))
    go_wp2_with fail
    go_region
    go_wp2_with fail
    have C5 := C4.out.setY h4.out (k := 3) (by omega) ((el c.r.ys 3 + 2) % 65536)
    have S5 := S4.out.set b 7 (.int .i64 ((el c.r.ys 3 + 2) % 65536)) (.inl (by omega))
    have K5 := kept_drew (kept_drew ((((((kept_one (w4.setCell ⟨b, 7, none⟩ (.int .i64 ((el c.r.ys 3 + 2) % 65536))) w.heap.size 0 (.int .i64 F.v)).one 1 (.int .i64 F.pc)).one 2 (.int .i64 F.ad)).one 3 (.int .i64 F.wo)).one 4 (.bool F.wr))))
    refine bodyPost_ret (v := .tuple #[.int .i64 V, .agg #[.int .i64 F.v, .int .i64 F.pc, .int .i64 F.ad, .int .i64 F.wo, .bool F.wr]]) ?_ rfl ⟨g', ?_, ?_, S5.mine K5 (by omega)⟩
    · rw [results_tc rfl]; go_simp
    · rw [E.out, show ((c.acc 1 2 (el c.r.ys 3) 0).setA 3 ((el c.r.ys 3 + 2) % 65536)).f = F from EF.out]; rfl
    · rw [E.out]; exact C5.kept K5 (by omega) (by omega)
  · have E : Hid (c.pop = c.acc 1 2 (el c.r.ys 3) 0) := hide (by
      unfold Pl.Mc.pop
      rw [show (c.acc 1 2 (el c.r.ys 3) 0).fine = false by unfold Pl.Mc.fine; rw [EF.out]; simpa using hv]; rfl)
    go_enter Tryz.func215, Tryz.ntmps215
    go_wp2_with (first | (go_at_call 94; refine (cAccess _ lo b g c h 1 2 (el c.r.ys 3) 0 C0.out HG.out HA.out V HV F HF).mono ?_; rintro e w3 ⟨g', rfl, hc3, hs3⟩; unfold ftC; have S3 := hide (((Since.refl w b (b + 1) g).any K0.out).trans hs3); have R3 := hide ((hs3.blk R0.out (by omega) (by omega)).alloc (.cells #[.int .i64 F.v, .int .i64 F.pc, .int .i64 F.ad, .int .i64 F.wo, .bool F.wr] 38)); have C3 := hide (hc3.alloc (.cells #[.int .i64 F.v, .int .i64 F.pc, .int .i64 F.ad, .int .i64 F.wo, .bool F.wr] 38)); have L3 := hide (Blk.new w3 #[.int .i64 F.v, .int .i64 F.pc, .int .i64 F.ad, .int .i64 F.wo, .bool F.wr] 38); have z3 := hs3.size; have n3 := hs3.ne (b := w.heap.size) R0.out.lt (by omega); clear hc3 hs3) | (go_at_call 34; refine (isFault F _).mono ?_; rintro e w4 ⟨rfl, k4⟩; have S4 := hide (S3.out.any ((kept_alloc w3 (.cells #[.int .i64 F.v, .int .i64 F.pc, .int .i64 F.ad, .int .i64 F.wo, .bool F.wr] 38)).trans k4)); have R4 := hide (R3.out.kept0 k4); have C4 := hide (C3.out.any k4); have L4 := hide (L3.out.kept0 k4); have y7 : w4.cell? ⟨b, 7, none⟩ = some (.int .i64 (el c.r.ys 3)) := C4.out.cY (k := 3) (by omega); have yf := C4.out.fz; have q := L4.out.all; have r := (show Blk w4 w.heap.size #[.int .i64 0, .int .i64 0, .int .i64 0, .int .i64 0, .bool false] 38 from R4.out).all; have rf := R4.out.fz; clear k4; rw [hv]))
    go_region
    go_wp2_with fail
    have K5 := kept_drew ((((((kept_one w4 w.heap.size 0 (.int .i64 F.v)).one 1 (.int .i64 F.pc)).one 2 (.int .i64 F.ad)).one 3 (.int .i64 F.wo)).one 4 (.bool F.wr)))
    refine bodyPost_ret (v := .tuple #[.int .i64 V, .agg #[.int .i64 F.v, .int .i64 F.pc, .int .i64 F.ad, .int .i64 F.wo, .bool F.wr]]) ?_ rfl ⟨g', ?_, ?_, S4.out.mine K5 (by omega)⟩
    · rw [results_tc rfl]; go_simp
    · rw [E.out, EF.out]; rfl
    · rw [E.out]; exact C4.out.kept K5 (by omega) (by omega)
end Go.Proofs.YtblddehlkaolbaaGreatDoor

namespace Go.Proofs.YtblddehlkaolbaaGreatDoor.Pl
set_option linter.unusedVariables false
def sameIn (a b : In) : Bool := (a.op == b.op) && ((a.z == b.z) && ((a.r == b.r) && ((a.m == b.m) && ((a.k == b.k) && ((a.e == b.e) && (a.s == b.s))))))
/-- it comes back from its words -/
def fits (x : In) : Bool := sameIn (decode (word1 x % 65536) x.e) x
def fitZ (x : In) : Bool := !(x.m == 7) || (!(x.z == 1) || within x.e 0 255)
theorem decode_e (w v : Int) : (decode w v).e = bif extM (w / 32 % 8) then v else 0 := by
  show (if longW w = 2 then v else 0) = _
  unfold longW
  cases extM (w / 32 % 8) <;> simp
theorem fits_iff (x : In) : fits x = true ↔ (0 ≤ x.op ∧ x.op ≤ 31) ∧ (1 ≤ x.z ∧ x.z ≤ 2) ∧ (0 ≤ x.r ∧ x.r ≤ 3) ∧ (0 ≤ x.m ∧ x.m ≤ 7) ∧ (0 ≤ x.k ∧ x.k ≤ 3) ∧ (0 ≤ x.s ∧ x.s ≤ 7) ∧ (extM x.m = false → x.e = 0) := by
  obtain ⟨op, z, r, m, k, e, s⟩ := x
  unfold fits
  have hW : word1 ⟨op, z, r, m, k, e, s⟩ % 65536 = (op * 2048 + (z - 1) * 1024 + r * 256 + m * 32 + k * 8 + s) % 65536 := rfl
  generalize word1 ⟨op, z, r, m, k, e, s⟩ % 65536 = W at hW
  unfold sameIn
  rw [decode_e]
  simp only [decode, Bool.and_eq_true, beq_iff_eq]
  constructor
  · rintro ⟨h1, h2, h3, h4, h5, h6, h7⟩
    refine ⟨⟨by omega, by omega⟩, ⟨by omega, by omega⟩, ⟨by omega, by omega⟩, ⟨by omega, by omega⟩, ⟨by omega, by omega⟩, ⟨by omega, by omega⟩, fun q => ?_⟩
    rw [h4, q] at h6
    simpa using h6.symm
  · rintro ⟨⟨a1, a2⟩, ⟨b1, b2⟩, ⟨c1, c2⟩, ⟨d1, d2⟩, ⟨e1, e2⟩, ⟨f1, f2⟩, g⟩
    have hm : W / 32 % 8 = m := by omega
    refine ⟨by omega, by omega, by omega, hm, by omega, ?_, by omega⟩
    rw [hm]
    cases q : extM m
    · rw [g q]; rfl
    · rfl
/-- what is asked one behind the other is what makes a good one -/
theorem ok_of_fits (x : In) : inOk x = (fits x && (opOk x.m x.k x.e && (fitZ x && inKind x))) := by
  cases hf : fits x
  · cases hq : inOk x
    · rfl
    · exfalso
      have h := modeR hq
      have : fits x = true := (fits_iff x).2 ⟨by omega, by omega, by omega, by omega, by omega, by omega, h.2.2.2.2.2.2.2.2.2.2.2.2.2⟩
      rw [hf] at this; cases this
  · obtain ⟨a, b, c, d, e, f, g⟩ := (fits_iff x).1 hf
    obtain ⟨op, z, r, m, k, e', s⟩ := x
    simp only at a b c d e f g
    unfold inOk inBase fitZ byteNow
    simp only
    have w1 : within r 0 3 = true := by simp [within]; omega
    have w2 : within s 0 7 = true := by simp [within]; omega
    have w3 : (decide (z = 1) || decide (z = 2)) = true := by simp; omega
    rw [w1, w2, w3]
    cases ho : opOk m k e'
    · simp
    · have : 0 ≤ e' := by simp [opOk, wordOk, within] at ho; omega
      have w4 : (!((m == 7) && (z == 1) && decide (255 < e'))) = (!(m == 7) || (!(z == 1) || within e' 0 255)) := by
        rw [Bool.eq_iff_iff]; simp [within]; omega
      rw [w4]
      simp
end Go.Proofs.YtblddehlkaolbaaGreatDoor.Pl

namespace Go.Proofs.YtblddehlkaolbaaGreatDoor
open Go.RowKit
set_option linter.unusedVariables false

/-- operation k of the region waits for operation j -/
def waitsB (md : Region.Mode) (ops : Array Oper) (i k : Nat) : Bool := ((ops[i]?).map fun o => o.after.any fun e => Region.binds md e && e.on == k).getD false
theorem ready_new {md : Region.Mode} {ops : Array Oper} {l : Array Bool} {i : Nat} (h : i ∈ Region.ready md ops l) : i < ops.size ∧ l.getD i true = false := by
  unfold Region.ready at h
  rw [List.mem_filter, Bool.and_eq_true] at h
  refine ⟨List.mem_range.1 h.1, ?_⟩
  have := h.2.1
  revert this
  cases l.getD i true <;> simp
theorem getD_true {l : Array Bool} {k : Nat} (h : l.getD k false = true) : l.getD k true = true := by
  unfold Array.getD at *
  split
  · rename_i hk; simpa [hk] using h
  · rfl
theorem ready_dep {md : Region.Mode} {ops : Array Oper} {l : Array Bool} {i : Nat} (h : i ∈ Region.ready md ops l) (k : Nat) (hk : waitsB md ops i k = true) : l.getD k true = true := by
  unfold Region.ready at h
  rw [List.mem_filter, Bool.and_eq_true] at h
  have h2 := h.2.2
  unfold waitsB at hk
  cases ho : ops[i]? with
  | none => rw [ho] at hk; simp at hk
  | some o =>
    rw [ho] at hk h2
    simp only [Option.map_some, Option.getD_some] at hk h2
    rw [Array.any_eq_true'] at hk
    obtain ⟨e, he, hb⟩ := hk
    rw [Array.all_eq_true'] at h2
    have h3 := h2 e he
    rw [Bool.and_eq_true] at hb
    rw [hb.1] at h3
    have h4 : e.on = k := by simpa using hb.2
    rw [h4] at h3
    exact getD_true (by simpa using h3)
theorem filter_lt {xs : List Nat} {p q : Nat → Bool} (hpq : ∀ x, q x = true → p x = true) {i : Nat} (hi : i ∈ xs) (hp : p i = true) (hq : q i = false) : (xs.filter q).length < (xs.filter p).length := by
  induction xs with
  | nil => cases hi
  | cons x t ih =>
    have hle : (t.filter q).length ≤ (t.filter p).length := by
      clear ih hi
      induction t with
      | nil => simp
      | cons y t ih =>
        cases h1 : q y
        · cases h2 : p y <;> simp [h1, h2] <;> omega
        · simp [h1, hpq y h1]; exact ih
    rcases List.mem_cons.1 hi with rfl | hi
    · simp [hp, hq]; omega
    · have := ih hi
      cases h1 : q x
      · cases h2 : p x <;> simp [h1, h2] <;> omega
      · simp [h1, hpq x h1]; exact this
theorem getD_set_ne {l : Array Bool} {i j : Nat} (h : j ≠ i) : (l.setIfInBounds i true).getD j true = l.getD j true := by
  simp only [Array.getD_eq_getD_getElem?]
  rw [Array.getElem?_setIfInBounds_ne (Ne.symm h)]
theorem getD_set_eq {l : Array Bool} {i : Nat} : (l.setIfInBounds i true).getD i true = true := by
  simp only [Array.getD_eq_getD_getElem?, Array.getElem?_setIfInBounds]
  split
  · split <;> rfl
  · rename_i h; exact absurd trivial h

theorem wpAny_inv {P : Program} {md : Region.Mode} {ops : Array Oper} {Q : Exit → Act → World → Prop} {I : Array Bool → Act → World → Prop}
    (hfin : ∀ l a w, l.size = ops.size → I l a w → Region.ready md ops l = [] → Q .normal a w)
    (hstep : ∀ l a w i, I l a w → i ∈ Region.ready md ops l → wpOp P ops Q i (I (l.setIfInBounds i true)) a w) :
    ∀ (fuel : Nat) (l : Array Bool) (a : Act) (w : World), l.size = ops.size → ((List.range ops.size).filter fun i => !l.getD i true).length ≤ fuel → I l a w → wpAny P md ops Q fuel l a w := by
  intro fuel
  induction fuel with
  | zero =>
    intro l a w hz hn hI
    have h0 : Region.ready md ops l = [] := by
      cases hr : Region.ready md ops l with
      | nil => rfl
      | cons i t =>
        exfalso
        have hi : i ∈ Region.ready md ops l := by rw [hr]; simp
        obtain ⟨h1, h2⟩ := ready_new hi
        have : i ∈ (List.range ops.size).filter fun i => !l.getD i true := List.mem_filter.2 ⟨List.mem_range.2 h1, by rw [h2]; rfl⟩
        have := List.length_pos_of_mem this
        omega
    exact ⟨h0, hfin l a w hz hI h0⟩
  | succ n ih =>
    intro l a w hz hn hI
    refine ⟨fun h0 => hfin l a w hz hI h0, fun i hi => ?_⟩
    refine wpOp_mono (fun a' w' h' => ih _ a' w' (by simp [hz]) ?_ h') (hstep l a w i hI hi)
    obtain ⟨h1, h2⟩ := ready_new hi
    have := filter_lt (xs := List.range ops.size) (p := fun j => !l.getD j true) (q := fun j => !(l.setIfInBounds i true).getD j true) (i := i) (by
      intro x hx
      by_cases e : x = i
      · subst e; rw [h2]; rfl
      · rw [getD_set_ne e] at hx; exact hx) (List.mem_range.2 h1) (by rw [h2]; rfl) (by rw [getD_set_eq]; rfl)
    omega

/-- an operation waits for earlier ones alone -/
def lowB (md : Region.Mode) (ops : Array Oper) : Bool := (List.range ops.size).all fun i => ((ops[i]?).map fun o => o.after.all fun e => !Region.binds md e || decide (e.on < i)).getD true
theorem ready_none {md : Region.Mode} {ops : Array Oper} {l : Array Bool} (hz : l.size = ops.size) (hB : lowB md ops = true) (h0 : Region.ready md ops l = []) : ∀ i, i < ops.size → l.getD i true = true := by
  intro i
  induction i using Nat.strongRecOn with
  | ind i ih =>
    intro hi
    cases hl : l.getD i true
    · exfalso
      have hm : i ∈ Region.ready md ops l := by
        unfold Region.ready
        rw [List.mem_filter, Bool.and_eq_true]
        refine ⟨List.mem_range.2 hi, by rw [hl]; rfl, ?_⟩
        have hb := List.all_eq_true.1 hB i (List.mem_range.2 hi)
        rw [Array.getElem?_eq_getElem hi] at hb ⊢
        simp only [Option.map_some, Option.getD_some] at hb ⊢
        rw [Array.all_eq_true'] at hb ⊢
        intro e he
        have h1 := hb e he
        rw [Bool.or_eq_true] at h1 ⊢
        rcases h1 with h1 | h1
        · exact .inl h1
        · have h2 : e.on < i := by simpa using h1
          have h3 := ih e.on h2 (by omega)
          refine .inr ?_
          unfold Array.getD at h3 ⊢
          split
          · rename_i hk; simpa [hk] using h3
          · rename_i hk; omega
      rw [h0] at hm
      cases hm
    · rfl
theorem wp_region_inv {P : Program} {ops : Array Oper} {Q : Exit → Act → World → Prop} {id : Nat} {a : Act} {w : World} (I : Array Bool → Act → World → Prop) (hm : P.follows .mixedOrders = true) (hB : lowB .any ops = true)
    (hstart : I (Array.replicate ops.size false) a w.drew)
    (hfin : ∀ l a w, I l a w → (∀ i, i < ops.size → l.getD i true = true) → Q .normal a w)
    (hstep : ∀ l a w i, I l a w → i ∈ Region.ready .any ops l → wpOp P ops Q i (I (l.setIfInBounds i true)) a w) :
    (Code.region id ops true).wp P Q a w := by
  refine wp_region_any hm (wpAny_inv (I := I) (fun l a w hz h h0 => hfin l a w h (ready_none hz hB h0)) hstep _ _ _ _ (by simp) ?_ hstart)
  exact Nat.le_trans (List.length_filter_le _ _) (by simp)

/-- what holds once operation i has come up -/
def Once (l : Array Bool) (i : Nat) (p : Prop) : Prop := l.getD i true = true → p
theorem Once.past {l : Array Bool} {i j : Nat} {p q : Prop} (h : Once l j p) (hn : j ≠ i) (hp : p → q) : Once (l.setIfInBounds i true) j q := fun e => hp (h (by rwa [getD_set_ne hn] at e))
theorem Once.now {l : Array Bool} {i j : Nat} {p : Prop} (h : p) : Once (l.setIfInBounds i true) j p := fun _ => h
theorem once_start {n i : Nat} {p : Prop} (hi : i < n) : Once (Array.replicate n false) i p := by
  intro e
  simp [Array.getD_eq_getD_getElem?, hi] at e
theorem start_at {n i : Nat} (hi : i < n) : (Array.replicate n false).getD i true = false := by
  simp [Array.getD_eq_getD_getElem?, hi]
end Go.Proofs.YtblddehlkaolbaaGreatDoor

