/- What the program's moves by one place answer, for each kind and size: one contract a method; each makes new blocks and changes none that was there. -/
import Derived.Test.YtlagdbajdehanaaSgn
import Derived.Test.YtlagdbajdehanaaSpecOnce
import Derived.Test.YtlagdbajdehanaaBoxRow
import Derived.RegionTactic
import Derived.ChangeAlike
import Derived.BigRegion
import Derived.Deep.RegionWith
namespace Go.Proofs.Ytlagdbajdehanaa
open Go.RowKit
set_option linter.unusedVariables false

theorem rA {a b c d a' b' c' d' : Int} {t t' : Bool} (ha : a = a') (hb : b = b') (hc : c = c') (hd : d = d') (ht : t = t') : Ending.returned (.agg #[.int .i64 a, .int .i64 b, .int .i64 c, .int .i64 d, .bool t]) = .returned (.agg #[.int .i64 a', .int .i64 b', .int .i64 c', .int .i64 d', .bool t']) := by rw [ha, hb, hc, hd, ht]
theorem results_cell1 {fn : Func} {p : Tmp} {ty : TypeId} (h : fn.results = #[.cell p ty]) (tmps : Array Value) (P : Program) (w : World) :
    (results fn tmps).run P w = ((asAddr (tmps.getD p undef)).run P w).andThen fun a w₁ => (loadVar ty a).run P w₁ := by
  simp only [results, h]
  simp [Sem.run_bind, Result.andThen]
theorem Pl.or_low' {a q : Int} (h0 : 0 ≤ a) (h1 : a < 131072) (h2 : a % 2 = 0) (q0 : 0 ≤ q) (q1 : q ≤ 1) : bits .or .i64 a q = a + q :=
  bits_join .i64 62 (by decide) wraps_i64 1 a q (by omega) (by omega) (by omega) (by omega) (by omega) (by omega)
theorem lowest (v s x f : Int) (t : Bool) (w : World) :
    Calls Try.prog 74 #[.agg #[.int .i64 v, .int .i64 s, .int .i64 x, .int .i64 f, .bool t]] w fun e w' => e = .returned (.int .i64 (v % 2)) ∧ ∃ o, w' = w.alloc o := by
  have hA := Pl.and1 v
  go_enter Try.func74, Try.ntmps74
  go_wp2
  go_ret
  exact ⟨rfl, _, rfl⟩
theorem keepFallen (v s x f : Int) (t : Bool) (w : World) :
    Calls Try.prog 72 #[.agg #[.int .i64 v, .int .i64 s, .int .i64 x, .int .i64 f, .bool t]] w fun e w' => e = .returned (.agg #[.int .i64 v, .int .i64 s, .int .i64 f, .int .i64 f, .bool t]) ∧ ∃ o1 o2, w' = (w.alloc o1).alloc o2 := by
  go_enter Try.func72, Try.ntmps72
  go_wp2
  refine bodyPost_ret (v := .agg #[.int .i64 v, .int .i64 s, .int .i64 f, .int .i64 f, .bool t]) ?_ rfl ⟨rfl, _, _, rfl⟩
  rw [results_cell1 rfl]; go_simp
theorem highest1 (v x f : Int) (t : Bool) (w : World) (h0 : 0 ≤ v) (h1 : v < 256) :
    Calls Try.prog 65 #[.agg #[.int .i64 v, .int .i64 8, .int .i64 x, .int .i64 f, .bool t]] w fun e w' => e = .returned (.int .i64 (Pl.hi 1 v)) ∧ ∃ o, w' = w.alloc o := by
  have E : Hid (v / 128 = Pl.hi 1 v) := hide (by simp [Pl.hi, Pl.top]; omega)
  go_enter Try.func65, Try.ntmps65
  go_wp2
  go_ret
  exact ⟨rI E.out, _, rfl⟩
theorem moveUp1 (v x f i : Int) (t : Bool) (w : World) (h0 : 0 ≤ v) (h1 : v < 256) (i0 : 0 ≤ i) (i1 : i ≤ 1) :
    Calls Try.prog 71 #[.agg #[.int .i64 v, .int .i64 8, .int .i64 x, .int .i64 f, .bool t], .int .i64 i] w fun e w' => e = .returned (.agg #[.int .i64 (v * 2 % 256 + i), .int .i64 8, .int .i64 x, .int .i64 (Pl.hi 1 v), .bool t]) ∧ ∃ o1 o2 o3, w' = (((w.alloc o1).alloc o2).alloc o3).drew := by
  have hO := Pl.or_low' (a := v * 2) (q := i) (by omega) (by omega) (by omega) i0 i1
  have hA := Pl.and255 (v * 2 + i)
  have hE : (v * 2 + i) % 256 = v * 2 % 256 + i := by omega
  go_enter Try.func71, Try.ntmps71
  go_wp2_with fail
  refine (highest1 v x f t _ h0 h1).mono ?_
  rintro e w' ⟨rfl, o, rfl⟩
  go_wp2_with fail
  go_region
  go_wp2_with fail
  refine bodyPost_ret (v := .agg #[.int .i64 (v * 2 % 256 + i), .int .i64 8, .int .i64 x, .int .i64 (Pl.hi 1 v), .bool t]) ?_ rfl ⟨rfl, _, _, _, rfl⟩
  rw [results_cell1 rfl]; go_simp
theorem moveDown1 (v x f i : Int) (t : Bool) (w : World) (h0 : 0 ≤ v) (h1 : v < 256) (i0 : 0 ≤ i) (i1 : i ≤ 1) :
    Calls Try.prog 73 #[.agg #[.int .i64 v, .int .i64 8, .int .i64 x, .int .i64 f, .bool t], .int .i64 i] w fun e w' => e = .returned (.agg #[.int .i64 (v / 2 + i * 128), .int .i64 8, .int .i64 x, .int .i64 (v % 2), .bool t]) ∧ ∃ o1 o2 o3, w' = (((w.alloc o1).alloc o2).alloc o3).drew := by
  have hO := Pl.or_high1 (a := v / 2) (q := i) (by omega) (by omega) i0 i1
  go_enter Try.func73, Try.ntmps73
  go_wp2_with fail
  refine (lowest v 8 x f t _).mono ?_
  rintro e w' ⟨rfl, o, rfl⟩
  go_wp2_with fail
  go_region
  go_wp2_with fail
  refine bodyPost_ret (v := .agg #[.int .i64 (v / 2 + i * 128), .int .i64 8, .int .i64 x, .int .i64 (v % 2), .bool t]) ?_ rfl ⟨rfl, _, _, _, rfl⟩
  rw [results_cell1 rfl]; go_simp
theorem highest2 (v x f : Int) (t : Bool) (w : World) (h0 : 0 ≤ v) (h1 : v < 65536) :
    Calls Try.prog 65 #[.agg #[.int .i64 v, .int .i64 16, .int .i64 x, .int .i64 f, .bool t]] w fun e w' => e = .returned (.int .i64 (Pl.hi 2 v)) ∧ ∃ o, w' = w.alloc o := by
  have E : Hid (v / 32768 = Pl.hi 2 v) := hide (by simp [Pl.hi, Pl.top]; omega)
  go_enter Try.func65, Try.ntmps65
  go_wp2
  go_ret
  exact ⟨rI E.out, _, rfl⟩
theorem moveUp2 (v x f i : Int) (t : Bool) (w : World) (h0 : 0 ≤ v) (h1 : v < 65536) (i0 : 0 ≤ i) (i1 : i ≤ 1) :
    Calls Try.prog 71 #[.agg #[.int .i64 v, .int .i64 16, .int .i64 x, .int .i64 f, .bool t], .int .i64 i] w fun e w' => e = .returned (.agg #[.int .i64 (v * 2 % 65536 + i), .int .i64 16, .int .i64 x, .int .i64 (Pl.hi 2 v), .bool t]) ∧ ∃ o1 o2 o3, w' = (((w.alloc o1).alloc o2).alloc o3).drew := by
  have hO := Pl.or_low' (a := v * 2) (q := i) (by omega) (by omega) (by omega) i0 i1
  have hA := Pl.and65535 (v * 2 + i)
  have hE : (v * 2 + i) % 65536 = v * 2 % 65536 + i := by omega
  go_enter Try.func71, Try.ntmps71
  go_wp2_with fail
  refine (highest2 v x f t _ h0 h1).mono ?_
  rintro e w' ⟨rfl, o, rfl⟩
  go_wp2_with fail
  go_region
  go_wp2_with fail
  refine bodyPost_ret (v := .agg #[.int .i64 (v * 2 % 65536 + i), .int .i64 16, .int .i64 x, .int .i64 (Pl.hi 2 v), .bool t]) ?_ rfl ⟨rfl, _, _, _, rfl⟩
  rw [results_cell1 rfl]; go_simp
theorem moveDown2 (v x f i : Int) (t : Bool) (w : World) (h0 : 0 ≤ v) (h1 : v < 65536) (i0 : 0 ≤ i) (i1 : i ≤ 1) :
    Calls Try.prog 73 #[.agg #[.int .i64 v, .int .i64 16, .int .i64 x, .int .i64 f, .bool t], .int .i64 i] w fun e w' => e = .returned (.agg #[.int .i64 (v / 2 + i * 32768), .int .i64 16, .int .i64 x, .int .i64 (v % 2), .bool t]) ∧ ∃ o1 o2 o3, w' = (((w.alloc o1).alloc o2).alloc o3).drew := by
  have hO := Pl.or_high2 (a := v / 2) (q := i) (by omega) (by omega) i0 i1
  go_enter Try.func73, Try.ntmps73
  go_wp2_with fail
  refine (lowest v 16 x f t _).mono ?_
  rintro e w' ⟨rfl, o, rfl⟩
  go_wp2_with fail
  go_region
  go_wp2_with fail
  refine bodyPost_ret (v := .agg #[.int .i64 (v / 2 + i * 32768), .int .i64 16, .int .i64 x, .int .i64 (v % 2), .bool t]) ?_ rfl ⟨rfl, _, _, _, rfl⟩
  rw [results_cell1 rfl]; go_simp
end Go.Proofs.Ytlagdbajdehanaa
