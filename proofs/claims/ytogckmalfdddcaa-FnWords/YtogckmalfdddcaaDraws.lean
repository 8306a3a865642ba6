/- What the model's draws of a law's arguments answer, of whatever bytes: numbers within their bounds; no block that was there has turned. -/
import Derived.Test.YtogckmalfdddcaaDraw
namespace Go.Proofs.Ytogckmalfdddcaa
open Go.RowKit
set_option linter.unusedVariables false

/-- bytes that came in: each of the first len cells holds one -/
def Bytes (w : World) (a : Option Addr) (len : Nat) : Prop :=
  len ≤ maxLen ∧ ∀ i : Nat, i < len → ∃ (g off : Nat) (z : Int), a = some ⟨g, off, none⟩ ∧ w.cell? ⟨g, off + i, none⟩ = some (.int .u8 z) ∧ 0 ≤ z ∧ z ≤ 255

theorem Bytes.cur {w : World} {a : Option Addr} {len : Nat} (h : Bytes w a len) (cap : Nat) : Cur (w.alloc (.cells #[.slice a len cap, .int .i64 0, .int .u64 0] 57)) w.heap.size a len cap 0 := by
  obtain ⟨hl, hr⟩ := h
  refine ⟨by simp, by simp, ⟨0, by simp⟩, by simp, by simp, hl, ?_⟩
  intro i hi
  obtain ⟨g, off, z, ea, hc, z0, z1⟩ := hr i hi
  have hg : g < w.heap.size := World.block_lt_of_cell? _ _ hc
  exact ⟨g, off, z, ea, by omega, by rw [World.cell?_alloc_lt _ _ _ hg]; exact hc, z0, z1⟩

theorem bytesOfRow {w : World} {a : Option Addr} {len cap : Nat} {zs : List Int} (h : (a = none ∧ len = 0 ∧ cap = 0 ∧ zs = []) ∨
    ∃ x, a = some x ∧ len ≤ cap ∧ cap ≤ maxLen ∧ zs.length = cap ∧ (∀ i, i < zs.length → w.cell? (x.add i) = some (.int .u8 (zs.getD i 0))) ∧ ∀ n ∈ zs, (Lit.int .u8 n).wf = true) : Bytes w a len := by
  rcases h with ⟨_, rfl, _, _⟩ | ⟨x, rfl, hl, hm, hz, hcell, hwz⟩
  · exact ⟨Nat.zero_le _, fun i hi => absurd hi (Nat.not_lt_zero i)⟩
  · refine ⟨Nat.le_trans hl hm, fun i hi => ?_⟩
    obtain ⟨g, off, spot⟩ := x
    have hspot : spot = none := by simpa [Addr.add] using World.cell?_spot (hcell 0 (by omega))
    subst hspot
    have hi2 : i < zs.length := by omega
    have hc : w.cell? ⟨g, off + i, none⟩ = some (.int .u8 (zs.getD i 0)) := by
      have hc := hcell i hi2
      by_cases h0 : i = 0
      · subst h0; simpa [Addr.add] using hc
      · simpa [Addr.add, h0] using hc
    have hmem : zs.getD i 0 ∈ zs := by simp [List.getD, hi2]
    have hb := bounds_u8 (hwz _ hmem)
    exact ⟨g, off, zs.getD i 0, rfl, hc, hb.1, hb.2⟩

theorem below_of {w w' : World} {o : Obj} (hg : (w.alloc o).grownBy w' (some w.heap.size)) : Below w.heap.size w w' :=
  ⟨hg.os, hg.tape, hg.output, by have := hg.size; simp at this; omega, fun k hk => (hg.block k (by simp; omega) (by simp; omega)).trans (Below.heap_alloc _ _ _ hk)⟩

theorem drawAddFlags (w : World) (a : Option Addr) (len cap : Nat) (h : Bytes w a len) :
    Calls Try.prog 14 #[.slice a len cap] w fun e w' => ∃ s x u v : Int, e = .returned (.tuple #[.int .i64 s, .int .i64 x, .int .i64 u, .int .i64 v]) ∧ 0 ≤ x ∧ x ≤ 2 ∧ -1 ≤ u ∧ u ≤ 65536 ∧ -1 ≤ v ∧ v ≤ 65536 ∧ Below w.heap.size w w' := by
  go_enter Try.func14, Try.ntmps14
  go_wp2_with fail
  refine (size _ _ a len cap 0 (h.cur cap) (by omega) (by omega)).mono ?_
  rintro e w1 ⟨s, rfl, s0, s1, hg1, q1, q10, q11, hc1⟩
  have hlt := hc1.lt
  go_wp2_with fail
  refine (among _ _ a len cap q1 _ _ _ 0 2 (hc1.alloc _) (by omega) (by omega) (by decide) (by decide) (by omega) (lits w1 [0, 0, 1, 1, 2] 0 2 (by decide))).mono ?_
  rintro e w2 ⟨x, rfl, x0, x1, hw⟩
  obtain ⟨hg2, q2, q20, q21, hc2⟩ := hw.alloc
  clear hw
  go_wp2_with fail
  refine (fit _ _ a len cap q2 s hc2 (by omega) (by omega)).mono ?_
  rintro e w3 ⟨u, rfl, u0, u1, hg3, q3, q30, q31, hc3⟩
  go_wp2_with fail
  refine (fit _ _ a len cap q3 s hc3 (by omega) (by omega)).mono ?_
  rintro e w4 ⟨v, rfl, v0, v1, hg4, q4, q40, q41, hc4⟩
  go_wp2_with fail
  exact bodyPost_ret (v := .tuple #[.int .i64 s, .int .i64 x, .int .i64 u, .int .i64 v]) (by simp [results, Try.results14, go_sem]) rfl ⟨s, x, u, v, rfl, x0, x1, u0, u1, v0, v1, below_of (grownBy_trans (grownBy_trans (grownBy_trans hg1 hg2) hg3) hg4)⟩

theorem drawSignedOf (w : World) (a : Option Addr) (len cap : Nat) (h : Bytes w a len) :
    Calls Try.prog 56 #[.slice a len cap] w fun e w' => ∃ s v : Int, e = .returned (.tuple #[.int .i64 s, .int .i64 v]) ∧ -1 ≤ v ∧ v ≤ 65536 ∧ Below w.heap.size w w' := by
  go_enter Try.func56, Try.ntmps56
  go_wp2_with fail
  refine (size _ _ a len cap 0 (h.cur cap) (by omega) (by omega)).mono ?_
  rintro e w1 ⟨s, rfl, s0, s1, hg1, q1, q10, q11, hc1⟩
  go_wp2_with fail
  refine (fit _ _ a len cap q1 s hc1 (by omega) (by omega)).mono ?_
  rintro e w2 ⟨v, rfl, v0, v1, hg2, q2, q20, q21, hc2⟩
  go_wp2_with fail
  go_ret2
  exact ⟨s, v, rfl, v0, v1, below_of (grownBy_trans hg1 hg2)⟩

theorem drawNegFlags (w : World) (a : Option Addr) (len cap : Nat) (h : Bytes w a len) :
    Calls Try.prog 21 #[.slice a len cap] w fun e w' => ∃ s v : Int, e = .returned (.tuple #[.int .i64 s, .int .i64 v]) ∧ -1 ≤ v ∧ v ≤ 65536 ∧ Below w.heap.size w w' := by
  go_enter Try.func21, Try.ntmps21
  go_wp2_with fail
  refine (drawSignedOf _ a len cap h).mono ?_
  rintro e w1 ⟨s, v, rfl, v0, v1, hb⟩
  go_wp2_with fail
  go_ret2
  exact ⟨s, v, rfl, v0, v1, hb⟩

theorem drawExtendWord (w : World) (a : Option Addr) (len cap : Nat) (h : Bytes w a len) :
    Calls Try.prog 28 #[.slice a len cap] w fun e w' => ∃ v : Int, e = .returned (.int .i64 v) ∧ -1 ≤ v ∧ v ≤ 65536 ∧ Below w.heap.size w w' := by
  go_enter Try.func28, Try.ntmps28
  go_wp2_with fail
  refine (fit _ _ a len cap 0 1 (h.cur cap) (by omega) (by omega)).mono ?_
  rintro e w2 ⟨v, rfl, v0, v1, hg2, q2, q20, q21, hc2⟩
  go_wp2_with fail
  go_ret
  exact ⟨v, rfl, v0, v1, below_of hg2⟩

theorem drawSwapBytes (w : World) (a : Option Addr) (len cap : Nat) (h : Bytes w a len) :
    Calls Try.prog 31 #[.slice a len cap] w fun e w' => ∃ v : Int, e = .returned (.int .i64 v) ∧ -1 ≤ v ∧ v ≤ 65536 ∧ Below w.heap.size w w' := by
  go_enter Try.func31, Try.ntmps31
  go_wp2_with fail
  refine (value _ _ a len cap 0 (h.cur cap) (by omega) (by omega)).mono ?_
  rintro e w2 ⟨v, rfl, v0, v1, hg2, q2, q20, q21, hc2⟩
  go_wp2_with fail
  go_ret
  exact ⟨v, rfl, v0, v1, below_of hg2⟩

theorem drawCmpFlags (w : World) (a : Option Addr) (len cap : Nat) (h : Bytes w a len) :
    Calls Try.prog 34 #[.slice a len cap] w fun e w' => ∃ s x u v : Int, e = .returned (.tuple #[.int .i64 s, .int .i64 x, .int .i64 u, .int .i64 v]) ∧ 0 ≤ x ∧ x ≤ 32 ∧ -1 ≤ u ∧ u ≤ 65536 ∧ -1 ≤ v ∧ v ≤ 65536 ∧ Below w.heap.size w w' := by
  go_enter Try.func34, Try.ntmps34
  go_wp2_with fail
  refine (size _ _ a len cap 0 (h.cur cap) (by omega) (by omega)).mono ?_
  rintro e w1 ⟨s, rfl, s0, s1, hg1, q1, q10, q11, hc1⟩
  go_wp2_with fail
  refine (pick _ _ a len cap q1 33 hc1 (by omega) (by omega) (by omega) (by omega)).mono ?_
  rintro e w2 ⟨x, rfl, x0, x1, hg2, q2, q20, q21, hc2⟩
  go_wp2_with fail
  refine (fit _ _ a len cap q2 s hc2 (by omega) (by omega)).mono ?_
  rintro e w3 ⟨u, rfl, u0, u1, hg3, q3, q30, q31, hc3⟩
  go_wp2_with fail
  refine (fit _ _ a len cap q3 s hc3 (by omega) (by omega)).mono ?_
  rintro e w4 ⟨v, rfl, v0, v1, hg4, q4, q40, q41, hc4⟩
  go_wp2_with fail
  exact bodyPost_ret (v := .tuple #[.int .i64 s, .int .i64 x, .int .i64 u, .int .i64 v]) (by simp [results, Try.results34, go_sem]) rfl ⟨s, x, u, v, rfl, x0, by omega, u0, u1, v0, v1, below_of (grownBy_trans (grownBy_trans (grownBy_trans hg1 hg2) hg3) hg4)⟩

theorem drawLogicFlags (w : World) (a : Option Addr) (len cap : Nat) (h : Bytes w a len) :
    Calls Try.prog 37 #[.slice a len cap] w fun e w' => ∃ s x v : Int, e = .returned (.tuple #[.int .i64 s, .int .i64 x, .int .i64 v]) ∧ 0 ≤ x ∧ x ≤ 32 ∧ -1 ≤ v ∧ v ≤ 65536 ∧ Below w.heap.size w w' := by
  go_enter Try.func37, Try.ntmps37
  go_wp2_with fail
  refine (size _ _ a len cap 0 (h.cur cap) (by omega) (by omega)).mono ?_
  rintro e w1 ⟨s, rfl, s0, s1, hg1, q1, q10, q11, hc1⟩
  go_wp2_with fail
  refine (pick _ _ a len cap q1 33 hc1 (by omega) (by omega) (by omega) (by omega)).mono ?_
  rintro e w2 ⟨x, rfl, x0, x1, hg2, q2, q20, q21, hc2⟩
  go_wp2_with fail
  refine (fit _ _ a len cap q2 s hc2 (by omega) (by omega)).mono ?_
  rintro e w3 ⟨u, rfl, u0, u1, hg3, q3, q30, q31, hc3⟩
  go_wp2_with fail
  go_ret3
  exact ⟨s, x, u, rfl, x0, by omega, u0, u1, below_of (grownBy_trans (grownBy_trans hg1 hg2) hg3)⟩

end Go.Proofs.Ytogckmalfdddcaa
