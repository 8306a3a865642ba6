/- What the model's draws of numbers answer: numbers within their bounds; they change the reader's own block and no other that was there. -/
import Derived.Test.YtjgcadighogmkaaCur
namespace Go.Proofs.Ytjgcadighogmkaa
open Go.RowKit
set_option linter.unusedVariables false

/-- behind a call of the reader's: at most k bytes more were read, and no block but the reader's has turned -/
def Went (w w' : World) (b : Nat) (a : Option Addr) (len cap : Nat) (p k : Int) : Prop :=
  w.grownBy w' (some b) ∧ ∃ q : Int, p ≤ q ∧ q ≤ p + k ∧ Cur w' b a len cap q

theorem Went.refl {w : World} {b : Nat} {a : Option Addr} {len cap : Nat} {p : Int} (h : Cur w b a len cap p) : Went w w b a len cap p 0 :=
  ⟨World.grownBy.refl _ _, p, by omega, by omega, h⟩
theorem Went.trans {w w1 w2 : World} {b : Nat} {a : Option Addr} {len cap : Nat} {p q k l m : Int} (h1 : w.grownBy w1 (some b)) (hq : q ≤ p + k) (hp : p ≤ q) (h2 : Went w1 w2 b a len cap q l) (hm : k + l ≤ m) : Went w w2 b a len cap p m := by
  obtain ⟨g, r, r0, r1, c⟩ := h2
  exact ⟨grownBy_trans h1 g, r, by omega, by omega, c⟩
theorem Went.more {w w1 : World} {b : Nat} {a : Option Addr} {len cap : Nat} {p k m : Int} (h : Went w w1 b a len cap p k) (hm : k ≤ m) : Went w w1 b a len cap p m := by
  obtain ⟨g, r, r0, r1, c⟩ := h
  exact ⟨g, r, r0, by omega, c⟩

theorem pick (w : World) (b : Nat) (a : Option Addr) (len cap : Nat) (p n : Int) (h : Cur w b a len cap p) (p0 : 0 ≤ p) (p1 : p ≤ 900000) (n0 : 1 ≤ n) (n1 : n ≤ 1000000) :
    Calls Try.prog 54 #[.pointer (some ⟨b, 0, none⟩), .int .i64 n] w fun e w' => ∃ r : Int, e = .returned (.int .i64 r) ∧ 0 ≤ r ∧ r < n ∧ Went w w' b a len cap p 2 := by
  by_cases h1 : n ≤ 1
  · go_enter Try.func54, Try.ntmps54
    go_wp2_with fail
    go_ret
    exact ⟨0, rfl, by omega, by omega, (Went.refl h).more (by omega)⟩
  · by_cases h2 : 200 < n
    · go_enter Try.func54, Try.ntmps54
      go_wp2_with fail
      refine (next_any _ b a len cap p h p0 (by omega)).mono ?_
      rintro e w1 ⟨x, rfl, x0, x1, hc1, hg1⟩
      go_wp2_with fail
      refine (next_any _ b a len cap (p + 1) hc1 (by omega) (by omega)).mono ?_
      rintro e w2 ⟨y, rfl, y0, y1, hc2, hg2⟩
      have b0 := Int.emod_nonneg (x * 256 + y) (show n ≠ 0 by omega)
      have b1 := Int.emod_lt_of_pos (x * 256 + y) (show 0 < n by omega)
      go_wp2_with fail
      go_ret
      exact ⟨_, rfl, b0, b1, grownBy_trans hg1 hg2, p + 1 + 1, by omega, by omega, hc2⟩
    · go_enter Try.func54, Try.ntmps54
      go_wp2_with fail
      refine (next_any _ b a len cap p h p0 (by omega)).mono ?_
      rintro e w1 ⟨x, rfl, x0, x1, hc1, hg1⟩
      have b0 := Int.emod_nonneg x (show n ≠ 0 by omega)
      have b1 := Int.emod_lt_of_pos x (show 0 < n by omega)
      go_wp2_with fail
      go_ret
      exact ⟨_, rfl, b0, b1, hg1, p + 1, by omega, by omega, hc1⟩

theorem one (w : World) (b : Nat) (a : Option Addr) (len cap : Nat) (p n : Int) (h : Cur w b a len cap p) (p0 : 0 ≤ p) (p1 : p ≤ 900000) (n0 : 1 ≤ n) (n1 : n ≤ 1000000) :
    Calls Try.prog 53 #[.pointer (some ⟨b, 0, none⟩), .int .i64 n] w fun e w' => ∃ r : Bool, e = .returned (.bool r) ∧ Went w w' b a len cap p 2 := by
  go_enter Try.func53, Try.ntmps53
  go_wp2_with fail
  refine (pick _ b a len cap p n h p0 p1 n0 n1).mono ?_
  rintro e w1 ⟨x, rfl, x0, x1, hw⟩
  go_wp2_with fail
  go_ret
  exact ⟨_, rfl, hw⟩

theorem among (w : World) (b : Nat) (a : Option Addr) (len cap : Nat) (p : Int) (g k c : Nat) (lo hi : Int) (h : Cur w b a len cap p) (p0 : 0 ≤ p) (p1 : p ≤ 900000) (k0 : 1 ≤ k) (k1 : k ≤ 1000) (hne : g ≠ b)
    (hz : ∀ i : Nat, i < k → ∃ z : Int, w.cell? ⟨g, i, none⟩ = some (.int .i64 z) ∧ lo ≤ z ∧ z ≤ hi) :
    Calls Try.prog 52 #[.pointer (some ⟨b, 0, none⟩), .slice (some ⟨g, 0, none⟩) k c] w fun e w' => ∃ r : Int, e = .returned (.int .i64 r) ∧ lo ≤ r ∧ r ≤ hi ∧ Went w w' b a len cap p 2 := by
  go_enter Try.func52, Try.ntmps52
  go_wp2_with fail
  refine (pick _ b a len cap p _ h p0 p1 (by omega) (by omega)).mono ?_
  rintro e w1 ⟨x, rfl, x0, x1, hw⟩
  obtain ⟨n, rfl⟩ := Int.eq_ofNat_of_zero_le x0
  obtain ⟨z, hc, z0, z1⟩ := hz n (by omega)
  have hc1 : w1.cell? ⟨g, n, none⟩ = some (.int .i64 z) := hw.1.cell hc (by simpa using hne)
  clear hc hz
  go_wp2_with fail
  go_ret
  exact ⟨_, rfl, z0, z1, hw⟩

end Go.Proofs.Ytjgcadighogmkaa
