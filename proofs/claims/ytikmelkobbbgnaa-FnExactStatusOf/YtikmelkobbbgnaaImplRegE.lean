/- What the program's bank does under a new status and under a number put into a data register. -/
import Derived.Test.YtikmelkobbbgnaaImplRegD
import Derived.Test.YtikmelkobbbgnaaSpecReg5
namespace Go.Proofs.Ytikmelkobbbgnaa
open Go.RowKit
set_option linter.unusedVariables false
theorem set_el4 {r : Pl.Rg} (h : r.ys.length = 4) (v : Int) : el (r.ys.set 3 v) 0 = el r.ys 0 ∧ el (r.ys.set 3 v) 1 = el r.ys 1 ∧ el (r.ys.set 3 v) 2 = el r.ys 2 ∧ el (r.ys.set 3 v) 3 = v := by
  have q := fun i => el_set (xs := r.ys) (k := 3) (i := i) (z := v) (by omega)
  refine ⟨?_, ?_, ?_, ?_⟩ <;> rw [q] <;> rfl
set_option maxHeartbeats 4000000 in
theorem setStatus (w : World) (g : Nat) (r : Pl.Rg) (n : Int) (hB : Blk w g (bkR r) 55) (hg : Pl.Good r) (h0 : 0 ≤ n) (h1 : n ≤ 1023) :
    Calls Try.prog 58 #[.pointer (some ⟨g, 0, none⟩), .int .i64 n] w fun e w' => e = .returned (.tuple #[]) ∧ Blk w' g (bkR (Pl.withR r n)) 55 ∧ Kept g (g + 1) w w' := by
  have e1 := st256 h0 h1
  have e2 := st512 h0 h1
  have e3 := st31 h0 h1
  have e4 := st7 h0 h1
  have HB := hide hB
  have h4 := hide hg.a4
  clear hB hg
  by_cases hs : Pl.stSuper n = r.s
  · have q1 : (Pl.stSuper n == r.s) = true := by simp [hs]
    have E : Hid (Pl.withR r n = { r with s := Pl.stSuper n, t := Pl.stTrace n, m := n / 32 % 8, f := n % 32 }) := hide (by unfold Pl.withR; rw [if_pos hs])
    obtain ⟨c0, c1, c2, c3, c4, c5, c6, c7, c8, c9, c10, c11, c12, c13⟩ := bkS HB.out
    clear c0 c1 c2 c3 c4 c5 c6 c7 c8 c9
    have d10 := HB.out.frozen 10
    have d11 := HB.out.frozen 11
    have d12 := HB.out.frozen 12
    have d13 := HB.out.frozen 13
    clear hs
    go_enter Try.func58, Try.ntmps58
    go_wp2_with fail
    go_end0
    refine ⟨rfl, ?_, ?_⟩
    · rw [E.out]
      exact ((((HB.out.set 12 (.bool (Pl.stSuper n))).set 13 (.bool (Pl.stTrace n))).set 11 (.int .i64 (n / 32 % 8))).set 10 (.int .i64 (n % 32)))
    · exact (kept_set (kept_set (kept_set (kept_set (Kept.refl _ _ _) _ _ _ (.inl ⟨by omega, by omega⟩)) _ _ _ (.inl ⟨by omega, by omega⟩)) _ _ _ (.inl ⟨by omega, by omega⟩)) _ _ _ (.inl ⟨by omega, by omega⟩))
  · have q1 : (Pl.stSuper n == r.s) = false := by simpa using hs
    have E : Hid (Pl.withR r n = { r with ys := r.ys.set 3 r.o, o := el r.ys 3, s := Pl.stSuper n, t := Pl.stTrace n, m := n / 32 % 8, f := n % 32 }) := hide (by unfold Pl.withR; rw [if_neg hs])
    obtain ⟨c0, c1, c2, c3, c4, c5, c6, c7, c8, c9, c10, c11, c12, c13⟩ := bkS HB.out
    clear c0 c1 c2 c3 c4 c5 c6 c9
    have d7 := HB.out.frozen 7
    have d8 := HB.out.frozen 8
    have d10 := HB.out.frozen 10
    have d11 := HB.out.frozen 11
    have d12 := HB.out.frozen 12
    have d13 := HB.out.frozen 13
    clear hs
    go_enter Try.func58, Try.ntmps58
    go_wp2_with fail
    go_region
    go_wp2_with fail
    go_end0
    refine ⟨rfl, ?_, ?_⟩
    · rw [E.out]
      have q := Bd ((((((HB.out.set 7 (.int .i64 r.o)).set 8 (.int .i64 (el r.ys 3))).set 12 (.bool (Pl.stSuper n))).set 13 (.bool (Pl.stTrace n))).set 11 (.int .i64 (n / 32 % 8))).set 10 (.int .i64 (n % 32)))
      obtain ⟨p0, p1, p2, p3⟩ := set_el4 h4.out r.o
      unfold bkR
      simp only [p0, p1, p2, p3]
      exact q
    · exact kept_drew (kept_set (kept_set (kept_set (kept_set (kept_set (kept_set (Kept.refl _ _ _) _ _ _ (.inl ⟨by omega, by omega⟩)) _ _ _ (.inl ⟨by omega, by omega⟩)) _ _ _ (.inl ⟨by omega, by omega⟩)) _ _ _ (.inl ⟨by omega, by omega⟩)) _ _ _ (.inl ⟨by omega, by omega⟩)) _ _ _ (.inl ⟨by omega, by omega⟩))
theorem bkX {r : Pl.Rg} (h : r.xs.length = 4) {k : Nat} (hk : k < 4) (z : Int) : bkR { r with xs := r.xs.set k z } = (bkR r).setIfInBounds k (.int .i64 z) := by
  obtain ⟨xs, ys, o, p, f, m, s, t⟩ := r
  match xs, h with
  | [a, b, c, d], _ =>
    have : k = 0 ∨ k = 1 ∨ k = 2 ∨ k = 3 := by omega
    rcases this with rfl | rfl | rfl | rfl <;> rfl
theorem bkY {r : Pl.Rg} (h : r.ys.length = 4) {k : Nat} (hk : k < 4) (z : Int) : bkR { r with ys := r.ys.set k z } = (bkR r).setIfInBounds (4 + k) (.int .i64 z) := by
  obtain ⟨xs, ys, o, p, f, m, s, t⟩ := r
  match ys, h with
  | [a, b, c, d], _ =>
    have : k = 0 ∨ k = 1 ∨ k = 2 ∨ k = 3 := by omega
    rcases this with rfl | rfl | rfl | rfl <;> rfl
theorem andNat8 (x : Nat) : x &&& 18446744073709551360 = x / 256 % 72057594037927936 * 256 := by
  apply Nat.eq_of_testBit_eq
  intro i
  rw [Nat.testBit_and, show (18446744073709551360 : Nat) = (2 ^ 56 - 1) * 2 ^ 8 from by decide, Nat.testBit_mul_two_pow, Nat.testBit_two_pow_sub_one, show x / 256 % 72057594037927936 * 256 = x / 2 ^ 8 % 2 ^ 56 * 2 ^ 8 from rfl, Nat.testBit_mul_two_pow, Nat.testBit_mod_two_pow, Nat.testBit_div_two_pow]
  by_cases h : 8 ≤ i
  · have e : i - 8 + 8 = i := by omega
    simp [h, e, Bool.and_comm]
  · simp [h]
theorem andNot255 {x : Int} (h0 : 0 ≤ x) (h1 : x ≤ 65535) : bits .andNot .i64 x 255 = x / 256 * 256 := by
  show IntKind.i64.wrap ((BitVec.ofInt 64 x &&& ~~~ BitVec.ofInt 64 255).toNat : Int) = _
  rw [BitVec.toNat_and, BitVec.toNat_ofInt, show (~~~ BitVec.ofInt 64 255).toNat = 18446744073709551360 from by decide, andNat8, IntKind.wrap_i64]
  omega
theorem orComm (x y : Int) : bits .or .i64 x y = bits .or .i64 y x := by
  show IntKind.i64.wrap ((BitVec.ofInt 64 x ||| BitVec.ofInt 64 y).toNat : Int) = IntKind.i64.wrap ((BitVec.ofInt 64 y ||| BitVec.ofInt 64 x).toNat : Int)
  rw [BitVec.or_comm]
theorem and_not_255 {x v : Int} (h0 : 0 ≤ x) (h1 : x ≤ 65535) (v0 : 0 ≤ v) (v1 : v ≤ 255) : bits .or .i64 v (bits .andNot .i64 x 255) = x / 256 * 256 + v := by
  rw [andNot255 h0 h1, orComm]
  exact bits_join .i64 62 (by decide) Pl.wraps_i64 8 (x / 256 * 256) v (by omega) (by omega) (by omega) (by omega) (by omega) (by omega)
set_option maxHeartbeats 1000000 in
theorem putData1 (w : World) (g : Nat) (r : Pl.Rg) (k v : Int) (hB : Blk w g (bkR r) 55) (hg : Pl.Good r) (k0 : 0 ≤ k) (k3 : k ≤ 3) (v0 : 0 ≤ v) (v1 : v ≤ 255) :
    Calls Try.prog 62 #[.pointer (some ⟨g, 0, none⟩), .int .i64 1, .int .i64 k, .int .i64 v] w fun e w' => e = .returned (.tuple #[]) ∧ Blk w' g (bkR (Pl.putR r 1 k v)) 55 ∧ Kept g (g + 1) w w' := by
  have HB := hide hB
  have h4 := hide hg.d4
  have hk : k = 0 ∨ k = 1 ∨ k = 2 ∨ k = 3 := by omega
  rcases hk with rfl | rfl | rfl | rfl
  · obtain ⟨x0, x1⟩ := hg.dw 0 (by omega)
    have hb := and_not_255 x0 x1 v0 v1
    have E : Hid (bkR (Pl.putR r 1 0 v) = (bkR r).setIfInBounds 0 (.int .i64 (el r.xs 0 / 256 * 256 + v))) := hide (bkX h4.out (by decide) _)
    obtain ⟨c0, c1, c2, c3, c4, c5, c6, c7, c8, c9, c10, c11, c12, c13⟩ := bkS hB
    clear c1 c2 c3 c4 c5 c6 c7 c8 c9 c10 c11 c12 c13
    have d0 := hB.frozen 0
    clear hB hg
    go_enter Try.func62, Try.ntmps62
    go_wp2_with fail
    go_end0
    exact ⟨rfl, by rw [E.out]; exact HB.out.set _ _, (kept_set (Kept.refl _ _ _) _ _ _ (.inl ⟨by omega, by omega⟩))⟩
  · obtain ⟨x0, x1⟩ := hg.dw 1 (by omega)
    have hb := and_not_255 x0 x1 v0 v1
    have E : Hid (bkR (Pl.putR r 1 1 v) = (bkR r).setIfInBounds 1 (.int .i64 (el r.xs 1 / 256 * 256 + v))) := hide (bkX h4.out (by decide) _)
    obtain ⟨c0, c1, c2, c3, c4, c5, c6, c7, c8, c9, c10, c11, c12, c13⟩ := bkS hB
    clear c0 c2 c3 c4 c5 c6 c7 c8 c9 c10 c11 c12 c13
    have d1 := hB.frozen 1
    clear hB hg
    go_enter Try.func62, Try.ntmps62
    go_wp2_with fail
    go_end0
    exact ⟨rfl, by rw [E.out]; exact HB.out.set _ _, (kept_set (Kept.refl _ _ _) _ _ _ (.inl ⟨by omega, by omega⟩))⟩
  · obtain ⟨x0, x1⟩ := hg.dw 2 (by omega)
    have hb := and_not_255 x0 x1 v0 v1
    have E : Hid (bkR (Pl.putR r 1 2 v) = (bkR r).setIfInBounds 2 (.int .i64 (el r.xs 2 / 256 * 256 + v))) := hide (bkX h4.out (by decide) _)
    obtain ⟨c0, c1, c2, c3, c4, c5, c6, c7, c8, c9, c10, c11, c12, c13⟩ := bkS hB
    clear c0 c1 c3 c4 c5 c6 c7 c8 c9 c10 c11 c12 c13
    have d2 := hB.frozen 2
    clear hB hg
    go_enter Try.func62, Try.ntmps62
    go_wp2_with fail
    go_end0
    exact ⟨rfl, by rw [E.out]; exact HB.out.set _ _, (kept_set (Kept.refl _ _ _) _ _ _ (.inl ⟨by omega, by omega⟩))⟩
  · obtain ⟨x0, x1⟩ := hg.dw 3 (by omega)
    have hb := and_not_255 x0 x1 v0 v1
    have E : Hid (bkR (Pl.putR r 1 3 v) = (bkR r).setIfInBounds 3 (.int .i64 (el r.xs 3 / 256 * 256 + v))) := hide (bkX h4.out (by decide) _)
    obtain ⟨c0, c1, c2, c3, c4, c5, c6, c7, c8, c9, c10, c11, c12, c13⟩ := bkS hB
    clear c0 c1 c2 c4 c5 c6 c7 c8 c9 c10 c11 c12 c13
    have d3 := hB.frozen 3
    clear hB hg
    go_enter Try.func62, Try.ntmps62
    go_wp2_with fail
    go_end0
    exact ⟨rfl, by rw [E.out]; exact HB.out.set _ _, (kept_set (Kept.refl _ _ _) _ _ _ (.inl ⟨by omega, by omega⟩))⟩
set_option maxHeartbeats 1000000 in
theorem putData2 (w : World) (g : Nat) (r : Pl.Rg) (k v : Int) (hB : Blk w g (bkR r) 55) (hg : Pl.Good r) (k0 : 0 ≤ k) (k3 : k ≤ 3) :
    Calls Try.prog 62 #[.pointer (some ⟨g, 0, none⟩), .int .i64 2, .int .i64 k, .int .i64 v] w fun e w' => e = .returned (.tuple #[]) ∧ Blk w' g (bkR (Pl.putR r 2 k v)) 55 ∧ Kept g (g + 1) w w' := by
  have HB := hide hB
  have h4 := hide hg.d4
  have hk : k = 0 ∨ k = 1 ∨ k = 2 ∨ k = 3 := by omega
  rcases hk with rfl | rfl | rfl | rfl
  · have E : Hid (bkR (Pl.putR r 2 0 v) = (bkR r).setIfInBounds 0 (.int .i64 v)) := hide (bkX h4.out (by decide) _)
    obtain ⟨c0, c1, c2, c3, c4, c5, c6, c7, c8, c9, c10, c11, c12, c13⟩ := bkS hB
    clear c1 c2 c3 c4 c5 c6 c7 c8 c9 c10 c11 c12 c13
    have d0 := hB.frozen 0
    clear hB hg
    go_enter Try.func62, Try.ntmps62
    go_wp2_with fail
    go_end0
    exact ⟨rfl, by rw [E.out]; exact HB.out.set _ _, (kept_set (Kept.refl _ _ _) _ _ _ (.inl ⟨by omega, by omega⟩))⟩
  · have E : Hid (bkR (Pl.putR r 2 1 v) = (bkR r).setIfInBounds 1 (.int .i64 v)) := hide (bkX h4.out (by decide) _)
    obtain ⟨c0, c1, c2, c3, c4, c5, c6, c7, c8, c9, c10, c11, c12, c13⟩ := bkS hB
    clear c0 c2 c3 c4 c5 c6 c7 c8 c9 c10 c11 c12 c13
    have d1 := hB.frozen 1
    clear hB hg
    go_enter Try.func62, Try.ntmps62
    go_wp2_with fail
    go_end0
    exact ⟨rfl, by rw [E.out]; exact HB.out.set _ _, (kept_set (Kept.refl _ _ _) _ _ _ (.inl ⟨by omega, by omega⟩))⟩
  · have E : Hid (bkR (Pl.putR r 2 2 v) = (bkR r).setIfInBounds 2 (.int .i64 v)) := hide (bkX h4.out (by decide) _)
    obtain ⟨c0, c1, c2, c3, c4, c5, c6, c7, c8, c9, c10, c11, c12, c13⟩ := bkS hB
    clear c0 c1 c3 c4 c5 c6 c7 c8 c9 c10 c11 c12 c13
    have d2 := hB.frozen 2
    clear hB hg
    go_enter Try.func62, Try.ntmps62
    go_wp2_with fail
    go_end0
    exact ⟨rfl, by rw [E.out]; exact HB.out.set _ _, (kept_set (Kept.refl _ _ _) _ _ _ (.inl ⟨by omega, by omega⟩))⟩
  · have E : Hid (bkR (Pl.putR r 2 3 v) = (bkR r).setIfInBounds 3 (.int .i64 v)) := hide (bkX h4.out (by decide) _)
    obtain ⟨c0, c1, c2, c3, c4, c5, c6, c7, c8, c9, c10, c11, c12, c13⟩ := bkS hB
    clear c0 c1 c2 c4 c5 c6 c7 c8 c9 c10 c11 c12 c13
    have d3 := hB.frozen 3
    clear hB hg
    go_enter Try.func62, Try.ntmps62
    go_wp2_with fail
    go_end0
    exact ⟨rfl, by rw [E.out]; exact HB.out.set _ _, (kept_set (Kept.refl _ _ _) _ _ _ (.inl ⟨by omega, by omega⟩))⟩
end Go.Proofs.Ytikmelkobbbgnaa
