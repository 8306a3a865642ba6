/- How many bits are 1, and the bits the other way round: what the program's two functions answer, by the library's two tables. -/
import Derived.Test.YtjgcadighogmkaaRows5
import Derived.Test.YtjgcadighogmkaaOnes
import Derived.Lib.BitFns
import Derived.Lib.EndianBits
import Derived.Deep.QuietTactic
import Derived.BigQuiet
namespace Go.Proofs.Ytjgcadighogmkaa
open Go.RowKit
set_option linter.unusedVariables false
theorem rU {a b : Int} (h : a = b) : Ending.returned (.int .u16 a) = .returned (.int .u16 b) := by rw [h]
theorem Pl.and255w (a : Int) (h0 : 0 ≤ a) (h1 : a < 65536) : bits .and .u16 a 255 = a % 256 := by
  show IntKind.u16.wrap ((BitVec.ofInt 16 a &&& BitVec.ofInt 16 255).toNat : Int) = _
  rw [BitVec.toNat_and, BitVec.toNat_ofInt, show (BitVec.ofInt 16 255).toNat = 2 ^ 8 - 1 from by decide, Nat.and_two_pow_sub_one_eq_mod, IntKind.wrap_u16]
  omega
theorem Pl.pop_cut {v : Int} : Pl.pop 16 v = Pl.pop 8 (v % 256) + Pl.pop 8 (v / 256) := by
  simp only [Pl.pop, Int.add_zero]
  have e1 : v % 256 % 2 = v % 2 := by omega
  have e2 : v % 256 / 2 % 2 = v / 2 % 2 := by omega
  have e3 : v % 256 / 2 / 2 % 2 = v / 2 / 2 % 2 := by omega
  have e4 : v % 256 / 2 / 2 / 2 % 2 = v / 2 / 2 / 2 % 2 := by omega
  have e5 : v % 256 / 2 / 2 / 2 / 2 % 2 = v / 2 / 2 / 2 / 2 % 2 := by omega
  have e6 : v % 256 / 2 / 2 / 2 / 2 / 2 % 2 = v / 2 / 2 / 2 / 2 / 2 % 2 := by omega
  have e7 : v % 256 / 2 / 2 / 2 / 2 / 2 / 2 % 2 = v / 2 / 2 / 2 / 2 / 2 / 2 % 2 := by omega
  have e8 : v % 256 / 2 / 2 / 2 / 2 / 2 / 2 / 2 % 2 = v / 2 / 2 / 2 / 2 / 2 / 2 / 2 % 2 := by omega
  have e9 : v / 2 / 2 / 2 / 2 / 2 / 2 / 2 / 2 = v / 256 := by omega
  rw [e1, e2, e3, e4, e5, e6, e7, e8, e9]
  simp only [Int.add_assoc]
theorem Pl.rv_cut : ∀ (m n : Nat) (v : Int), Pl.rv (m + n) v = Pl.rv m v * 2 ^ n + Pl.rv n (v / 2 ^ m)
  | m, 0, v => by simp [Pl.rv]
  | m, n + 1, v => by
    rw [← Nat.add_assoc, Pl.rv, Pl.rv_cut m n v, Pl.rv, Int.pow_succ, Int.add_mul, Int.mul_assoc]
    rw [show v / 2 ^ m / 2 ^ n = v / 2 ^ (m + n) from by rw [Int.ediv_ediv_of_nonneg (Int.le_of_lt (Pl.pow_pos m)), Int.pow_add], Int.add_assoc]
theorem Pl.rv_low (v : Int) : Pl.rv 8 (v % 256) = Pl.rv 8 v := by
  simp only [Pl.rv, Int.reducePow]
  omega
theorem Pl.rv_word (v : Int) : Pl.rv 16 v = Pl.rv 8 (v % 256) * 256 + Pl.rv 8 (v / 256) := by
  rw [Pl.rv_low]; exact Pl.rv_cut 8 8 v
theorem Pl.pop_tab {i : Int} (h0 : 0 ≤ i) (h1 : i ≤ 255) : Lib.pop8 i = Pl.pop 8 i := by
  have k : ∀ m : Fin 256, Lib.pop8 ((m.val : Nat) : Int) = Pl.pop 8 ((m.val : Nat) : Int) := by decide +kernel
  obtain ⟨n, rfl⟩ := Int.eq_ofNat_of_zero_le h0
  exact k ⟨n, by omega⟩
theorem Pl.rev_tab {i : Int} (h0 : 0 ≤ i) (h1 : i ≤ 255) : Lib.rev8 i = Pl.rv 8 i := by
  have k : ∀ m : Fin 256, Lib.rev8 ((m.val : Nat) : Int) = Pl.rv 8 ((m.val : Nat) : Int) := by decide +kernel
  obtain ⟨n, rfl⟩ := Int.eq_ofNat_of_zero_le h0
  exact k ⟨n, by omega⟩
theorem Pl.wraps_u16 (n : Int) (h0 : 0 ≤ n) (h1 : n < 2 ^ 16) : IntKind.u16.wrap n = n := by rw [IntKind.wrap_u16]; omega
set_option maxRecDepth 100000 in
theorem onesTab : (⟨(([0, 1, 1, 2, 1, 2, 2, 3, 1, 2, 2, 3, 2, 3, 3, 4, 1, 2, 2, 3, 2, 3, 3, 4, 2, 3, 3, 4, 3, 4, 4, 5, 1, 2, 2, 3, 2, 3, 3, 4, 2, 3, 3, 4, 3, 4, 4, 5, 2, 3, 3, 4, 3, 4, 4, 5, 3, 4, 4, 5, 4, 5, 5, 6].append [1, 2, 2, 3, 2, 3, 3, 4, 2, 3, 3, 4, 3, 4, 4, 5, 2, 3, 3, 4, 3, 4, 4, 5, 3, 4, 4, 5, 4, 5, 5, 6, 2, 3, 3, 4, 3, 4, 4, 5, 3, 4, 4, 5, 4, 5, 5, 6, 3, 4, 4, 5, 4, 5, 5, 6, 4, 5, 5, 6, 5, 6, 6, 7]).append ([1, 2, 2, 3, 2, 3, 3, 4, 2, 3, 3, 4, 3, 4, 4, 5, 2, 3, 3, 4, 3, 4, 4, 5, 3, 4, 4, 5, 4, 5, 5, 6, 2, 3, 3, 4, 3, 4, 4, 5, 3, 4, 4, 5, 4, 5, 5, 6, 3, 4, 4, 5, 4, 5, 5, 6, 4, 5, 5, 6, 5, 6, 6, 7].append [2, 3, 3, 4, 3, 4, 4, 5, 3, 4, 4, 5, 4, 5, 5, 6, 3, 4, 4, 5, 4, 5, 5, 6, 4, 5, 5, 6, 5, 6, 6, 7, 3, 4, 4, 5, 4, 5, 5, 6, 4, 5, 5, 6, 5, 6, 6, 7, 4, 5, 5, 6, 5, 6, 6, 7, 5, 6, 6, 7, 6, 7, 7, 8])).toArray⟩ : ByteArray) = Lib.pop8tab := by decide +kernel
set_option maxRecDepth 100000 in
theorem turnTab : (⟨(([0, 128, 64, 192, 32, 160, 96, 224, 16, 144, 80, 208, 48, 176, 112, 240, 8, 136, 72, 200, 40, 168, 104, 232, 24, 152, 88, 216, 56, 184, 120, 248, 4, 132, 68, 196, 36, 164, 100, 228, 20, 148, 84, 212, 52, 180, 116, 244, 12, 140, 76, 204, 44, 172, 108, 236, 28, 156, 92, 220, 60, 188, 124, 252].append [2, 130, 66, 194, 34, 162, 98, 226, 18, 146, 82, 210, 50, 178, 114, 242, 10, 138, 74, 202, 42, 170, 106, 234, 26, 154, 90, 218, 58, 186, 122, 250, 6, 134, 70, 198, 38, 166, 102, 230, 22, 150, 86, 214, 54, 182, 118, 246, 14, 142, 78, 206, 46, 174, 110, 238, 30, 158, 94, 222, 62, 190, 126, 254]).append ([1, 129, 65, 193, 33, 161, 97, 225, 17, 145, 81, 209, 49, 177, 113, 241, 9, 137, 73, 201, 41, 169, 105, 233, 25, 153, 89, 217, 57, 185, 121, 249, 5, 133, 69, 197, 37, 165, 101, 229, 21, 149, 85, 213, 53, 181, 117, 245, 13, 141, 77, 205, 45, 173, 109, 237, 29, 157, 93, 221, 61, 189, 125, 253].append [3, 131, 67, 195, 35, 163, 99, 227, 19, 147, 83, 211, 51, 179, 115, 243, 11, 139, 75, 203, 43, 171, 107, 235, 27, 155, 91, 219, 59, 187, 123, 251, 7, 135, 71, 199, 39, 167, 103, 231, 23, 151, 87, 215, 55, 183, 119, 247, 15, 143, 79, 207, 47, 175, 111, 239, 31, 159, 95, 223, 63, 191, 127, 255])).toArray⟩ : ByteArray) = Lib.rev8tab := by decide +kernel
set_option maxRecDepth 100000 in
theorem onesCount16 (v : Int) (w : World) (h0 : 0 ≤ v) (h1 : v < 65536) :
    Calls Try.prog 57 #[.int .u16 v] w fun e w' => e = .returned (.int .i64 (Pl.pop 16 v)) ∧ ∃ n, w' = w.drewN n := by
  have hA := Pl.and255w v h0 h1
  have b0 : 0 ≤ v / 256 := by omega
  have b1 : v / 256 ≤ 255 := by omega
  have b2 : 0 ≤ v % 256 := by omega
  have b3 : v % 256 ≤ 255 := by omega
  go_enter Try.func57, Try.ntmps57
  simp only [onesTab]
  go_wp2
  go_quiet (fail)
  go_wp2
  go_ret
  refine ⟨rI ?_, _, rfl⟩
  show (Lib.pop8 (v / 256) + Lib.pop8 (v % 256)) % 256 = _
  rw [Pl.pop_tab b0 b1, Pl.pop_tab b2 b3, Pl.pop_cut]
  have := Pl.pop_bd 8 (v / 256)
  have := Pl.pop_bd 8 (v % 256)
  omega
theorem countOnes (s v : Int) (w : World) (hv : W64 v) :
    Calls Try.prog 27 #[.int .i64 s, .int .i64 v] w fun e w' => e = .returned (.tuple #[.int .i64 (Pl.onesV s v), .bool (Pl.okv s v)]) ∧ ∃ n, w' = w.drewN n := by
  cases h1 : Pl.okv s v
  · have K : Hid (Pl.onesV s v = 0) := hide (by simp [Pl.onesV, h1])
    go_enter Try.func27, Try.ntmps27
    go_wp2_with fail
    refine (signedOf _ _ _ hv.1 hv.2).mono ?_
    rintro e w' ⟨rfl, rfl⟩
    go_wp2_with fail
    go_ret2
    exact ⟨rIB K.out.symm rfl, 0, rfl⟩
  · have K : Hid (Pl.onesV s v = Pl.pop 16 v) := hide (by simp [Pl.onesV, h1])
    have hb : 0 ≤ v ∧ v < 65536 := by have := Pl.top_ok h1; omega
    obtain ⟨v0, v1⟩ := hb
    have hw : IntKind.u16.wrap v = v := Pl.wraps_u16 v v0 v1
    go_enter Try.func27, Try.ntmps27
    go_wp2_with fail
    refine (signedOf _ _ _ hv.1 hv.2).mono ?_
    rintro e w' ⟨rfl, rfl⟩
    go_wp2_with fail
    refine (onesCount16 v _ v0 v1).mono ?_
    rintro e w' ⟨rfl, n, rfl⟩
    go_wp2_with fail
    go_ret2
    exact ⟨rIB K.out.symm rfl, n, rfl⟩
end Go.Proofs.Ytjgcadighogmkaa
