/- The bits of an instruction's words, in numbers. -/
import Derived.Test.YtlbnllhabdnjjaaDoorGrB
namespace Go.Proofs.YtlbnllhabdnjjaaDoor
open Go.RowKit
set_option linter.unusedVariables false
theorem results_ct2 {fn : Func} {p u1 u2 : Tmp} {ty : TypeId} (h : fn.results = #[.cell p ty, .tmp u1, .tmp u2]) (tmps : Array Value) (P : Program) (w : World) :
    (results fn tmps).run P w = ((asAddr (tmps.getD p undef)).run P w).andThen fun a w₁ => ((loadVar ty a).run P w₁).andThen fun v w₂ => .ok (.tuple #[v, tmps.getD u1 undef, tmps.getD u2 undef]) w₂ := by
  simp only [results, h]
  simp [Sem.run_bind, Result.andThen]
theorem Pl.and7 (a : Int) : bits .and .i64 a 7 = a % 8 := by
  show IntKind.i64.wrap ((BitVec.ofInt 64 a &&& BitVec.ofInt 64 7).toNat : Int) = _
  rw [BitVec.toNat_and, BitVec.toNat_ofInt, show (BitVec.ofInt 64 7).toNat = 2 ^ 3 - 1 from by decide, Nat.and_two_pow_sub_one_eq_mod, IntKind.wrap_i64]
  omega
theorem Pl.and3 (a : Int) : bits .and .i64 a 3 = a % 4 := by
  show IntKind.i64.wrap ((BitVec.ofInt 64 a &&& BitVec.ofInt 64 3).toNat : Int) = _
  rw [BitVec.toNat_and, BitVec.toNat_ofInt, show (BitVec.ofInt 64 3).toNat = 2 ^ 2 - 1 from by decide, Nat.and_two_pow_sub_one_eq_mod, IntKind.wrap_i64]
  omega
/-- the parts of the first word lie side by side -/
theorem orWord {op z r m k s : Int} (a1 : 0 ≤ op) (a2 : op ≤ 31) (c1 : 1 ≤ z) (c2 : z ≤ 2) (a4 : 0 ≤ r) (a5 : r ≤ 3) (a6 : 0 ≤ m) (a7 : m ≤ 7) (a8 : 0 ≤ k) (a9 : k ≤ 3) (b3 : 0 ≤ s) (b4 : s ≤ 7) :
    bits .or .i64 (op * 2048) ((z - 1) * 1024) = op * 2048 + (z - 1) * 1024 ∧
    bits .or .i64 (op * 2048 + (z - 1) * 1024) (r * 256) = op * 2048 + (z - 1) * 1024 + r * 256 ∧
    bits .or .i64 (op * 2048 + (z - 1) * 1024 + r * 256) (m * 32) = op * 2048 + (z - 1) * 1024 + r * 256 + m * 32 ∧
    bits .or .i64 (op * 2048 + (z - 1) * 1024 + r * 256 + m * 32) (k * 8) = op * 2048 + (z - 1) * 1024 + r * 256 + m * 32 + k * 8 ∧
    bits .or .i64 (op * 2048 + (z - 1) * 1024 + r * 256 + m * 32 + k * 8) s = op * 2048 + (z - 1) * 1024 + r * 256 + m * 32 + k * 8 + s := by
  refine ⟨?_, ?_, ?_, ?_, ?_⟩
  · exact bits_join .i64 62 (by decide) Pl.wraps_i64 11 (op * 2048) ((z - 1) * 1024) (by omega) (by omega) (by omega) (by omega) (by omega) (by omega)
  · exact bits_join .i64 62 (by decide) Pl.wraps_i64 10 (op * 2048 + (z - 1) * 1024) (r * 256) (by omega) (by omega) (by omega) (by omega) (by omega) (by omega)
  · exact bits_join .i64 62 (by decide) Pl.wraps_i64 8 (op * 2048 + (z - 1) * 1024 + r * 256) (m * 32) (by omega) (by omega) (by omega) (by omega) (by omega) (by omega)
  · exact bits_join .i64 62 (by decide) Pl.wraps_i64 5 (op * 2048 + (z - 1) * 1024 + r * 256 + m * 32) (k * 8) (by omega) (by omega) (by omega) (by omega) (by omega) (by omega)
  · exact bits_join .i64 62 (by decide) Pl.wraps_i64 3 (op * 2048 + (z - 1) * 1024 + r * 256 + m * 32 + k * 8) s (by omega) (by omega) (by omega) (by omega) (by omega) (by omega)
end Go.Proofs.YtlbnllhabdnjjaaDoor
