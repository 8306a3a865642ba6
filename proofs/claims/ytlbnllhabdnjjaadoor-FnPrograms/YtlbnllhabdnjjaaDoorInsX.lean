/- The program's and the model's answers about an instruction that was drawn, as said of the instruction as one. -/
import Derived.Test.YtlbnllhabdnjjaaDoorDrawIns2
import Derived.Test.YtlbnllhabdnjjaaDoorInsBack
import Derived.Test.YtlbnllhabdnjjaaDoorSpecIns4
import Derived.Test.YtlbnllhabdnjjaaDoorImplText
import Derived.Test.YtlbnllhabdnjjaaDoorImplInsI
import Derived.Test.YtlbnllhabdnjjaaDoorGrA
namespace Go.Proofs.YtlbnllhabdnjjaaDoor
open Go.RowKit
set_option linter.unusedVariables false
theorem wfS {n : Int} (h0 : -1 ≤ n) (h1 : n ≤ 65536) : (Lit.int .i64 n).wf = true := by
  have e1 : IntKind.i64.min = -9223372036854775808 := rfl
  have e2 : IntKind.i64.max = 9223372036854775807 := rfl
  simp [Lit.wf]
  omega
abbrev vIns (X : Pl.In) : Value := .agg #[.int .i64 X.op, .int .i64 X.z, .int .i64 X.r, .int .i64 X.m, .int .i64 X.k, .int .i64 X.e, .int .i64 X.s]
theorem implGoodX (w : World) (X : Pl.In) (sx : SmallI X) : Calls Tryd.prog 20 #[.agg #[.int .i64 X.op, .int .i64 X.z, .int .i64 X.r, .int .i64 X.m, .int .i64 X.k, .int .i64 X.e, .int .i64 X.s]] w fun r' w' => r' = .returned (.bool (Pl.inOk X)) ∧ Kept 0 0 w w' := by
  obtain ⟨a0, a1, b0, b1, c0, c1, d0, d1, e0, e1, f0, f1, g0, g1⟩ := sx
  exact implGoodIns w X.op X.z X.r X.m X.k X.e X.s (wfS (by omega) (by omega)) (wfS (by omega) (by omega)) (wfS (by omega) (by omega)) (wfS (by omega) (by omega)) (wfS (by omega) (by omega)) (wfS (by omega) (by omega)) (wfS (by omega) (by omega))
theorem implPrivX (w : World) (X : Pl.In) (sx : SmallI X) : Calls Tryd.prog 16 #[.agg #[.int .i64 X.op, .int .i64 X.z, .int .i64 X.r, .int .i64 X.m, .int .i64 X.k, .int .i64 X.e, .int .i64 X.s]] w fun e' w' => e' = .returned (.tuple #[.bool (Pl.inOk X && Pl.priv X), .bool (Pl.inOk X)]) ∧ Kept 0 0 w w' := by
  obtain ⟨a0, a1, b0, b1, c0, c1, d0, d1, e0, e1, f0, f1, g0, g1⟩ := sx
  exact implIsPriv w X.op X.z X.r X.m X.k X.e X.s (wfS (by omega) (by omega)) (wfS (by omega) (by omega)) (wfS (by omega) (by omega)) (wfS (by omega) (by omega)) (wfS (by omega) (by omega)) (wfS (by omega) (by omega)) (wfS (by omega) (by omega))
theorem implTextX (w : World) (X : Pl.In) (sx : SmallI X) (ht : TabP w) : Calls Tryd.prog 14 #[.agg #[.int .i64 X.op, .int .i64 X.z, .int .i64 X.r, .int .i64 X.m, .int .i64 X.k, .int .i64 X.e, .int .i64 X.s]] w fun e' w' => e' = .returned (.tuple #[str (Pl.txt X), .bool (Pl.inOk X)]) ∧ Kept 0 0 w w' := by
  obtain ⟨a0, a1, b0, b1, c0, c1, d0, d1, e0, e1, f0, f1, g0, g1⟩ := sx
  exact implTextOf w X.op X.z X.r X.m X.k X.e X.s (wfS (by omega) (by omega)) (wfS (by omega) (by omega)) (wfS (by omega) (by omega)) (wfS (by omega) (by omega)) (wfS (by omega) (by omega)) (wfS (by omega) (by omega)) (wfS (by omega) (by omega)) ht
theorem enc_le (x : Pl.In) : (Pl.enc x).length ≤ 2 := by
  unfold Pl.enc
  split
  · exact Pl.encode_len x
  · simp
theorem belowK {w w1 w2 : World} (h : Below w.heap.size w w1) (k : Kept 0 0 w1 w2) : Below w.heap.size w w2 := below_kept h k (by omega)
theorem belowG {w w1 w2 : World} (h : Below w.heap.size w w1) (k : w1.grownBy w2 none) : Below w.heap.size w w2 :=
  ⟨k.os.trans h.os, k.tape.trans h.tape, k.output.trans h.output, Nat.le_trans h.size k.size, fun j hj => (k.block j (Nat.lt_of_lt_of_le hj h.size) (by simp)).trans (h.block j hj)⟩
end Go.Proofs.YtlbnllhabdnjjaaDoor
