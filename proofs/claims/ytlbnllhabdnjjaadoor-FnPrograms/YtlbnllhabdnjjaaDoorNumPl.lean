/- Numbers as texts, in bytes; no Go text is spoken of here but the conversion of one byte. -/
import Derived.Test.YtlbnllhabdnjjaaDoorGrB
import Derived.Laws.IdiomStrings
import Derived.Laws.Concat
namespace Go.Proofs.YtlbnllhabdnjjaaDoor
open Go.RowKit
set_option linter.unusedVariables false
/-- a digit's byte -/
def dig (n : Nat) : UInt8 := UInt8.ofNat (48 + n)
/-- the digits of a number -/
def Pl.num (n : Nat) : List UInt8 := if h : n < 10 then [dig n] else Pl.num (n / 10) ++ [dig (n % 10)]
termination_by n
decreasing_by omega
theorem Pl.num_lt {n : Nat} (h : n < 10) : Pl.num n = [dig n] := by rw [Pl.num, dif_pos h]
theorem Pl.num_ge {n : Nat} (h : ¬ n < 10) : Pl.num n = Pl.num (n / 10) ++ [dig (n % 10)] := by rw [Pl.num, dif_neg h]
/-- a string of these bytes -/
def str (l : List UInt8) : Value := .string ⟨l.toArray⟩
theorem ofNat_back {n : Nat} (h : n < 10) : ((dig n).toNat : Int) = 48 + (n : Int) := by
  unfold dig
  have : (UInt8.ofNat (48 + n)).toNat = 48 + n := by simp; omega
  omega
theorem byteStr (W : World) (g : Nat) (n : Nat) (hn : n < 10) (h : Blk W g #[.int .u8 (48 + (n : Int))] 5) : (convert 22 9 (.slice (some ⟨g, 0, none⟩) 1 1)).run Tryd.prog W = .ok (str [dig n]) W := by
  refine run_convert_bytes_back (P := Tryd.prog) W 22 9 5 ⟨g, 0, none⟩ 1 [dig n] Tryd.underlying22 Tryd.underlying5 Tryd.underlying9 ?_
  intro j hj
  obtain rfl : j = 0 := by simp at hj; omega
  show W.cell? ⟨g, 0, none⟩ = some (.int .u8 ((dig n).toNat : Int))
  rw [ofNat_back hn]
  exact h.cell (i := 0) rfl
theorem addStr (W : World) (x y : List UInt8) (h : x.length + y.length ≤ 1000000) : (Op.stringOp .add ⟨x.toArray⟩ ⟨y.toArray⟩).run Tryd.prog W = .ok (str (x ++ y)) W :=
  run_string_add_lists W x y (by omega) (by omega)
theorem Pl.num_len {n : Nat} (k : Nat) (h : n < 10 ^ (k + 1)) : (Pl.num n).length ≤ k + 1 := by
  induction k generalizing n with
  | zero => rw [Pl.num_lt (by omega)]; simp
  | succ k ih =>
    by_cases h1 : n < 10
    · rw [Pl.num_lt h1]; simp
    · rw [Pl.num_ge h1, List.length_append]
      have := ih (n := n / 10) (by rw [Nat.div_lt_iff_lt_mul (by decide)]; rw [Nat.pow_succ] at h; exact h)
      simp; omega
/-- an instruction's text -/
def Pl.text (x : Pl.In) : List UInt8 := (((((((((((([111, 112] ++ Pl.num x.op.toNat) ++ [46]) ++ Pl.num x.z.toNat) ++ [32, 114]) ++ Pl.num x.r.toNat) ++ [32, 109]) ++ Pl.num x.m.toNat) ++ [58]) ++ Pl.num x.k.toNat) ++ [32, 120]) ++ Pl.num x.e.toNat) ++ [32, 115]) ++ Pl.num x.s.toNat
def Pl.txt (x : Pl.In) : List UInt8 := if Pl.inOk x = true then Pl.text x else []
theorem Pl.num5 {v : Int} (h0 : 0 ≤ v) (h1 : v ≤ 65535) : (Pl.num v.toNat).length ≤ 5 := Pl.num_len 4 (by omega)
end Go.Proofs.YtlbnllhabdnjjaaDoor
