/- What the models of chapter 3's shifts answer for every argument: one contract a function; none changes the world. -/
import Derived.Test.YtjgcadighogmkaaSpecOnce
namespace Go.Proofs.Ytjgcadighogmkaa
open Go.RowKit
set_option linter.unusedVariables false

theorem rBB {a b c d : Bool} (h : a = b) (k : c = d) : Ending.returned (.tuple #[.bool a, .bool c]) = .returned (.tuple #[.bool b, .bool d]) := by rw [h, k]
theorem Pl.parts_and2 {c x : Int} {o z n : Bool} (hc : c = 0 ∨ c = 1) (hx : x = 0 ∨ x = 1) : bits .and .i64 (c + Pl.fl o 2 + (Pl.fl z 4 + Pl.fl n 8) + 16 * x) 2 = Pl.fl o 2 := by
  rcases hc with rfl | rfl <;> rcases hx with rfl | rfl <;> cases o <;> cases z <;> cases n <;> decide
theorem Pl.parts_or2 {c x : Int} {o z n q : Bool} (hc : c = 0 ∨ c = 1) (hx : x = 0 ∨ x = 1) (hq : o = true → q = true) : bits .or .i64 (c + Pl.fl o 2 + (Pl.fl z 4 + Pl.fl n 8) + 16 * x) (Pl.fl q 2) = c + Pl.fl q 2 + (Pl.fl z 4 + Pl.fl n 8) + 16 * x := by
  rcases hc with rfl | rfl <;> rcases hx with rfl | rfl <;> cases o <;> cases z <;> cases n <;> cases q <;> first | decide | (exact absurd (hq rfl) (by decide))
theorem Pl.onF_and2 {k s : Int} {p : Int × Int} (h : Pl.Fit s p) : bits .and .i64 (Pl.onF k s p.2 p.1) 2 = Pl.fl (Pl.vfl k s p.2 p.1) 2 := by
  have f := Pl.fell_bd k s p.1
  have x := Pl.nx_bd k s p.2 p.1 h.2.2.2.1 h.2.2.2.2
  unfold Pl.onF Pl.zn
  exact Pl.parts_and2 (by omega) (by omega)
theorem Pl.onF_or2 {k s : Int} {p : Int × Int} (h : Pl.Fit s p) {q : Bool} (hq : Pl.vfl k s p.2 p.1 = true → q = true) :
    bits .or .i64 (Pl.onF k s p.2 p.1) (Pl.fl q 2) = Pl.fell k s p.1 + Pl.fl q 2 + Pl.zn s (Pl.nv k s p.2 p.1) + 16 * Pl.nx k s p.2 p.1 := by
  have f := Pl.fell_bd k s p.1
  have x := Pl.nx_bd k s p.2 p.1 h.2.2.2.1 h.2.2.2.2
  unfold Pl.onF Pl.zn
  exact Pl.parts_or2 (by omega) (by omega) hq
theorem Pl.fl_join2 (a b : Bool) : bits .or .i64 (Pl.fl a 2) (Pl.fl b 2) = Pl.fl (a || b) 2 := by cases a <;> cases b <;> decide
theorem Pl.none_or {x : Int} {z n q : Bool} (hx : x = 0 ∨ x = 1) : bits .or .i64 (bits .or .i64 (x * 16) (bits .or .i64 (Pl.fl z 4) (Pl.fl n 8))) (Pl.fl q 1) = Pl.fl q 1 + (Pl.fl z 4 + Pl.fl n 8) + 16 * x := by
  rcases hx with rfl | rfl <;> cases z <;> cases n <;> cases q <;> decide

/-- the flags behind m places -/
def Pl.run (k s f v : Int) : Nat → Int
  | 0 => f
  | m + 1 => Pl.onF k s (Pl.st k s (v, f / 16) m).2 (Pl.st k s (v, f / 16) m).1
theorem Pl.run_ok {k s f v : Int} (f0 : 0 ≤ f) (f1 : f ≤ 31) (h : Pl.Fit s (v, f / 16)) (m : Nat) : 0 ≤ Pl.run k s f v m ∧ Pl.run k s f v m ≤ 31 ∧ Pl.run k s f v m / 16 = (Pl.st k s (v, f / 16) m).2 := by
  cases m with
  | zero => exact ⟨f0, f1, rfl⟩
  | succ m => exact Pl.onF_bd (Pl.st_fit h m)

theorem Pl.run_or {k s f v : Int} (h : Pl.Fit s (v, f / 16)) {n : Nat} (n0 : 0 < n) : bits .or .i64 (Pl.run k s f v n) (Pl.fl (Pl.ov k s (v, f / 16) n) 2) = Pl.byF k s (v, f / 16) n := by
  cases n with
  | zero => omega
  | succ m => exact Pl.onF_or2 (Pl.st_fit h m) (fun hv => by simp [Pl.ov, hv])

end Go.Proofs.Ytjgcadighogmkaa
