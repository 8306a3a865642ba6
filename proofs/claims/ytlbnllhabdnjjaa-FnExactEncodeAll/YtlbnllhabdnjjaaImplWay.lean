/- The ways to name an operand, as the program holds them: one type a way; the operand that each comes back as. -/
import Derived.Test.YtlbnllhabdnjjaaImplOpA
namespace Go.Proofs.Ytlbnllhabdnjjaa
open Go.RowKit
set_option linter.unusedVariables false
theorem wayOf0 (k e : Int) (w : World) : Calls Try.prog 61 #[.agg #[.int .i64 0, .int .i64 k, .int .i64 e]] w fun r w' => r = .returned (.iface 79 (.agg #[.int .i64 k])) ∧ Kept 0 0 w w' := by
  go_enter Try.func61, Try.ntmps61
  go_wp2
  go_ret
  exact ⟨rfl, kept_alloc w _⟩
theorem wayOf1 (k e : Int) (w : World) : Calls Try.prog 61 #[.agg #[.int .i64 1, .int .i64 k, .int .i64 e]] w fun r w' => r = .returned (.iface 80 (.agg #[.int .i64 k])) ∧ Kept 0 0 w w' := by
  go_enter Try.func61, Try.ntmps61
  go_wp2
  go_ret
  exact ⟨rfl, kept_alloc w _⟩
theorem wayOf2 (k e : Int) (w : World) : Calls Try.prog 61 #[.agg #[.int .i64 2, .int .i64 k, .int .i64 e]] w fun r w' => r = .returned (.iface 81 (.agg #[.int .i64 k])) ∧ Kept 0 0 w w' := by
  go_enter Try.func61, Try.ntmps61
  go_wp2
  go_ret
  exact ⟨rfl, kept_alloc w _⟩
theorem wayOf3 (k e : Int) (w : World) : Calls Try.prog 61 #[.agg #[.int .i64 3, .int .i64 k, .int .i64 e]] w fun r w' => r = .returned (.iface 82 (.agg #[.int .i64 k])) ∧ Kept 0 0 w w' := by
  go_enter Try.func61, Try.ntmps61
  go_wp2
  go_ret
  exact ⟨rfl, kept_alloc w _⟩
theorem wayOf4 (k e : Int) (w : World) : Calls Try.prog 61 #[.agg #[.int .i64 4, .int .i64 k, .int .i64 e]] w fun r w' => r = .returned (.iface 83 (.agg #[.int .i64 k])) ∧ Kept 0 0 w w' := by
  go_enter Try.func61, Try.ntmps61
  go_wp2
  go_ret
  exact ⟨rfl, kept_alloc w _⟩
theorem wayOf5 (k e : Int) (w : World) : Calls Try.prog 61 #[.agg #[.int .i64 5, .int .i64 k, .int .i64 e]] w fun r w' => r = .returned (.iface 85 (.agg #[.int .i64 k, .int .i64 e])) ∧ Kept 0 0 w w' := by
  go_enter Try.func61, Try.ntmps61
  go_wp2
  go_ret
  exact ⟨rfl, kept_alloc w _⟩
theorem wayOf6 (k e : Int) (w : World) : Calls Try.prog 61 #[.agg #[.int .i64 6, .int .i64 k, .int .i64 e]] w fun r w' => r = .returned (.iface 87 (.agg #[.int .i64 e])) ∧ Kept 0 0 w w' := by
  go_enter Try.func61, Try.ntmps61
  go_wp2
  go_ret
  exact ⟨rfl, kept_alloc w _⟩
theorem wayOf7 (k e : Int) (w : World) : Calls Try.prog 61 #[.agg #[.int .i64 7, .int .i64 k, .int .i64 e]] w fun r w' => r = .returned (.iface 88 (.agg #[.int .i64 e])) ∧ Kept 0 0 w w' := by
  go_enter Try.func61, Try.ntmps61
  go_wp2
  go_ret
  exact ⟨rfl, kept_alloc w _⟩
theorem wayOfNo (m k e : Int) (w : World) (h : Pl.modeOk m = false) : Calls Try.prog 61 #[.agg #[.int .i64 m, .int .i64 k, .int .i64 e]] w fun r w' => r = .returned .nilIface ∧ Kept 0 0 w w' := by
  obtain ⟨n0, n1, n2, n3, n4, n5, n6, n7⟩ : ¬ m = 0 ∧ ¬ m = 1 ∧ ¬ m = 2 ∧ ¬ m = 3 ∧ ¬ m = 4 ∧ ¬ m = 5 ∧ ¬ m = 6 ∧ ¬ m = 7 := by
    simp [Pl.modeOk, Pl.within] at h
    omega
  go_enter Try.func61, Try.ntmps61
  go_wp2
  go_ret
  exact ⟨rfl, kept_alloc w _⟩
theorem operand0 (k e : Int) (w : World) : Calls Try.prog 92 #[.agg #[.int .i64 k]] w fun r w' => r = .returned (.agg #[.int .i64 0, .int .i64 k, .int .i64 0]) ∧ Kept 0 0 w w' := by
  go_enter Try.func92, Try.ntmps92
  go_wp2
  refine bodyPost_ret (v := .agg #[.int .i64 0, .int .i64 k, .int .i64 0]) ?_ rfl ⟨rfl, kept_new (kept_alloc w _) _⟩
  rw [results_one rfl]; go_simp
theorem operand1 (k e : Int) (w : World) : Calls Try.prog 93 #[.agg #[.int .i64 k]] w fun r w' => r = .returned (.agg #[.int .i64 1, .int .i64 k, .int .i64 0]) ∧ Kept 0 0 w w' := by
  go_enter Try.func93, Try.ntmps93
  go_wp2
  refine bodyPost_ret (v := .agg #[.int .i64 1, .int .i64 k, .int .i64 0]) ?_ rfl ⟨rfl, kept_new (kept_alloc w _) _⟩
  rw [results_one rfl]; go_simp
theorem operand2 (k e : Int) (w : World) : Calls Try.prog 94 #[.agg #[.int .i64 k]] w fun r w' => r = .returned (.agg #[.int .i64 2, .int .i64 k, .int .i64 0]) ∧ Kept 0 0 w w' := by
  go_enter Try.func94, Try.ntmps94
  go_wp2
  refine bodyPost_ret (v := .agg #[.int .i64 2, .int .i64 k, .int .i64 0]) ?_ rfl ⟨rfl, kept_new (kept_alloc w _) _⟩
  rw [results_one rfl]; go_simp
theorem operand3 (k e : Int) (w : World) : Calls Try.prog 95 #[.agg #[.int .i64 k]] w fun r w' => r = .returned (.agg #[.int .i64 3, .int .i64 k, .int .i64 0]) ∧ Kept 0 0 w w' := by
  go_enter Try.func95, Try.ntmps95
  go_wp2
  refine bodyPost_ret (v := .agg #[.int .i64 3, .int .i64 k, .int .i64 0]) ?_ rfl ⟨rfl, kept_new (kept_alloc w _) _⟩
  rw [results_one rfl]; go_simp
theorem operand4 (k e : Int) (w : World) : Calls Try.prog 96 #[.agg #[.int .i64 k]] w fun r w' => r = .returned (.agg #[.int .i64 4, .int .i64 k, .int .i64 0]) ∧ Kept 0 0 w w' := by
  go_enter Try.func96, Try.ntmps96
  go_wp2
  refine bodyPost_ret (v := .agg #[.int .i64 4, .int .i64 k, .int .i64 0]) ?_ rfl ⟨rfl, kept_new (kept_alloc w _) _⟩
  rw [results_one rfl]; go_simp
theorem operand5 (k e : Int) (w : World) : Calls Try.prog 97 #[.agg #[.int .i64 k, .int .i64 e]] w fun r w' => r = .returned (.agg #[.int .i64 5, .int .i64 k, .int .i64 e]) ∧ Kept 0 0 w w' := by
  go_enter Try.func97, Try.ntmps97
  go_wp2
  refine bodyPost_ret (v := .agg #[.int .i64 5, .int .i64 k, .int .i64 e]) ?_ rfl ⟨rfl, kept_new (kept_alloc w _) _⟩
  rw [results_one rfl]; go_simp
theorem operand6 (k e : Int) (w : World) : Calls Try.prog 98 #[.agg #[.int .i64 e]] w fun r w' => r = .returned (.agg #[.int .i64 6, .int .i64 0, .int .i64 e]) ∧ Kept 0 0 w w' := by
  go_enter Try.func98, Try.ntmps98
  go_wp2
  refine bodyPost_ret (v := .agg #[.int .i64 6, .int .i64 0, .int .i64 e]) ?_ rfl ⟨rfl, kept_new (kept_alloc w _) _⟩
  rw [results_one rfl]; go_simp
theorem operand7 (k e : Int) (w : World) : Calls Try.prog 99 #[.agg #[.int .i64 e]] w fun r w' => r = .returned (.agg #[.int .i64 7, .int .i64 0, .int .i64 e]) ∧ Kept 0 0 w w' := by
  go_enter Try.func99, Try.ntmps99
  go_wp2
  refine bodyPost_ret (v := .agg #[.int .i64 7, .int .i64 0, .int .i64 e]) ?_ rfl ⟨rfl, kept_new (kept_alloc w _) _⟩
  rw [results_one rfl]; go_simp
theorem fn0 (a : Array Value) (w : World) : (callFunc 92 a).run Try.prog w = .ok (.enter 92 a) w := by kernel_rfl
theorem meth0 (v : Value) (w : World) : (method 209 79 v "loop.example/g00389/impl.operand").run Try.prog w = .ok (92, v) w := by kernel_rfl
theorem fn1 (a : Array Value) (w : World) : (callFunc 93 a).run Try.prog w = .ok (.enter 93 a) w := by kernel_rfl
theorem meth1 (v : Value) (w : World) : (method 209 80 v "loop.example/g00389/impl.operand").run Try.prog w = .ok (93, v) w := by kernel_rfl
theorem fn2 (a : Array Value) (w : World) : (callFunc 94 a).run Try.prog w = .ok (.enter 94 a) w := by kernel_rfl
theorem meth2 (v : Value) (w : World) : (method 209 81 v "loop.example/g00389/impl.operand").run Try.prog w = .ok (94, v) w := by kernel_rfl
theorem fn3 (a : Array Value) (w : World) : (callFunc 95 a).run Try.prog w = .ok (.enter 95 a) w := by kernel_rfl
theorem meth3 (v : Value) (w : World) : (method 209 82 v "loop.example/g00389/impl.operand").run Try.prog w = .ok (95, v) w := by kernel_rfl
theorem fn4 (a : Array Value) (w : World) : (callFunc 96 a).run Try.prog w = .ok (.enter 96 a) w := by kernel_rfl
theorem meth4 (v : Value) (w : World) : (method 209 83 v "loop.example/g00389/impl.operand").run Try.prog w = .ok (96, v) w := by kernel_rfl
theorem fn5 (a : Array Value) (w : World) : (callFunc 97 a).run Try.prog w = .ok (.enter 97 a) w := by kernel_rfl
theorem meth5 (v : Value) (w : World) : (method 209 85 v "loop.example/g00389/impl.operand").run Try.prog w = .ok (97, v) w := by kernel_rfl
theorem fn6 (a : Array Value) (w : World) : (callFunc 98 a).run Try.prog w = .ok (.enter 98 a) w := by kernel_rfl
theorem meth6 (v : Value) (w : World) : (method 209 87 v "loop.example/g00389/impl.operand").run Try.prog w = .ok (98, v) w := by kernel_rfl
theorem fn7 (a : Array Value) (w : World) : (callFunc 99 a).run Try.prog w = .ok (.enter 99 a) w := by kernel_rfl
theorem meth7 (v : Value) (w : World) : (method 209 88 v "loop.example/g00389/impl.operand").run Try.prog w = .ok (99, v) w := by kernel_rfl
end Go.Proofs.Ytlbnllhabdnjjaa
