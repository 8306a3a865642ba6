/- The ways to name an operand, as the program holds them: one type a way; the operand that each comes back as. -/
import Derived.Test.YtlbnllhabdnjjaaDoorImplOpA
namespace Go.Proofs.YtlbnllhabdnjjaaDoor
open Go.RowKit
set_option linter.unusedVariables false
theorem wayOf0 (k e : Int) (w : World) : Calls Tryd.prog 61 #[.agg #[.int .i64 0, .int .i64 k, .int .i64 e]] w fun r w' => r = .returned (.iface 83 (.agg #[.int .i64 k])) ∧ Kept 0 0 w w' := by
  go_enter Tryd.func61, Tryd.ntmps61
  go_wp2
  go_ret
  exact ⟨rfl, kept_alloc w _⟩
theorem wayOf1 (k e : Int) (w : World) : Calls Tryd.prog 61 #[.agg #[.int .i64 1, .int .i64 k, .int .i64 e]] w fun r w' => r = .returned (.iface 84 (.agg #[.int .i64 k])) ∧ Kept 0 0 w w' := by
  go_enter Tryd.func61, Tryd.ntmps61
  go_wp2
  go_ret
  exact ⟨rfl, kept_alloc w _⟩
theorem wayOf2 (k e : Int) (w : World) : Calls Tryd.prog 61 #[.agg #[.int .i64 2, .int .i64 k, .int .i64 e]] w fun r w' => r = .returned (.iface 85 (.agg #[.int .i64 k])) ∧ Kept 0 0 w w' := by
  go_enter Tryd.func61, Tryd.ntmps61
  go_wp2
  go_ret
  exact ⟨rfl, kept_alloc w _⟩
theorem wayOf3 (k e : Int) (w : World) : Calls Tryd.prog 61 #[.agg #[.int .i64 3, .int .i64 k, .int .i64 e]] w fun r w' => r = .returned (.iface 86 (.agg #[.int .i64 k])) ∧ Kept 0 0 w w' := by
  go_enter Tryd.func61, Tryd.ntmps61
  go_wp2
  go_ret
  exact ⟨rfl, kept_alloc w _⟩
theorem wayOf4 (k e : Int) (w : World) : Calls Tryd.prog 61 #[.agg #[.int .i64 4, .int .i64 k, .int .i64 e]] w fun r w' => r = .returned (.iface 87 (.agg #[.int .i64 k])) ∧ Kept 0 0 w w' := by
  go_enter Tryd.func61, Tryd.ntmps61
  go_wp2
  go_ret
  exact ⟨rfl, kept_alloc w _⟩
theorem wayOf5 (k e : Int) (w : World) : Calls Tryd.prog 61 #[.agg #[.int .i64 5, .int .i64 k, .int .i64 e]] w fun r w' => r = .returned (.iface 89 (.agg #[.int .i64 k, .int .i64 e])) ∧ Kept 0 0 w w' := by
  go_enter Tryd.func61, Tryd.ntmps61
  go_wp2
  go_ret
  exact ⟨rfl, kept_alloc w _⟩
theorem wayOf6 (k e : Int) (w : World) : Calls Tryd.prog 61 #[.agg #[.int .i64 6, .int .i64 k, .int .i64 e]] w fun r w' => r = .returned (.iface 91 (.agg #[.int .i64 e])) ∧ Kept 0 0 w w' := by
  go_enter Tryd.func61, Tryd.ntmps61
  go_wp2
  go_ret
  exact ⟨rfl, kept_alloc w _⟩
theorem wayOf7 (k e : Int) (w : World) : Calls Tryd.prog 61 #[.agg #[.int .i64 7, .int .i64 k, .int .i64 e]] w fun r w' => r = .returned (.iface 92 (.agg #[.int .i64 e])) ∧ Kept 0 0 w w' := by
  go_enter Tryd.func61, Tryd.ntmps61
  go_wp2
  go_ret
  exact ⟨rfl, kept_alloc w _⟩
theorem wayOfNo (m k e : Int) (w : World) (h : Pl.modeOk m = false) : Calls Tryd.prog 61 #[.agg #[.int .i64 m, .int .i64 k, .int .i64 e]] w fun r w' => r = .returned .nilIface ∧ Kept 0 0 w w' := by
  obtain ⟨n0, n1, n2, n3, n4, n5, n6, n7⟩ : ¬ m = 0 ∧ ¬ m = 1 ∧ ¬ m = 2 ∧ ¬ m = 3 ∧ ¬ m = 4 ∧ ¬ m = 5 ∧ ¬ m = 6 ∧ ¬ m = 7 := by
    simp [Pl.modeOk, Pl.within] at h
    omega
  go_enter Tryd.func61, Tryd.ntmps61
  go_wp2
  go_ret
  exact ⟨rfl, kept_alloc w _⟩
theorem operand0 (k e : Int) (w : World) : Calls Tryd.prog 106 #[.agg #[.int .i64 k]] w fun r w' => r = .returned (.agg #[.int .i64 0, .int .i64 k, .int .i64 0]) ∧ Kept 0 0 w w' := by
  go_enter Tryd.func106, Tryd.ntmps106
  go_wp2
  refine bodyPost_ret (v := .agg #[.int .i64 0, .int .i64 k, .int .i64 0]) ?_ rfl ⟨rfl, kept_new (kept_alloc w _) _⟩
  rw [results_one rfl]; go_simp
theorem operand1 (k e : Int) (w : World) : Calls Tryd.prog 107 #[.agg #[.int .i64 k]] w fun r w' => r = .returned (.agg #[.int .i64 1, .int .i64 k, .int .i64 0]) ∧ Kept 0 0 w w' := by
  go_enter Tryd.func107, Tryd.ntmps107
  go_wp2
  refine bodyPost_ret (v := .agg #[.int .i64 1, .int .i64 k, .int .i64 0]) ?_ rfl ⟨rfl, kept_new (kept_alloc w _) _⟩
  rw [results_one rfl]; go_simp
theorem operand2 (k e : Int) (w : World) : Calls Tryd.prog 108 #[.agg #[.int .i64 k]] w fun r w' => r = .returned (.agg #[.int .i64 2, .int .i64 k, .int .i64 0]) ∧ Kept 0 0 w w' := by
  go_enter Tryd.func108, Tryd.ntmps108
  go_wp2
  refine bodyPost_ret (v := .agg #[.int .i64 2, .int .i64 k, .int .i64 0]) ?_ rfl ⟨rfl, kept_new (kept_alloc w _) _⟩
  rw [results_one rfl]; go_simp
theorem operand3 (k e : Int) (w : World) : Calls Tryd.prog 109 #[.agg #[.int .i64 k]] w fun r w' => r = .returned (.agg #[.int .i64 3, .int .i64 k, .int .i64 0]) ∧ Kept 0 0 w w' := by
  go_enter Tryd.func109, Tryd.ntmps109
  go_wp2
  refine bodyPost_ret (v := .agg #[.int .i64 3, .int .i64 k, .int .i64 0]) ?_ rfl ⟨rfl, kept_new (kept_alloc w _) _⟩
  rw [results_one rfl]; go_simp
theorem operand4 (k e : Int) (w : World) : Calls Tryd.prog 110 #[.agg #[.int .i64 k]] w fun r w' => r = .returned (.agg #[.int .i64 4, .int .i64 k, .int .i64 0]) ∧ Kept 0 0 w w' := by
  go_enter Tryd.func110, Tryd.ntmps110
  go_wp2
  refine bodyPost_ret (v := .agg #[.int .i64 4, .int .i64 k, .int .i64 0]) ?_ rfl ⟨rfl, kept_new (kept_alloc w _) _⟩
  rw [results_one rfl]; go_simp
theorem operand5 (k e : Int) (w : World) : Calls Tryd.prog 111 #[.agg #[.int .i64 k, .int .i64 e]] w fun r w' => r = .returned (.agg #[.int .i64 5, .int .i64 k, .int .i64 e]) ∧ Kept 0 0 w w' := by
  go_enter Tryd.func111, Tryd.ntmps111
  go_wp2
  refine bodyPost_ret (v := .agg #[.int .i64 5, .int .i64 k, .int .i64 e]) ?_ rfl ⟨rfl, kept_new (kept_alloc w _) _⟩
  rw [results_one rfl]; go_simp
theorem operand6 (k e : Int) (w : World) : Calls Tryd.prog 112 #[.agg #[.int .i64 e]] w fun r w' => r = .returned (.agg #[.int .i64 6, .int .i64 0, .int .i64 e]) ∧ Kept 0 0 w w' := by
  go_enter Tryd.func112, Tryd.ntmps112
  go_wp2
  refine bodyPost_ret (v := .agg #[.int .i64 6, .int .i64 0, .int .i64 e]) ?_ rfl ⟨rfl, kept_new (kept_alloc w _) _⟩
  rw [results_one rfl]; go_simp
theorem operand7 (k e : Int) (w : World) : Calls Tryd.prog 113 #[.agg #[.int .i64 e]] w fun r w' => r = .returned (.agg #[.int .i64 7, .int .i64 0, .int .i64 e]) ∧ Kept 0 0 w w' := by
  go_enter Tryd.func113, Tryd.ntmps113
  go_wp2
  refine bodyPost_ret (v := .agg #[.int .i64 7, .int .i64 0, .int .i64 e]) ?_ rfl ⟨rfl, kept_new (kept_alloc w _) _⟩
  rw [results_one rfl]; go_simp
theorem fn0 (a : Array Value) (w : World) : (callFunc 106 a).run Tryd.prog w = .ok (.enter 106 a) w := by kernel_rfl
theorem meth0 (v : Value) (w : World) : (method 226 83 v "loop.example/g00389/impl.operand").run Tryd.prog w = .ok (106, v) w := by kernel_rfl
theorem fn1 (a : Array Value) (w : World) : (callFunc 107 a).run Tryd.prog w = .ok (.enter 107 a) w := by kernel_rfl
theorem meth1 (v : Value) (w : World) : (method 226 84 v "loop.example/g00389/impl.operand").run Tryd.prog w = .ok (107, v) w := by kernel_rfl
theorem fn2 (a : Array Value) (w : World) : (callFunc 108 a).run Tryd.prog w = .ok (.enter 108 a) w := by kernel_rfl
theorem meth2 (v : Value) (w : World) : (method 226 85 v "loop.example/g00389/impl.operand").run Tryd.prog w = .ok (108, v) w := by kernel_rfl
theorem fn3 (a : Array Value) (w : World) : (callFunc 109 a).run Tryd.prog w = .ok (.enter 109 a) w := by kernel_rfl
theorem meth3 (v : Value) (w : World) : (method 226 86 v "loop.example/g00389/impl.operand").run Tryd.prog w = .ok (109, v) w := by kernel_rfl
theorem fn4 (a : Array Value) (w : World) : (callFunc 110 a).run Tryd.prog w = .ok (.enter 110 a) w := by kernel_rfl
theorem meth4 (v : Value) (w : World) : (method 226 87 v "loop.example/g00389/impl.operand").run Tryd.prog w = .ok (110, v) w := by kernel_rfl
theorem fn5 (a : Array Value) (w : World) : (callFunc 111 a).run Tryd.prog w = .ok (.enter 111 a) w := by kernel_rfl
theorem meth5 (v : Value) (w : World) : (method 226 89 v "loop.example/g00389/impl.operand").run Tryd.prog w = .ok (111, v) w := by kernel_rfl
theorem fn6 (a : Array Value) (w : World) : (callFunc 112 a).run Tryd.prog w = .ok (.enter 112 a) w := by kernel_rfl
theorem meth6 (v : Value) (w : World) : (method 226 91 v "loop.example/g00389/impl.operand").run Tryd.prog w = .ok (112, v) w := by kernel_rfl
theorem fn7 (a : Array Value) (w : World) : (callFunc 113 a).run Tryd.prog w = .ok (.enter 113 a) w := by kernel_rfl
theorem meth7 (v : Value) (w : World) : (method 226 92 v "loop.example/g00389/impl.operand").run Tryd.prog w = .ok (113, v) w := by kernel_rfl
end Go.Proofs.YtlbnllhabdnjjaaDoor
