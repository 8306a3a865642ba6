/- The ways to name an operand, as the program holds them: one type a way. -/
import Derived.Test.YtikmelkobbbgnaaImplRegA
namespace Go.Proofs.Ytikmelkobbbgnaa
open Go.RowKit
set_option linter.unusedVariables false
theorem wayOf0 (k e : Int) (w : World) : Calls Try.prog 47 #[.agg #[.int .i64 0, .int .i64 k, .int .i64 e]] w fun r w' => r = .returned (.iface 81 (.agg #[.int .i64 k])) ∧ Kept 0 0 w w' := by
  go_enter Try.func47, Try.ntmps47
  go_wp2
  go_ret
  exact ⟨rfl, kept_alloc w _⟩
theorem wayOf1 (k e : Int) (w : World) : Calls Try.prog 47 #[.agg #[.int .i64 1, .int .i64 k, .int .i64 e]] w fun r w' => r = .returned (.iface 82 (.agg #[.int .i64 k])) ∧ Kept 0 0 w w' := by
  go_enter Try.func47, Try.ntmps47
  go_wp2
  go_ret
  exact ⟨rfl, kept_alloc w _⟩
theorem wayOf2 (k e : Int) (w : World) : Calls Try.prog 47 #[.agg #[.int .i64 2, .int .i64 k, .int .i64 e]] w fun r w' => r = .returned (.iface 83 (.agg #[.int .i64 k])) ∧ Kept 0 0 w w' := by
  go_enter Try.func47, Try.ntmps47
  go_wp2
  go_ret
  exact ⟨rfl, kept_alloc w _⟩
theorem wayOf3 (k e : Int) (w : World) : Calls Try.prog 47 #[.agg #[.int .i64 3, .int .i64 k, .int .i64 e]] w fun r w' => r = .returned (.iface 84 (.agg #[.int .i64 k])) ∧ Kept 0 0 w w' := by
  go_enter Try.func47, Try.ntmps47
  go_wp2
  go_ret
  exact ⟨rfl, kept_alloc w _⟩
theorem wayOf4 (k e : Int) (w : World) : Calls Try.prog 47 #[.agg #[.int .i64 4, .int .i64 k, .int .i64 e]] w fun r w' => r = .returned (.iface 85 (.agg #[.int .i64 k])) ∧ Kept 0 0 w w' := by
  go_enter Try.func47, Try.ntmps47
  go_wp2
  go_ret
  exact ⟨rfl, kept_alloc w _⟩
theorem wayOf5 (k e : Int) (w : World) : Calls Try.prog 47 #[.agg #[.int .i64 5, .int .i64 k, .int .i64 e]] w fun r w' => r = .returned (.iface 87 (.agg #[.int .i64 k, .int .i64 e])) ∧ Kept 0 0 w w' := by
  go_enter Try.func47, Try.ntmps47
  go_wp2
  go_ret
  exact ⟨rfl, kept_alloc w _⟩
theorem wayOf6 (k e : Int) (w : World) : Calls Try.prog 47 #[.agg #[.int .i64 6, .int .i64 k, .int .i64 e]] w fun r w' => r = .returned (.iface 89 (.agg #[.int .i64 e])) ∧ Kept 0 0 w w' := by
  go_enter Try.func47, Try.ntmps47
  go_wp2
  go_ret
  exact ⟨rfl, kept_alloc w _⟩
theorem wayOf7 (k e : Int) (w : World) : Calls Try.prog 47 #[.agg #[.int .i64 7, .int .i64 k, .int .i64 e]] w fun r w' => r = .returned (.iface 90 (.agg #[.int .i64 e])) ∧ Kept 0 0 w w' := by
  go_enter Try.func47, Try.ntmps47
  go_wp2
  go_ret
  exact ⟨rfl, kept_alloc w _⟩
theorem wayOfNo (m k e : Int) (w : World) (h : Pl.modeOk m = false) : Calls Try.prog 47 #[.agg #[.int .i64 m, .int .i64 k, .int .i64 e]] w fun r w' => r = .returned .nilIface ∧ Kept 0 0 w w' := by
  obtain ⟨n0, n1, n2, n3, n4, n5, n6, n7⟩ : ¬ m = 0 ∧ ¬ m = 1 ∧ ¬ m = 2 ∧ ¬ m = 3 ∧ ¬ m = 4 ∧ ¬ m = 5 ∧ ¬ m = 6 ∧ ¬ m = 7 := by
    simp [Pl.modeOk, Pl.within] at h
    omega
  go_enter Try.func47, Try.ntmps47
  go_wp2
  go_ret
  exact ⟨rfl, kept_alloc w _⟩
theorem ta02 (v : Value) (w : World) : (Instr.typeAssert (.iface 81 v) 62 83 true).run Try.prog w = .ok (.tuple #[.agg #[.int .i64 0], .bool false]) w := by kernel_rfl
theorem ta03 (v : Value) (w : World) : (Instr.typeAssert (.iface 81 v) 62 84 true).run Try.prog w = .ok (.tuple #[.agg #[.int .i64 0], .bool false]) w := by kernel_rfl
theorem ta04 (v : Value) (w : World) : (Instr.typeAssert (.iface 81 v) 62 85 true).run Try.prog w = .ok (.tuple #[.agg #[.int .i64 0], .bool false]) w := by kernel_rfl
theorem ta05 (v : Value) (w : World) : (Instr.typeAssert (.iface 81 v) 62 87 true).run Try.prog w = .ok (.tuple #[.agg #[.int .i64 0, .int .i64 0], .bool false]) w := by kernel_rfl
theorem ta06 (v : Value) (w : World) : (Instr.typeAssert (.iface 81 v) 62 89 true).run Try.prog w = .ok (.tuple #[.agg #[.int .i64 0], .bool false]) w := by kernel_rfl
theorem ta07 (v : Value) (w : World) : (Instr.typeAssert (.iface 81 v) 62 90 true).run Try.prog w = .ok (.tuple #[.agg #[.int .i64 0], .bool false]) w := by kernel_rfl
theorem ta12 (v : Value) (w : World) : (Instr.typeAssert (.iface 82 v) 62 83 true).run Try.prog w = .ok (.tuple #[.agg #[.int .i64 0], .bool false]) w := by kernel_rfl
theorem ta13 (v : Value) (w : World) : (Instr.typeAssert (.iface 82 v) 62 84 true).run Try.prog w = .ok (.tuple #[.agg #[.int .i64 0], .bool false]) w := by kernel_rfl
theorem ta14 (v : Value) (w : World) : (Instr.typeAssert (.iface 82 v) 62 85 true).run Try.prog w = .ok (.tuple #[.agg #[.int .i64 0], .bool false]) w := by kernel_rfl
theorem ta15 (v : Value) (w : World) : (Instr.typeAssert (.iface 82 v) 62 87 true).run Try.prog w = .ok (.tuple #[.agg #[.int .i64 0, .int .i64 0], .bool false]) w := by kernel_rfl
theorem ta16 (v : Value) (w : World) : (Instr.typeAssert (.iface 82 v) 62 89 true).run Try.prog w = .ok (.tuple #[.agg #[.int .i64 0], .bool false]) w := by kernel_rfl
theorem ta17 (v : Value) (w : World) : (Instr.typeAssert (.iface 82 v) 62 90 true).run Try.prog w = .ok (.tuple #[.agg #[.int .i64 0], .bool false]) w := by kernel_rfl
theorem ta22 (v : Value) (w : World) : (Instr.typeAssert (.iface 83 v) 62 83 true).run Try.prog w = .ok (.tuple #[v, .bool true]) w := by kernel_rfl
theorem ta23 (v : Value) (w : World) : (Instr.typeAssert (.iface 83 v) 62 84 true).run Try.prog w = .ok (.tuple #[.agg #[.int .i64 0], .bool false]) w := by kernel_rfl
theorem ta24 (v : Value) (w : World) : (Instr.typeAssert (.iface 83 v) 62 85 true).run Try.prog w = .ok (.tuple #[.agg #[.int .i64 0], .bool false]) w := by kernel_rfl
theorem ta25 (v : Value) (w : World) : (Instr.typeAssert (.iface 83 v) 62 87 true).run Try.prog w = .ok (.tuple #[.agg #[.int .i64 0, .int .i64 0], .bool false]) w := by kernel_rfl
theorem ta26 (v : Value) (w : World) : (Instr.typeAssert (.iface 83 v) 62 89 true).run Try.prog w = .ok (.tuple #[.agg #[.int .i64 0], .bool false]) w := by kernel_rfl
theorem ta27 (v : Value) (w : World) : (Instr.typeAssert (.iface 83 v) 62 90 true).run Try.prog w = .ok (.tuple #[.agg #[.int .i64 0], .bool false]) w := by kernel_rfl
theorem ta32 (v : Value) (w : World) : (Instr.typeAssert (.iface 84 v) 62 83 true).run Try.prog w = .ok (.tuple #[.agg #[.int .i64 0], .bool false]) w := by kernel_rfl
theorem ta33 (v : Value) (w : World) : (Instr.typeAssert (.iface 84 v) 62 84 true).run Try.prog w = .ok (.tuple #[v, .bool true]) w := by kernel_rfl
theorem ta34 (v : Value) (w : World) : (Instr.typeAssert (.iface 84 v) 62 85 true).run Try.prog w = .ok (.tuple #[.agg #[.int .i64 0], .bool false]) w := by kernel_rfl
theorem ta35 (v : Value) (w : World) : (Instr.typeAssert (.iface 84 v) 62 87 true).run Try.prog w = .ok (.tuple #[.agg #[.int .i64 0, .int .i64 0], .bool false]) w := by kernel_rfl
theorem ta36 (v : Value) (w : World) : (Instr.typeAssert (.iface 84 v) 62 89 true).run Try.prog w = .ok (.tuple #[.agg #[.int .i64 0], .bool false]) w := by kernel_rfl
theorem ta37 (v : Value) (w : World) : (Instr.typeAssert (.iface 84 v) 62 90 true).run Try.prog w = .ok (.tuple #[.agg #[.int .i64 0], .bool false]) w := by kernel_rfl
theorem ta42 (v : Value) (w : World) : (Instr.typeAssert (.iface 85 v) 62 83 true).run Try.prog w = .ok (.tuple #[.agg #[.int .i64 0], .bool false]) w := by kernel_rfl
theorem ta43 (v : Value) (w : World) : (Instr.typeAssert (.iface 85 v) 62 84 true).run Try.prog w = .ok (.tuple #[.agg #[.int .i64 0], .bool false]) w := by kernel_rfl
theorem ta44 (v : Value) (w : World) : (Instr.typeAssert (.iface 85 v) 62 85 true).run Try.prog w = .ok (.tuple #[v, .bool true]) w := by kernel_rfl
theorem ta45 (v : Value) (w : World) : (Instr.typeAssert (.iface 85 v) 62 87 true).run Try.prog w = .ok (.tuple #[.agg #[.int .i64 0, .int .i64 0], .bool false]) w := by kernel_rfl
theorem ta46 (v : Value) (w : World) : (Instr.typeAssert (.iface 85 v) 62 89 true).run Try.prog w = .ok (.tuple #[.agg #[.int .i64 0], .bool false]) w := by kernel_rfl
theorem ta47 (v : Value) (w : World) : (Instr.typeAssert (.iface 85 v) 62 90 true).run Try.prog w = .ok (.tuple #[.agg #[.int .i64 0], .bool false]) w := by kernel_rfl
theorem ta52 (v : Value) (w : World) : (Instr.typeAssert (.iface 87 v) 62 83 true).run Try.prog w = .ok (.tuple #[.agg #[.int .i64 0], .bool false]) w := by kernel_rfl
theorem ta53 (v : Value) (w : World) : (Instr.typeAssert (.iface 87 v) 62 84 true).run Try.prog w = .ok (.tuple #[.agg #[.int .i64 0], .bool false]) w := by kernel_rfl
theorem ta54 (v : Value) (w : World) : (Instr.typeAssert (.iface 87 v) 62 85 true).run Try.prog w = .ok (.tuple #[.agg #[.int .i64 0], .bool false]) w := by kernel_rfl
theorem ta55 (v : Value) (w : World) : (Instr.typeAssert (.iface 87 v) 62 87 true).run Try.prog w = .ok (.tuple #[v, .bool true]) w := by kernel_rfl
theorem ta56 (v : Value) (w : World) : (Instr.typeAssert (.iface 87 v) 62 89 true).run Try.prog w = .ok (.tuple #[.agg #[.int .i64 0], .bool false]) w := by kernel_rfl
theorem ta57 (v : Value) (w : World) : (Instr.typeAssert (.iface 87 v) 62 90 true).run Try.prog w = .ok (.tuple #[.agg #[.int .i64 0], .bool false]) w := by kernel_rfl
theorem ta62 (v : Value) (w : World) : (Instr.typeAssert (.iface 89 v) 62 83 true).run Try.prog w = .ok (.tuple #[.agg #[.int .i64 0], .bool false]) w := by kernel_rfl
theorem ta63 (v : Value) (w : World) : (Instr.typeAssert (.iface 89 v) 62 84 true).run Try.prog w = .ok (.tuple #[.agg #[.int .i64 0], .bool false]) w := by kernel_rfl
theorem ta64 (v : Value) (w : World) : (Instr.typeAssert (.iface 89 v) 62 85 true).run Try.prog w = .ok (.tuple #[.agg #[.int .i64 0], .bool false]) w := by kernel_rfl
theorem ta65 (v : Value) (w : World) : (Instr.typeAssert (.iface 89 v) 62 87 true).run Try.prog w = .ok (.tuple #[.agg #[.int .i64 0, .int .i64 0], .bool false]) w := by kernel_rfl
theorem ta66 (v : Value) (w : World) : (Instr.typeAssert (.iface 89 v) 62 89 true).run Try.prog w = .ok (.tuple #[v, .bool true]) w := by kernel_rfl
theorem ta67 (v : Value) (w : World) : (Instr.typeAssert (.iface 89 v) 62 90 true).run Try.prog w = .ok (.tuple #[.agg #[.int .i64 0], .bool false]) w := by kernel_rfl
theorem ta72 (v : Value) (w : World) : (Instr.typeAssert (.iface 90 v) 62 83 true).run Try.prog w = .ok (.tuple #[.agg #[.int .i64 0], .bool false]) w := by kernel_rfl
theorem ta73 (v : Value) (w : World) : (Instr.typeAssert (.iface 90 v) 62 84 true).run Try.prog w = .ok (.tuple #[.agg #[.int .i64 0], .bool false]) w := by kernel_rfl
theorem ta74 (v : Value) (w : World) : (Instr.typeAssert (.iface 90 v) 62 85 true).run Try.prog w = .ok (.tuple #[.agg #[.int .i64 0], .bool false]) w := by kernel_rfl
theorem ta75 (v : Value) (w : World) : (Instr.typeAssert (.iface 90 v) 62 87 true).run Try.prog w = .ok (.tuple #[.agg #[.int .i64 0, .int .i64 0], .bool false]) w := by kernel_rfl
theorem ta76 (v : Value) (w : World) : (Instr.typeAssert (.iface 90 v) 62 89 true).run Try.prog w = .ok (.tuple #[.agg #[.int .i64 0], .bool false]) w := by kernel_rfl
theorem ta77 (v : Value) (w : World) : (Instr.typeAssert (.iface 90 v) 62 90 true).run Try.prog w = .ok (.tuple #[v, .bool true]) w := by kernel_rfl
theorem taN2 (w : World) : (Instr.typeAssert .nilIface 62 83 true).run Try.prog w = .ok (.tuple #[.agg #[.int .i64 0], .bool false]) w := by kernel_rfl
theorem taN3 (w : World) : (Instr.typeAssert .nilIface 62 84 true).run Try.prog w = .ok (.tuple #[.agg #[.int .i64 0], .bool false]) w := by kernel_rfl
theorem taN4 (w : World) : (Instr.typeAssert .nilIface 62 85 true).run Try.prog w = .ok (.tuple #[.agg #[.int .i64 0], .bool false]) w := by kernel_rfl
theorem taN5 (w : World) : (Instr.typeAssert .nilIface 62 87 true).run Try.prog w = .ok (.tuple #[.agg #[.int .i64 0, .int .i64 0], .bool false]) w := by kernel_rfl
theorem taN6 (w : World) : (Instr.typeAssert .nilIface 62 89 true).run Try.prog w = .ok (.tuple #[.agg #[.int .i64 0], .bool false]) w := by kernel_rfl
theorem taN7 (w : World) : (Instr.typeAssert .nilIface 62 90 true).run Try.prog w = .ok (.tuple #[.agg #[.int .i64 0], .bool false]) w := by kernel_rfl
theorem hasExt0 (v : Value) (w : World) : Calls Try.prog 63 #[.iface 81 v] w fun r w' => r = .returned (.bool false) ∧ w' = w := by
  have t5 := ta05
  have t6 := ta06
  have t7 := ta07
  go_enter Try.func63, Try.ntmps63
  go_wp2
  go_ret
  exact ⟨rfl, rfl⟩
theorem hasExt1 (v : Value) (w : World) : Calls Try.prog 63 #[.iface 82 v] w fun r w' => r = .returned (.bool false) ∧ w' = w := by
  have t5 := ta15
  have t6 := ta16
  have t7 := ta17
  go_enter Try.func63, Try.ntmps63
  go_wp2
  go_ret
  exact ⟨rfl, rfl⟩
theorem hasExt2 (v : Value) (w : World) : Calls Try.prog 63 #[.iface 83 v] w fun r w' => r = .returned (.bool false) ∧ w' = w := by
  have t5 := ta25
  have t6 := ta26
  have t7 := ta27
  go_enter Try.func63, Try.ntmps63
  go_wp2
  go_ret
  exact ⟨rfl, rfl⟩
theorem hasExt3 (v : Value) (w : World) : Calls Try.prog 63 #[.iface 84 v] w fun r w' => r = .returned (.bool false) ∧ w' = w := by
  have t5 := ta35
  have t6 := ta36
  have t7 := ta37
  go_enter Try.func63, Try.ntmps63
  go_wp2
  go_ret
  exact ⟨rfl, rfl⟩
theorem hasExt4 (v : Value) (w : World) : Calls Try.prog 63 #[.iface 85 v] w fun r w' => r = .returned (.bool false) ∧ w' = w := by
  have t5 := ta45
  have t6 := ta46
  have t7 := ta47
  go_enter Try.func63, Try.ntmps63
  go_wp2
  go_ret
  exact ⟨rfl, rfl⟩
theorem hasExt5 (v : Value) (w : World) : Calls Try.prog 63 #[.iface 87 v] w fun r w' => r = .returned (.bool true) ∧ w' = w := by
  have t5 := ta55
  have t6 := ta56
  have t7 := ta57
  go_enter Try.func63, Try.ntmps63
  go_wp2
  go_ret
  exact ⟨rfl, rfl⟩
theorem hasExt6 (v : Value) (w : World) : Calls Try.prog 63 #[.iface 89 v] w fun r w' => r = .returned (.bool true) ∧ w' = w := by
  have t5 := ta65
  have t6 := ta66
  have t7 := ta67
  go_enter Try.func63, Try.ntmps63
  go_wp2
  go_ret
  exact ⟨rfl, rfl⟩
theorem hasExt7 (v : Value) (w : World) : Calls Try.prog 63 #[.iface 90 v] w fun r w' => r = .returned (.bool true) ∧ w' = w := by
  have t5 := ta75
  have t6 := ta76
  have t7 := ta77
  go_enter Try.func63, Try.ntmps63
  go_wp2
  go_ret
  exact ⟨rfl, rfl⟩
theorem operand0 (k e : Int) (w : World) : Calls Try.prog 88 #[.agg #[.int .i64 k]] w fun r w' => r = .returned (.agg #[.int .i64 0, .int .i64 k, .int .i64 0]) ∧ Kept 0 0 w w' := by
  go_enter Try.func88, Try.ntmps88
  go_wp2
  refine bodyPost_ret (v := .agg #[.int .i64 0, .int .i64 k, .int .i64 0]) ?_ rfl ⟨rfl, kept_new (kept_alloc w _) _⟩
  rw [results_one rfl]; go_simp
theorem operand1 (k e : Int) (w : World) : Calls Try.prog 89 #[.agg #[.int .i64 k]] w fun r w' => r = .returned (.agg #[.int .i64 1, .int .i64 k, .int .i64 0]) ∧ Kept 0 0 w w' := by
  go_enter Try.func89, Try.ntmps89
  go_wp2
  refine bodyPost_ret (v := .agg #[.int .i64 1, .int .i64 k, .int .i64 0]) ?_ rfl ⟨rfl, kept_new (kept_alloc w _) _⟩
  rw [results_one rfl]; go_simp
theorem operand2 (k e : Int) (w : World) : Calls Try.prog 90 #[.agg #[.int .i64 k]] w fun r w' => r = .returned (.agg #[.int .i64 2, .int .i64 k, .int .i64 0]) ∧ Kept 0 0 w w' := by
  go_enter Try.func90, Try.ntmps90
  go_wp2
  refine bodyPost_ret (v := .agg #[.int .i64 2, .int .i64 k, .int .i64 0]) ?_ rfl ⟨rfl, kept_new (kept_alloc w _) _⟩
  rw [results_one rfl]; go_simp
theorem operand3 (k e : Int) (w : World) : Calls Try.prog 91 #[.agg #[.int .i64 k]] w fun r w' => r = .returned (.agg #[.int .i64 3, .int .i64 k, .int .i64 0]) ∧ Kept 0 0 w w' := by
  go_enter Try.func91, Try.ntmps91
  go_wp2
  refine bodyPost_ret (v := .agg #[.int .i64 3, .int .i64 k, .int .i64 0]) ?_ rfl ⟨rfl, kept_new (kept_alloc w _) _⟩
  rw [results_one rfl]; go_simp
theorem operand4 (k e : Int) (w : World) : Calls Try.prog 92 #[.agg #[.int .i64 k]] w fun r w' => r = .returned (.agg #[.int .i64 4, .int .i64 k, .int .i64 0]) ∧ Kept 0 0 w w' := by
  go_enter Try.func92, Try.ntmps92
  go_wp2
  refine bodyPost_ret (v := .agg #[.int .i64 4, .int .i64 k, .int .i64 0]) ?_ rfl ⟨rfl, kept_new (kept_alloc w _) _⟩
  rw [results_one rfl]; go_simp
theorem operand5 (k e : Int) (w : World) : Calls Try.prog 93 #[.agg #[.int .i64 k, .int .i64 e]] w fun r w' => r = .returned (.agg #[.int .i64 5, .int .i64 k, .int .i64 e]) ∧ Kept 0 0 w w' := by
  go_enter Try.func93, Try.ntmps93
  go_wp2
  refine bodyPost_ret (v := .agg #[.int .i64 5, .int .i64 k, .int .i64 e]) ?_ rfl ⟨rfl, kept_new (kept_alloc w _) _⟩
  rw [results_one rfl]; go_simp
theorem operand6 (k e : Int) (w : World) : Calls Try.prog 94 #[.agg #[.int .i64 e]] w fun r w' => r = .returned (.agg #[.int .i64 6, .int .i64 0, .int .i64 e]) ∧ Kept 0 0 w w' := by
  go_enter Try.func94, Try.ntmps94
  go_wp2
  refine bodyPost_ret (v := .agg #[.int .i64 6, .int .i64 0, .int .i64 e]) ?_ rfl ⟨rfl, kept_new (kept_alloc w _) _⟩
  rw [results_one rfl]; go_simp
theorem operand7 (k e : Int) (w : World) : Calls Try.prog 95 #[.agg #[.int .i64 e]] w fun r w' => r = .returned (.agg #[.int .i64 7, .int .i64 0, .int .i64 e]) ∧ Kept 0 0 w w' := by
  go_enter Try.func95, Try.ntmps95
  go_wp2
  refine bodyPost_ret (v := .agg #[.int .i64 7, .int .i64 0, .int .i64 e]) ?_ rfl ⟨rfl, kept_new (kept_alloc w _) _⟩
  rw [results_one rfl]; go_simp
theorem fn0 (a : Array Value) (w : World) : (callFunc 88 a).run Try.prog w = .ok (.enter 88 a) w := by kernel_rfl
theorem meth0 (v : Value) (w : World) : (method 214 81 v "loop.example/g00389/impl.operand").run Try.prog w = .ok (88, v) w := by kernel_rfl
theorem fn1 (a : Array Value) (w : World) : (callFunc 89 a).run Try.prog w = .ok (.enter 89 a) w := by kernel_rfl
theorem meth1 (v : Value) (w : World) : (method 214 82 v "loop.example/g00389/impl.operand").run Try.prog w = .ok (89, v) w := by kernel_rfl
theorem fn2 (a : Array Value) (w : World) : (callFunc 90 a).run Try.prog w = .ok (.enter 90 a) w := by kernel_rfl
theorem meth2 (v : Value) (w : World) : (method 214 83 v "loop.example/g00389/impl.operand").run Try.prog w = .ok (90, v) w := by kernel_rfl
theorem fn3 (a : Array Value) (w : World) : (callFunc 91 a).run Try.prog w = .ok (.enter 91 a) w := by kernel_rfl
theorem meth3 (v : Value) (w : World) : (method 214 84 v "loop.example/g00389/impl.operand").run Try.prog w = .ok (91, v) w := by kernel_rfl
theorem fn4 (a : Array Value) (w : World) : (callFunc 92 a).run Try.prog w = .ok (.enter 92 a) w := by kernel_rfl
theorem meth4 (v : Value) (w : World) : (method 214 85 v "loop.example/g00389/impl.operand").run Try.prog w = .ok (92, v) w := by kernel_rfl
theorem fn5 (a : Array Value) (w : World) : (callFunc 93 a).run Try.prog w = .ok (.enter 93 a) w := by kernel_rfl
theorem meth5 (v : Value) (w : World) : (method 214 87 v "loop.example/g00389/impl.operand").run Try.prog w = .ok (93, v) w := by kernel_rfl
theorem fn6 (a : Array Value) (w : World) : (callFunc 94 a).run Try.prog w = .ok (.enter 94 a) w := by kernel_rfl
theorem meth6 (v : Value) (w : World) : (method 214 89 v "loop.example/g00389/impl.operand").run Try.prog w = .ok (94, v) w := by kernel_rfl
theorem fn7 (a : Array Value) (w : World) : (callFunc 95 a).run Try.prog w = .ok (.enter 95 a) w := by kernel_rfl
theorem meth7 (v : Value) (w : World) : (method 214 90 v "loop.example/g00389/impl.operand").run Try.prog w = .ok (95, v) w := by kernel_rfl
end Go.Proofs.Ytikmelkobbbgnaa
