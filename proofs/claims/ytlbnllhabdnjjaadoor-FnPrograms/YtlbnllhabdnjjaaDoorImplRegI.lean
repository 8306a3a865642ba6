/- The ways to name an operand, as the program holds them: told apart. -/
import Derived.Test.YtlbnllhabdnjjaaDoorImplWay
namespace Go.Proofs.YtlbnllhabdnjjaaDoor
open Go.RowKit
set_option linter.unusedVariables false
theorem ta02 (v : Value) (w : World) : (Instr.typeAssert (.iface 83 v) 78 85 true).run Tryd.prog w = .ok (.tuple #[.agg #[.int .i64 0], .bool false]) w := by kernel_rfl
theorem ta03 (v : Value) (w : World) : (Instr.typeAssert (.iface 83 v) 78 86 true).run Tryd.prog w = .ok (.tuple #[.agg #[.int .i64 0], .bool false]) w := by kernel_rfl
theorem ta04 (v : Value) (w : World) : (Instr.typeAssert (.iface 83 v) 78 87 true).run Tryd.prog w = .ok (.tuple #[.agg #[.int .i64 0], .bool false]) w := by kernel_rfl
theorem ta05 (v : Value) (w : World) : (Instr.typeAssert (.iface 83 v) 78 89 true).run Tryd.prog w = .ok (.tuple #[.agg #[.int .i64 0, .int .i64 0], .bool false]) w := by kernel_rfl
theorem ta06 (v : Value) (w : World) : (Instr.typeAssert (.iface 83 v) 78 91 true).run Tryd.prog w = .ok (.tuple #[.agg #[.int .i64 0], .bool false]) w := by kernel_rfl
theorem ta07 (v : Value) (w : World) : (Instr.typeAssert (.iface 83 v) 78 92 true).run Tryd.prog w = .ok (.tuple #[.agg #[.int .i64 0], .bool false]) w := by kernel_rfl
theorem ta12 (v : Value) (w : World) : (Instr.typeAssert (.iface 84 v) 78 85 true).run Tryd.prog w = .ok (.tuple #[.agg #[.int .i64 0], .bool false]) w := by kernel_rfl
theorem ta13 (v : Value) (w : World) : (Instr.typeAssert (.iface 84 v) 78 86 true).run Tryd.prog w = .ok (.tuple #[.agg #[.int .i64 0], .bool false]) w := by kernel_rfl
theorem ta14 (v : Value) (w : World) : (Instr.typeAssert (.iface 84 v) 78 87 true).run Tryd.prog w = .ok (.tuple #[.agg #[.int .i64 0], .bool false]) w := by kernel_rfl
theorem ta15 (v : Value) (w : World) : (Instr.typeAssert (.iface 84 v) 78 89 true).run Tryd.prog w = .ok (.tuple #[.agg #[.int .i64 0, .int .i64 0], .bool false]) w := by kernel_rfl
theorem ta16 (v : Value) (w : World) : (Instr.typeAssert (.iface 84 v) 78 91 true).run Tryd.prog w = .ok (.tuple #[.agg #[.int .i64 0], .bool false]) w := by kernel_rfl
theorem ta17 (v : Value) (w : World) : (Instr.typeAssert (.iface 84 v) 78 92 true).run Tryd.prog w = .ok (.tuple #[.agg #[.int .i64 0], .bool false]) w := by kernel_rfl
theorem ta22 (v : Value) (w : World) : (Instr.typeAssert (.iface 85 v) 78 85 true).run Tryd.prog w = .ok (.tuple #[v, .bool true]) w := by kernel_rfl
theorem ta23 (v : Value) (w : World) : (Instr.typeAssert (.iface 85 v) 78 86 true).run Tryd.prog w = .ok (.tuple #[.agg #[.int .i64 0], .bool false]) w := by kernel_rfl
theorem ta24 (v : Value) (w : World) : (Instr.typeAssert (.iface 85 v) 78 87 true).run Tryd.prog w = .ok (.tuple #[.agg #[.int .i64 0], .bool false]) w := by kernel_rfl
theorem ta25 (v : Value) (w : World) : (Instr.typeAssert (.iface 85 v) 78 89 true).run Tryd.prog w = .ok (.tuple #[.agg #[.int .i64 0, .int .i64 0], .bool false]) w := by kernel_rfl
theorem ta26 (v : Value) (w : World) : (Instr.typeAssert (.iface 85 v) 78 91 true).run Tryd.prog w = .ok (.tuple #[.agg #[.int .i64 0], .bool false]) w := by kernel_rfl
theorem ta27 (v : Value) (w : World) : (Instr.typeAssert (.iface 85 v) 78 92 true).run Tryd.prog w = .ok (.tuple #[.agg #[.int .i64 0], .bool false]) w := by kernel_rfl
theorem ta32 (v : Value) (w : World) : (Instr.typeAssert (.iface 86 v) 78 85 true).run Tryd.prog w = .ok (.tuple #[.agg #[.int .i64 0], .bool false]) w := by kernel_rfl
theorem ta33 (v : Value) (w : World) : (Instr.typeAssert (.iface 86 v) 78 86 true).run Tryd.prog w = .ok (.tuple #[v, .bool true]) w := by kernel_rfl
theorem ta34 (v : Value) (w : World) : (Instr.typeAssert (.iface 86 v) 78 87 true).run Tryd.prog w = .ok (.tuple #[.agg #[.int .i64 0], .bool false]) w := by kernel_rfl
theorem ta35 (v : Value) (w : World) : (Instr.typeAssert (.iface 86 v) 78 89 true).run Tryd.prog w = .ok (.tuple #[.agg #[.int .i64 0, .int .i64 0], .bool false]) w := by kernel_rfl
theorem ta36 (v : Value) (w : World) : (Instr.typeAssert (.iface 86 v) 78 91 true).run Tryd.prog w = .ok (.tuple #[.agg #[.int .i64 0], .bool false]) w := by kernel_rfl
theorem ta37 (v : Value) (w : World) : (Instr.typeAssert (.iface 86 v) 78 92 true).run Tryd.prog w = .ok (.tuple #[.agg #[.int .i64 0], .bool false]) w := by kernel_rfl
theorem ta42 (v : Value) (w : World) : (Instr.typeAssert (.iface 87 v) 78 85 true).run Tryd.prog w = .ok (.tuple #[.agg #[.int .i64 0], .bool false]) w := by kernel_rfl
theorem ta43 (v : Value) (w : World) : (Instr.typeAssert (.iface 87 v) 78 86 true).run Tryd.prog w = .ok (.tuple #[.agg #[.int .i64 0], .bool false]) w := by kernel_rfl
theorem ta44 (v : Value) (w : World) : (Instr.typeAssert (.iface 87 v) 78 87 true).run Tryd.prog w = .ok (.tuple #[v, .bool true]) w := by kernel_rfl
theorem ta45 (v : Value) (w : World) : (Instr.typeAssert (.iface 87 v) 78 89 true).run Tryd.prog w = .ok (.tuple #[.agg #[.int .i64 0, .int .i64 0], .bool false]) w := by kernel_rfl
theorem ta46 (v : Value) (w : World) : (Instr.typeAssert (.iface 87 v) 78 91 true).run Tryd.prog w = .ok (.tuple #[.agg #[.int .i64 0], .bool false]) w := by kernel_rfl
theorem ta47 (v : Value) (w : World) : (Instr.typeAssert (.iface 87 v) 78 92 true).run Tryd.prog w = .ok (.tuple #[.agg #[.int .i64 0], .bool false]) w := by kernel_rfl
theorem ta52 (v : Value) (w : World) : (Instr.typeAssert (.iface 89 v) 78 85 true).run Tryd.prog w = .ok (.tuple #[.agg #[.int .i64 0], .bool false]) w := by kernel_rfl
theorem ta53 (v : Value) (w : World) : (Instr.typeAssert (.iface 89 v) 78 86 true).run Tryd.prog w = .ok (.tuple #[.agg #[.int .i64 0], .bool false]) w := by kernel_rfl
theorem ta54 (v : Value) (w : World) : (Instr.typeAssert (.iface 89 v) 78 87 true).run Tryd.prog w = .ok (.tuple #[.agg #[.int .i64 0], .bool false]) w := by kernel_rfl
theorem ta55 (v : Value) (w : World) : (Instr.typeAssert (.iface 89 v) 78 89 true).run Tryd.prog w = .ok (.tuple #[v, .bool true]) w := by kernel_rfl
theorem ta56 (v : Value) (w : World) : (Instr.typeAssert (.iface 89 v) 78 91 true).run Tryd.prog w = .ok (.tuple #[.agg #[.int .i64 0], .bool false]) w := by kernel_rfl
theorem ta57 (v : Value) (w : World) : (Instr.typeAssert (.iface 89 v) 78 92 true).run Tryd.prog w = .ok (.tuple #[.agg #[.int .i64 0], .bool false]) w := by kernel_rfl
theorem ta62 (v : Value) (w : World) : (Instr.typeAssert (.iface 91 v) 78 85 true).run Tryd.prog w = .ok (.tuple #[.agg #[.int .i64 0], .bool false]) w := by kernel_rfl
theorem ta63 (v : Value) (w : World) : (Instr.typeAssert (.iface 91 v) 78 86 true).run Tryd.prog w = .ok (.tuple #[.agg #[.int .i64 0], .bool false]) w := by kernel_rfl
theorem ta64 (v : Value) (w : World) : (Instr.typeAssert (.iface 91 v) 78 87 true).run Tryd.prog w = .ok (.tuple #[.agg #[.int .i64 0], .bool false]) w := by kernel_rfl
theorem ta65 (v : Value) (w : World) : (Instr.typeAssert (.iface 91 v) 78 89 true).run Tryd.prog w = .ok (.tuple #[.agg #[.int .i64 0, .int .i64 0], .bool false]) w := by kernel_rfl
theorem ta66 (v : Value) (w : World) : (Instr.typeAssert (.iface 91 v) 78 91 true).run Tryd.prog w = .ok (.tuple #[v, .bool true]) w := by kernel_rfl
theorem ta67 (v : Value) (w : World) : (Instr.typeAssert (.iface 91 v) 78 92 true).run Tryd.prog w = .ok (.tuple #[.agg #[.int .i64 0], .bool false]) w := by kernel_rfl
theorem ta72 (v : Value) (w : World) : (Instr.typeAssert (.iface 92 v) 78 85 true).run Tryd.prog w = .ok (.tuple #[.agg #[.int .i64 0], .bool false]) w := by kernel_rfl
theorem ta73 (v : Value) (w : World) : (Instr.typeAssert (.iface 92 v) 78 86 true).run Tryd.prog w = .ok (.tuple #[.agg #[.int .i64 0], .bool false]) w := by kernel_rfl
theorem ta74 (v : Value) (w : World) : (Instr.typeAssert (.iface 92 v) 78 87 true).run Tryd.prog w = .ok (.tuple #[.agg #[.int .i64 0], .bool false]) w := by kernel_rfl
theorem ta75 (v : Value) (w : World) : (Instr.typeAssert (.iface 92 v) 78 89 true).run Tryd.prog w = .ok (.tuple #[.agg #[.int .i64 0, .int .i64 0], .bool false]) w := by kernel_rfl
theorem ta76 (v : Value) (w : World) : (Instr.typeAssert (.iface 92 v) 78 91 true).run Tryd.prog w = .ok (.tuple #[.agg #[.int .i64 0], .bool false]) w := by kernel_rfl
theorem ta77 (v : Value) (w : World) : (Instr.typeAssert (.iface 92 v) 78 92 true).run Tryd.prog w = .ok (.tuple #[v, .bool true]) w := by kernel_rfl
theorem taN2 (w : World) : (Instr.typeAssert .nilIface 78 85 true).run Tryd.prog w = .ok (.tuple #[.agg #[.int .i64 0], .bool false]) w := by kernel_rfl
theorem taN3 (w : World) : (Instr.typeAssert .nilIface 78 86 true).run Tryd.prog w = .ok (.tuple #[.agg #[.int .i64 0], .bool false]) w := by kernel_rfl
theorem taN4 (w : World) : (Instr.typeAssert .nilIface 78 87 true).run Tryd.prog w = .ok (.tuple #[.agg #[.int .i64 0], .bool false]) w := by kernel_rfl
theorem taN5 (w : World) : (Instr.typeAssert .nilIface 78 89 true).run Tryd.prog w = .ok (.tuple #[.agg #[.int .i64 0, .int .i64 0], .bool false]) w := by kernel_rfl
theorem taN6 (w : World) : (Instr.typeAssert .nilIface 78 91 true).run Tryd.prog w = .ok (.tuple #[.agg #[.int .i64 0], .bool false]) w := by kernel_rfl
theorem taN7 (w : World) : (Instr.typeAssert .nilIface 78 92 true).run Tryd.prog w = .ok (.tuple #[.agg #[.int .i64 0], .bool false]) w := by kernel_rfl
theorem hasExt0 (v : Value) (w : World) : Calls Tryd.prog 76 #[.iface 83 v] w fun r w' => r = .returned (.bool false) ∧ w' = w := by
  have t5 := ta05
  have t6 := ta06
  have t7 := ta07
  go_enter Tryd.func76, Tryd.ntmps76
  go_wp2
  go_ret
  exact ⟨rfl, rfl⟩
theorem hasExt1 (v : Value) (w : World) : Calls Tryd.prog 76 #[.iface 84 v] w fun r w' => r = .returned (.bool false) ∧ w' = w := by
  have t5 := ta15
  have t6 := ta16
  have t7 := ta17
  go_enter Tryd.func76, Tryd.ntmps76
  go_wp2
  go_ret
  exact ⟨rfl, rfl⟩
theorem hasExt2 (v : Value) (w : World) : Calls Tryd.prog 76 #[.iface 85 v] w fun r w' => r = .returned (.bool false) ∧ w' = w := by
  have t5 := ta25
  have t6 := ta26
  have t7 := ta27
  go_enter Tryd.func76, Tryd.ntmps76
  go_wp2
  go_ret
  exact ⟨rfl, rfl⟩
theorem hasExt3 (v : Value) (w : World) : Calls Tryd.prog 76 #[.iface 86 v] w fun r w' => r = .returned (.bool false) ∧ w' = w := by
  have t5 := ta35
  have t6 := ta36
  have t7 := ta37
  go_enter Tryd.func76, Tryd.ntmps76
  go_wp2
  go_ret
  exact ⟨rfl, rfl⟩
theorem hasExt4 (v : Value) (w : World) : Calls Tryd.prog 76 #[.iface 87 v] w fun r w' => r = .returned (.bool false) ∧ w' = w := by
  have t5 := ta45
  have t6 := ta46
  have t7 := ta47
  go_enter Tryd.func76, Tryd.ntmps76
  go_wp2
  go_ret
  exact ⟨rfl, rfl⟩
theorem hasExt5 (v : Value) (w : World) : Calls Tryd.prog 76 #[.iface 89 v] w fun r w' => r = .returned (.bool true) ∧ w' = w := by
  have t5 := ta55
  have t6 := ta56
  have t7 := ta57
  go_enter Tryd.func76, Tryd.ntmps76
  go_wp2
  go_ret
  exact ⟨rfl, rfl⟩
theorem hasExt6 (v : Value) (w : World) : Calls Tryd.prog 76 #[.iface 91 v] w fun r w' => r = .returned (.bool true) ∧ w' = w := by
  have t5 := ta65
  have t6 := ta66
  have t7 := ta67
  go_enter Tryd.func76, Tryd.ntmps76
  go_wp2
  go_ret
  exact ⟨rfl, rfl⟩
theorem hasExt7 (v : Value) (w : World) : Calls Tryd.prog 76 #[.iface 92 v] w fun r w' => r = .returned (.bool true) ∧ w' = w := by
  have t5 := ta75
  have t6 := ta76
  have t7 := ta77
  go_enter Tryd.func76, Tryd.ntmps76
  go_wp2
  go_ret
  exact ⟨rfl, rfl⟩
end Go.Proofs.YtlbnllhabdnjjaaDoor
