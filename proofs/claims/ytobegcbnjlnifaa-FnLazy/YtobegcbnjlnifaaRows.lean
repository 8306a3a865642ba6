/-
  No cell of these rows narrows 'for every input' (looked for: loops, veiled, ifaces, maps, wideKeys, modest, calm, conditions, laid).
  DERIVED. THE GIVEN ROWS OF THIS SEAT. 9 by the template 'for every input the law returns true; each argument reads behind the call as it read before'; 0 by the template 'total and deterministic' (their statements: YtobegcbnjlnifaaTotals.lean).
  GIVEN WITH THE SEED: the statements are not yours to turn. If you find one false, say at which input.
  Laid BY PROGRAM, IN A SANDBOX (cutbox-rows.mjs): the forced cells as the released guide's own fill.sh prints them over the translation 75a0ca4c162640b0… (all of the seat's roots in one cut). By AI agents, Wed Nov 11 2026. No macro, syntax, notation, axiom, sorry.
-/
import Derived.Test.YtobegcbnjlnifaaChecked
import GoSem.Claim
import GoSem.ClaimJoined
import GoSem.ClaimMapViews
import Derived.JoinedTies
import Derived.KernelRfl
namespace Go.Proofs.Ytobegcbnjlnifaa
/- THE CELL 'sum', in the pinned program and in every row, IS THE sha256 OF THE DUMP (.gsa) THAT YtobegcbnjlnifaaProg.lean LOADS. Nothing in Lean hashes anything: it is a label: what it is worth is what the hold of that sum in a sandbox is worth. -/
noncomputable def Try.pinned : Pinned := { name := "ytobegcbnjlnifaa", sum := "75a0ca4c162640b0927a6e858b8e430d6f87ada7828c9810f54c69b59ec7cdfb", checked := Try.checked }
namespace Rows
def none {H : Type} : Left H := { results := [], args := [] }

/-- 'laws.FnLazy': WHATEVER THE INPUT: true; the input reads as it did. -/
def fnLazySpec : ChangeSpec := { name := "fnLazy", fn := fun _ => fun
  | [d] => { results := [.lit (.bool true)], args := [d] }
  | _ => none }
def fnLazyRow : OpenClaim := { program := "ytobegcbnjlnifaa", sum := "75a0ca4c162640b0927a6e858b8e430d6f87ada7828c9810f54c69b59ec7cdfb", func := "loop.example/g00389/laws.FnLazy", spec := "fnLazy", unfollowed := true, recurses := true, apart := false }
def FnLazySaid : Prop := fnLazyRow.holds Try.pinned (OpenSpec.ofChange fnLazySpec)

/-- ITS FALSE NEIGHBOUR: 'it returns false'. Refute it at one input. -/
def fnLazyWrong : ChangeSpec := { name := "fnLazy", fn := fun _ => fun
  | [d] => { results := [.lit (.bool false)], args := [d] }
  | _ => none }
def FnLazyWrongFalsely : Prop := fnLazyRow.holds Try.pinned (OpenSpec.ofChange fnLazyWrong)

/-- 'laws.FnExactGoodFlagOp': WHATEVER THE INPUT: true; the input reads as it did. -/
def fnExactGoodFlagOpSpec : ChangeSpec := { name := "fnExactGoodFlagOp", fn := fun _ => fun
  | [d] => { results := [.lit (.bool true)], args := [d] }
  | _ => none }
def fnExactGoodFlagOpRow : OpenClaim := { program := "ytobegcbnjlnifaa", sum := "75a0ca4c162640b0927a6e858b8e430d6f87ada7828c9810f54c69b59ec7cdfb", func := "loop.example/g00389/laws.FnExactGoodFlagOp", spec := "fnExactGoodFlagOp", apart := false }
def FnExactGoodFlagOpSaid : Prop := fnExactGoodFlagOpRow.holds Try.pinned (OpenSpec.ofChange fnExactGoodFlagOpSpec)

/-- ITS FALSE NEIGHBOUR: 'it returns false'. Refute it at one input. -/
def fnExactGoodFlagOpWrong : ChangeSpec := { name := "fnExactGoodFlagOp", fn := fun _ => fun
  | [d] => { results := [.lit (.bool false)], args := [d] }
  | _ => none }
def FnExactGoodFlagOpWrongFalsely : Prop := fnExactGoodFlagOpRow.holds Try.pinned (OpenSpec.ofChange fnExactGoodFlagOpWrong)

/-- 'laws.FnExactEagerFlags': WHATEVER THE INPUT: true; the input reads as it did. -/
def fnExactEagerFlagsSpec : ChangeSpec := { name := "fnExactEagerFlags", fn := fun _ => fun
  | [d1, d2] => { results := [.lit (.bool true)], args := [d1, d2] }
  | _ => none }
def fnExactEagerFlagsRow : OpenClaim := { program := "ytobegcbnjlnifaa", sum := "75a0ca4c162640b0927a6e858b8e430d6f87ada7828c9810f54c69b59ec7cdfb", func := "loop.example/g00389/laws.FnExactEagerFlags", spec := "fnExactEagerFlags", unfollowed := true, recurses := true, apart := false }
def FnExactEagerFlagsSaid : Prop := fnExactEagerFlagsRow.holds Try.pinned (OpenSpec.ofChange fnExactEagerFlagsSpec)

/-- ITS FALSE NEIGHBOUR: 'it returns false'. Refute it at one input. -/
def fnExactEagerFlagsWrong : ChangeSpec := { name := "fnExactEagerFlags", fn := fun _ => fun
  | [d1, d2] => { results := [.lit (.bool false)], args := [d1, d2] }
  | _ => none }
def FnExactEagerFlagsWrongFalsely : Prop := fnExactEagerFlagsRow.holds Try.pinned (OpenSpec.ofChange fnExactEagerFlagsWrong)

/-- 'laws.FnExactLazyFlags': WHATEVER THE INPUT: true; the input reads as it did. -/
def fnExactLazyFlagsSpec : ChangeSpec := { name := "fnExactLazyFlags", fn := fun _ => fun
  | [d1, d2] => { results := [.lit (.bool true)], args := [d1, d2] }
  | _ => none }
def fnExactLazyFlagsRow : OpenClaim := { program := "ytobegcbnjlnifaa", sum := "75a0ca4c162640b0927a6e858b8e430d6f87ada7828c9810f54c69b59ec7cdfb", func := "loop.example/g00389/laws.FnExactLazyFlags", spec := "fnExactLazyFlags", apart := false }
def FnExactLazyFlagsSaid : Prop := fnExactLazyFlagsRow.holds Try.pinned (OpenSpec.ofChange fnExactLazyFlagsSpec)

/-- ITS FALSE NEIGHBOUR: 'it returns false'. Refute it at one input. -/
def fnExactLazyFlagsWrong : ChangeSpec := { name := "fnExactLazyFlags", fn := fun _ => fun
  | [d1, d2] => { results := [.lit (.bool false)], args := [d1, d2] }
  | _ => none }
def FnExactLazyFlagsWrongFalsely : Prop := fnExactLazyFlagsRow.holds Try.pinned (OpenSpec.ofChange fnExactLazyFlagsWrong)

/-- 'laws.FnExactGoodLazy': WHATEVER THE INPUT: true; the input reads as it did. -/
def fnExactGoodLazySpec : ChangeSpec := { name := "fnExactGoodLazy", fn := fun _ => fun
  | [d] => { results := [.lit (.bool true)], args := [d] }
  | _ => none }
def fnExactGoodLazyRow : OpenClaim := { program := "ytobegcbnjlnifaa", sum := "75a0ca4c162640b0927a6e858b8e430d6f87ada7828c9810f54c69b59ec7cdfb", func := "loop.example/g00389/laws.FnExactGoodLazy", spec := "fnExactGoodLazy", apart := false }
def FnExactGoodLazySaid : Prop := fnExactGoodLazyRow.holds Try.pinned (OpenSpec.ofChange fnExactGoodLazySpec)

/-- ITS FALSE NEIGHBOUR: 'it returns false'. Refute it at one input. -/
def fnExactGoodLazyWrong : ChangeSpec := { name := "fnExactGoodLazy", fn := fun _ => fun
  | [d] => { results := [.lit (.bool false)], args := [d] }
  | _ => none }
def FnExactGoodLazyWrongFalsely : Prop := fnExactGoodLazyRow.holds Try.pinned (OpenSpec.ofChange fnExactGoodLazyWrong)

/-- 'laws.FnExactNoteFlagOp': WHATEVER THE INPUT: true; the input reads as it did. -/
def fnExactNoteFlagOpSpec : ChangeSpec := { name := "fnExactNoteFlagOp", fn := fun _ => fun
  | [d1, d2] => { results := [.lit (.bool true)], args := [d1, d2] }
  | _ => none }
def fnExactNoteFlagOpRow : OpenClaim := { program := "ytobegcbnjlnifaa", sum := "75a0ca4c162640b0927a6e858b8e430d6f87ada7828c9810f54c69b59ec7cdfb", func := "loop.example/g00389/laws.FnExactNoteFlagOp", spec := "fnExactNoteFlagOp", apart := false }
def FnExactNoteFlagOpSaid : Prop := fnExactNoteFlagOpRow.holds Try.pinned (OpenSpec.ofChange fnExactNoteFlagOpSpec)

/-- ITS FALSE NEIGHBOUR: 'it returns false'. Refute it at one input. -/
def fnExactNoteFlagOpWrong : ChangeSpec := { name := "fnExactNoteFlagOp", fn := fun _ => fun
  | [d1, d2] => { results := [.lit (.bool false)], args := [d1, d2] }
  | _ => none }
def FnExactNoteFlagOpWrongFalsely : Prop := fnExactNoteFlagOpRow.holds Try.pinned (OpenSpec.ofChange fnExactNoteFlagOpWrong)

/-- 'laws.FnExactFlagsOf': WHATEVER THE INPUT: true; the input reads as it did. -/
def fnExactFlagsOfSpec : ChangeSpec := { name := "fnExactFlagsOf", fn := fun _ => fun
  | [d] => { results := [.lit (.bool true)], args := [d] }
  | _ => none }
def fnExactFlagsOfRow : OpenClaim := { program := "ytobegcbnjlnifaa", sum := "75a0ca4c162640b0927a6e858b8e430d6f87ada7828c9810f54c69b59ec7cdfb", func := "loop.example/g00389/laws.FnExactFlagsOf", spec := "fnExactFlagsOf", unfollowed := true, recurses := true, apart := false }
def FnExactFlagsOfSaid : Prop := fnExactFlagsOfRow.holds Try.pinned (OpenSpec.ofChange fnExactFlagsOfSpec)

/-- ITS FALSE NEIGHBOUR: 'it returns false'. Refute it at one input. -/
def fnExactFlagsOfWrong : ChangeSpec := { name := "fnExactFlagsOf", fn := fun _ => fun
  | [d] => { results := [.lit (.bool false)], args := [d] }
  | _ => none }
def FnExactFlagsOfWrongFalsely : Prop := fnExactFlagsOfRow.holds Try.pinned (OpenSpec.ofChange fnExactFlagsOfWrong)

/-- 'laws.FnExactCondOf': WHATEVER THE INPUT: true; the input reads as it did. -/
def fnExactCondOfSpec : ChangeSpec := { name := "fnExactCondOf", fn := fun _ => fun
  | [d1, d2] => { results := [.lit (.bool true)], args := [d1, d2] }
  | _ => none }
def fnExactCondOfRow : OpenClaim := { program := "ytobegcbnjlnifaa", sum := "75a0ca4c162640b0927a6e858b8e430d6f87ada7828c9810f54c69b59ec7cdfb", func := "loop.example/g00389/laws.FnExactCondOf", spec := "fnExactCondOf", unfollowed := true, recurses := true, apart := false }
def FnExactCondOfSaid : Prop := fnExactCondOfRow.holds Try.pinned (OpenSpec.ofChange fnExactCondOfSpec)

/-- ITS FALSE NEIGHBOUR: 'it returns false'. Refute it at one input. -/
def fnExactCondOfWrong : ChangeSpec := { name := "fnExactCondOf", fn := fun _ => fun
  | [d1, d2] => { results := [.lit (.bool false)], args := [d1, d2] }
  | _ => none }
def FnExactCondOfWrongFalsely : Prop := fnExactCondOfRow.holds Try.pinned (OpenSpec.ofChange fnExactCondOfWrong)

/-- 'laws.FnExactCarryOf': WHATEVER THE INPUT: true; the input reads as it did. -/
def fnExactCarryOfSpec : ChangeSpec := { name := "fnExactCarryOf", fn := fun _ => fun
  | [d] => { results := [.lit (.bool true)], args := [d] }
  | _ => none }
def fnExactCarryOfRow : OpenClaim := { program := "ytobegcbnjlnifaa", sum := "75a0ca4c162640b0927a6e858b8e430d6f87ada7828c9810f54c69b59ec7cdfb", func := "loop.example/g00389/laws.FnExactCarryOf", spec := "fnExactCarryOf", unfollowed := true, recurses := true, apart := false }
def FnExactCarryOfSaid : Prop := fnExactCarryOfRow.holds Try.pinned (OpenSpec.ofChange fnExactCarryOfSpec)

/-- ITS FALSE NEIGHBOUR: 'it returns false'. Refute it at one input. -/
def fnExactCarryOfWrong : ChangeSpec := { name := "fnExactCarryOf", fn := fun _ => fun
  | [d] => { results := [.lit (.bool false)], args := [d] }
  | _ => none }
def FnExactCarryOfWrongFalsely : Prop := fnExactCarryOfRow.holds Try.pinned (OpenSpec.ofChange fnExactCarryOfWrong)

/- THE SECOND FORM. 'bulk': how many values and letters a reading holds, each counted each time it is reached (what is shared counts as often as it is met; a slice's spare places count too). A statement '..UptoSaid' is the law's where the arguments, and the package variables that the reading takes, are together of bulk at most 1048576: NARROWER than '..Said'. Prove '..Said' where nothing that the law and all that it calls make is longer than what came in: it says more and counts as full. Else prove '..UptoSaid'. A law counts once. -/
mutual
def uptoBulk {H : Type} : DataW H → Nat
  | .lit (.string bytes) => bytes.length + 1
  | .lit _ => 1
  | .nil => 1
  | .ptr d => uptoBulk d + 1
  | .slice elems spare => uptoBulkAll elems + uptoBulkAll spare + 1
  | .agg parts => uptoBulkAll parts + 1
  | .iface _ d => uptoBulk d + 1
  | .map entries => uptoBulkEntries entries + 1
  | .held _ => 1
def uptoBulkAll {H : Type} : List (DataW H) → Nat
  | [] => 0
  | d :: r => uptoBulk d + uptoBulkAll r
def uptoBulkEntries {H : Type} : List (Lit × DataW H) → Nat
  | [] => 0
  | x :: r => uptoBulkEntry x + uptoBulkEntries r
def uptoBulkEntry {H : Type} : Lit × DataW H → Nat
  | (.string bytes, d) => bytes.length + uptoBulk d + 1
  | (_, d) => uptoBulk d + 1
 end
def uptoSmall : (H : Type) → List (DataW H) → Bool := fun _ ds => decide (uptoBulkAll ds ≤ 1048576)
def OpenSpec.upto (s : _root_.Go.ChangeSpec) : _root_.Go.OpenSpec := { _root_.Go.OpenSpec.ofChange s with cond := some uptoSmall }

/-- 'laws.FnLazy', WHERE WHAT IT READS IS OF BULK AT MOST 1048576: true; the input reads as it did. -/
def fnLazyUptoRow : OpenClaim := { program := "ytobegcbnjlnifaa", sum := "75a0ca4c162640b0927a6e858b8e430d6f87ada7828c9810f54c69b59ec7cdfb", func := "loop.example/g00389/laws.FnLazy", spec := "fnLazy", unfollowed := true, recurses := true, apart := false, narrowed := true }
def FnLazyUptoSaid : Prop := fnLazyUptoRow.holds Try.pinned (OpenSpec.upto fnLazySpec)

/-- 'laws.FnExactGoodFlagOp', WHERE WHAT IT READS IS OF BULK AT MOST 1048576: true; the input reads as it did. -/
def fnExactGoodFlagOpUptoRow : OpenClaim := { program := "ytobegcbnjlnifaa", sum := "75a0ca4c162640b0927a6e858b8e430d6f87ada7828c9810f54c69b59ec7cdfb", func := "loop.example/g00389/laws.FnExactGoodFlagOp", spec := "fnExactGoodFlagOp", apart := false, narrowed := true }
def FnExactGoodFlagOpUptoSaid : Prop := fnExactGoodFlagOpUptoRow.holds Try.pinned (OpenSpec.upto fnExactGoodFlagOpSpec)

/-- 'laws.FnExactEagerFlags', WHERE WHAT IT READS IS OF BULK AT MOST 1048576: true; the input reads as it did. -/
def fnExactEagerFlagsUptoRow : OpenClaim := { program := "ytobegcbnjlnifaa", sum := "75a0ca4c162640b0927a6e858b8e430d6f87ada7828c9810f54c69b59ec7cdfb", func := "loop.example/g00389/laws.FnExactEagerFlags", spec := "fnExactEagerFlags", unfollowed := true, recurses := true, apart := false, narrowed := true }
def FnExactEagerFlagsUptoSaid : Prop := fnExactEagerFlagsUptoRow.holds Try.pinned (OpenSpec.upto fnExactEagerFlagsSpec)

/-- 'laws.FnExactLazyFlags', WHERE WHAT IT READS IS OF BULK AT MOST 1048576: true; the input reads as it did. -/
def fnExactLazyFlagsUptoRow : OpenClaim := { program := "ytobegcbnjlnifaa", sum := "75a0ca4c162640b0927a6e858b8e430d6f87ada7828c9810f54c69b59ec7cdfb", func := "loop.example/g00389/laws.FnExactLazyFlags", spec := "fnExactLazyFlags", apart := false, narrowed := true }
def FnExactLazyFlagsUptoSaid : Prop := fnExactLazyFlagsUptoRow.holds Try.pinned (OpenSpec.upto fnExactLazyFlagsSpec)

/-- 'laws.FnExactGoodLazy', WHERE WHAT IT READS IS OF BULK AT MOST 1048576: true; the input reads as it did. -/
def fnExactGoodLazyUptoRow : OpenClaim := { program := "ytobegcbnjlnifaa", sum := "75a0ca4c162640b0927a6e858b8e430d6f87ada7828c9810f54c69b59ec7cdfb", func := "loop.example/g00389/laws.FnExactGoodLazy", spec := "fnExactGoodLazy", apart := false, narrowed := true }
def FnExactGoodLazyUptoSaid : Prop := fnExactGoodLazyUptoRow.holds Try.pinned (OpenSpec.upto fnExactGoodLazySpec)

/-- 'laws.FnExactNoteFlagOp', WHERE WHAT IT READS IS OF BULK AT MOST 1048576: true; the input reads as it did. -/
def fnExactNoteFlagOpUptoRow : OpenClaim := { program := "ytobegcbnjlnifaa", sum := "75a0ca4c162640b0927a6e858b8e430d6f87ada7828c9810f54c69b59ec7cdfb", func := "loop.example/g00389/laws.FnExactNoteFlagOp", spec := "fnExactNoteFlagOp", apart := false, narrowed := true }
def FnExactNoteFlagOpUptoSaid : Prop := fnExactNoteFlagOpUptoRow.holds Try.pinned (OpenSpec.upto fnExactNoteFlagOpSpec)

/-- 'laws.FnExactFlagsOf', WHERE WHAT IT READS IS OF BULK AT MOST 1048576: true; the input reads as it did. -/
def fnExactFlagsOfUptoRow : OpenClaim := { program := "ytobegcbnjlnifaa", sum := "75a0ca4c162640b0927a6e858b8e430d6f87ada7828c9810f54c69b59ec7cdfb", func := "loop.example/g00389/laws.FnExactFlagsOf", spec := "fnExactFlagsOf", unfollowed := true, recurses := true, apart := false, narrowed := true }
def FnExactFlagsOfUptoSaid : Prop := fnExactFlagsOfUptoRow.holds Try.pinned (OpenSpec.upto fnExactFlagsOfSpec)

/-- 'laws.FnExactCondOf', WHERE WHAT IT READS IS OF BULK AT MOST 1048576: true; the input reads as it did. -/
def fnExactCondOfUptoRow : OpenClaim := { program := "ytobegcbnjlnifaa", sum := "75a0ca4c162640b0927a6e858b8e430d6f87ada7828c9810f54c69b59ec7cdfb", func := "loop.example/g00389/laws.FnExactCondOf", spec := "fnExactCondOf", unfollowed := true, recurses := true, apart := false, narrowed := true }
def FnExactCondOfUptoSaid : Prop := fnExactCondOfUptoRow.holds Try.pinned (OpenSpec.upto fnExactCondOfSpec)

/-- 'laws.FnExactCarryOf', WHERE WHAT IT READS IS OF BULK AT MOST 1048576: true; the input reads as it did. -/
def fnExactCarryOfUptoRow : OpenClaim := { program := "ytobegcbnjlnifaa", sum := "75a0ca4c162640b0927a6e858b8e430d6f87ada7828c9810f54c69b59ec7cdfb", func := "loop.example/g00389/laws.FnExactCarryOf", spec := "fnExactCarryOf", unfollowed := true, recurses := true, apart := false, narrowed := true }
def FnExactCarryOfUptoSaid : Prop := fnExactCarryOfUptoRow.holds Try.pinned (OpenSpec.upto fnExactCarryOfSpec)

end Rows
end Go.Proofs.Ytobegcbnjlnifaa
