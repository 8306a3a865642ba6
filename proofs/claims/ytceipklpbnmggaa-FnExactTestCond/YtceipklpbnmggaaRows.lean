/-
  No cell of these rows narrows 'for every input' (looked for: loops, veiled, ifaces, maps, wideKeys, modest, calm, conditions, laid).
  DERIVED. THE GIVEN ROWS OF THIS SEAT. 7 by the template 'for every input the law returns true; each argument reads behind the call as it read before'; 0 by the template 'total and deterministic' (their statements: YtceipklpbnmggaaTotals.lean).
  GIVEN WITH THE SEED: the statements are not yours to turn. If you find one false, say at which input.
  Laid BY PROGRAM, IN A SANDBOX (cutbox-rows.mjs): the forced cells as the released guide's own fill.sh prints them over the translation ee8b888442586cdb… (all of the seat's roots in one cut). By AI agents, Wed Nov 11 2026. No macro, syntax, notation, axiom, sorry.
-/
import Derived.Test.YtceipklpbnmggaaChecked
import GoSem.Claim
import GoSem.ClaimJoined
import GoSem.ClaimMapViews
import Derived.JoinedTies
import Derived.KernelRfl
namespace Go.Proofs.Ytceipklpbnmggaa
/- THE CELL 'sum', in the pinned program and in every row, IS THE sha256 OF THE DUMP (.gsa) THAT YtceipklpbnmggaaProg.lean LOADS. Nothing in Lean hashes anything: it is a label: what it is worth is what the hold of that sum in a sandbox is worth. -/
noncomputable def Try.pinned : Pinned := { name := "ytceipklpbnmggaa", sum := "ee8b888442586cdbfc1a67ff9acfb6f4ade06bef198f27c957522da314a2b066", checked := Try.checked }
namespace Rows
def none {H : Type} : Left H := { results := [], args := [] }

/-- 'laws.FnConds': WHATEVER THE INPUT: true; the input reads as it did. -/
def fnCondsSpec : ChangeSpec := { name := "fnConds", fn := fun _ => fun
  | [d1, d2] => { results := [.lit (.bool true)], args := [d1, d2] }
  | _ => none }
def fnCondsRow : OpenClaim := { program := "ytceipklpbnmggaa", sum := "ee8b888442586cdbfc1a67ff9acfb6f4ade06bef198f27c957522da314a2b066", func := "loop.example/g00389/laws.FnConds", spec := "fnConds", unfollowed := true, recurses := true, apart := false }
def FnCondsSaid : Prop := fnCondsRow.holds Try.pinned (OpenSpec.ofChange fnCondsSpec)

/-- ITS FALSE NEIGHBOUR: 'it returns false'. Refute it at one input. -/
def fnCondsWrong : ChangeSpec := { name := "fnConds", fn := fun _ => fun
  | [d1, d2] => { results := [.lit (.bool false)], args := [d1, d2] }
  | _ => none }
def FnCondsWrongFalsely : Prop := fnCondsRow.holds Try.pinned (OpenSpec.ofChange fnCondsWrong)

/-- 'laws.FnCompared': WHATEVER THE INPUT: true; the input reads as it did. -/
def fnComparedSpec : ChangeSpec := { name := "fnCompared", fn := fun _ => fun
  | [d] => { results := [.lit (.bool true)], args := [d] }
  | _ => none }
def fnComparedRow : OpenClaim := { program := "ytceipklpbnmggaa", sum := "ee8b888442586cdbfc1a67ff9acfb6f4ade06bef198f27c957522da314a2b066", func := "loop.example/g00389/laws.FnCompared", spec := "fnCompared", unfollowed := true, recurses := true, apart := false }
def FnComparedSaid : Prop := fnComparedRow.holds Try.pinned (OpenSpec.ofChange fnComparedSpec)

/-- ITS FALSE NEIGHBOUR: 'it returns false'. Refute it at one input. -/
def fnComparedWrong : ChangeSpec := { name := "fnCompared", fn := fun _ => fun
  | [d] => { results := [.lit (.bool false)], args := [d] }
  | _ => none }
def FnComparedWrongFalsely : Prop := fnComparedRow.holds Try.pinned (OpenSpec.ofChange fnComparedWrong)

/-- 'laws.FnExactTestCond': WHATEVER THE INPUT: true; the input reads as it did. -/
def fnExactTestCondSpec : ChangeSpec := { name := "fnExactTestCond", fn := fun _ => fun
  | [d1, d2] => { results := [.lit (.bool true)], args := [d1, d2] }
  | _ => none }
def fnExactTestCondRow : OpenClaim := { program := "ytceipklpbnmggaa", sum := "ee8b888442586cdbfc1a67ff9acfb6f4ade06bef198f27c957522da314a2b066", func := "loop.example/g00389/laws.FnExactTestCond", spec := "fnExactTestCond", unfollowed := true, recurses := true, apart := false }
def FnExactTestCondSaid : Prop := fnExactTestCondRow.holds Try.pinned (OpenSpec.ofChange fnExactTestCondSpec)

/-- ITS FALSE NEIGHBOUR: 'it returns false'. Refute it at one input. -/
def fnExactTestCondWrong : ChangeSpec := { name := "fnExactTestCond", fn := fun _ => fun
  | [d1, d2] => { results := [.lit (.bool false)], args := [d1, d2] }
  | _ => none }
def FnExactTestCondWrongFalsely : Prop := fnExactTestCondRow.holds Try.pinned (OpenSpec.ofChange fnExactTestCondWrong)

/-- 'laws.FnExactNeedsOf': WHATEVER THE INPUT: true; the input reads as it did. -/
def fnExactNeedsOfSpec : ChangeSpec := { name := "fnExactNeedsOf", fn := fun _ => fun
  | [d] => { results := [.lit (.bool true)], args := [d] }
  | _ => none }
def fnExactNeedsOfRow : OpenClaim := { program := "ytceipklpbnmggaa", sum := "ee8b888442586cdbfc1a67ff9acfb6f4ade06bef198f27c957522da314a2b066", func := "loop.example/g00389/laws.FnExactNeedsOf", spec := "fnExactNeedsOf", apart := false }
def FnExactNeedsOfSaid : Prop := fnExactNeedsOfRow.holds Try.pinned (OpenSpec.ofChange fnExactNeedsOfSpec)

/-- ITS FALSE NEIGHBOUR: 'it returns false'. Refute it at one input. -/
def fnExactNeedsOfWrong : ChangeSpec := { name := "fnExactNeedsOf", fn := fun _ => fun
  | [d] => { results := [.lit (.bool false)], args := [d] }
  | _ => none }
def FnExactNeedsOfWrongFalsely : Prop := fnExactNeedsOfRow.holds Try.pinned (OpenSpec.ofChange fnExactNeedsOfWrong)

/-- 'laws.FnExactCondFor': WHATEVER THE INPUT: true; the input reads as it did. -/
def fnExactCondForSpec : ChangeSpec := { name := "fnExactCondFor", fn := fun _ => fun
  | [d1, d2, d3] => { results := [.lit (.bool true)], args := [d1, d2, d3] }
  | _ => none }
def fnExactCondForRow : OpenClaim := { program := "ytceipklpbnmggaa", sum := "ee8b888442586cdbfc1a67ff9acfb6f4ade06bef198f27c957522da314a2b066", func := "loop.example/g00389/laws.FnExactCondFor", spec := "fnExactCondFor", unfollowed := true, recurses := true, apart := false }
def FnExactCondForSaid : Prop := fnExactCondForRow.holds Try.pinned (OpenSpec.ofChange fnExactCondForSpec)

/-- ITS FALSE NEIGHBOUR: 'it returns false'. Refute it at one input. -/
def fnExactCondForWrong : ChangeSpec := { name := "fnExactCondFor", fn := fun _ => fun
  | [d1, d2, d3] => { results := [.lit (.bool false)], args := [d1, d2, d3] }
  | _ => none }
def FnExactCondForWrongFalsely : Prop := fnExactCondForRow.holds Try.pinned (OpenSpec.ofChange fnExactCondForWrong)

/-- 'laws.FnExactContraryOf': WHATEVER THE INPUT: true; the input reads as it did. -/
def fnExactContraryOfSpec : ChangeSpec := { name := "fnExactContraryOf", fn := fun _ => fun
  | [d] => { results := [.lit (.bool true)], args := [d] }
  | _ => none }
def fnExactContraryOfRow : OpenClaim := { program := "ytceipklpbnmggaa", sum := "ee8b888442586cdbfc1a67ff9acfb6f4ade06bef198f27c957522da314a2b066", func := "loop.example/g00389/laws.FnExactContraryOf", spec := "fnExactContraryOf", apart := false }
def FnExactContraryOfSaid : Prop := fnExactContraryOfRow.holds Try.pinned (OpenSpec.ofChange fnExactContraryOfSpec)

/-- ITS FALSE NEIGHBOUR: 'it returns false'. Refute it at one input. -/
def fnExactContraryOfWrong : ChangeSpec := { name := "fnExactContraryOf", fn := fun _ => fun
  | [d] => { results := [.lit (.bool false)], args := [d] }
  | _ => none }
def FnExactContraryOfWrongFalsely : Prop := fnExactContraryOfRow.holds Try.pinned (OpenSpec.ofChange fnExactContraryOfWrong)

/-- 'laws.FnExactCountTrue': WHATEVER THE INPUT: true; the input reads as it did. -/
def fnExactCountTrueSpec : ChangeSpec := { name := "fnExactCountTrue", fn := fun _ => fun
  | [d] => { results := [.lit (.bool true)], args := [d] }
  | _ => none }
def fnExactCountTrueRow : OpenClaim := { program := "ytceipklpbnmggaa", sum := "ee8b888442586cdbfc1a67ff9acfb6f4ade06bef198f27c957522da314a2b066", func := "loop.example/g00389/laws.FnExactCountTrue", spec := "fnExactCountTrue", unfollowed := true, recurses := true, apart := false }
def FnExactCountTrueSaid : Prop := fnExactCountTrueRow.holds Try.pinned (OpenSpec.ofChange fnExactCountTrueSpec)

/-- ITS FALSE NEIGHBOUR: 'it returns false'. Refute it at one input. -/
def fnExactCountTrueWrong : ChangeSpec := { name := "fnExactCountTrue", fn := fun _ => fun
  | [d] => { results := [.lit (.bool false)], args := [d] }
  | _ => none }
def FnExactCountTrueWrongFalsely : Prop := fnExactCountTrueRow.holds Try.pinned (OpenSpec.ofChange fnExactCountTrueWrong)

/- THE SECOND FORM. 'bulk': how many values and letters a reading holds, each counted each time it is reached (what is shared counts as often as it is met; a slice's spare places count too). A statement '..UptoSaid' is the law's where the arguments, and the package variables that the reading takes, are together of bulk at most 1048576: NARROWER than '..Said'. Prove '..Said' where nothing that the law and all that it calls make is longer than what came in: it says more and counts as full. Else prove '..UptoSaid'. A law counts once. -/
mutual
def uptoBulk {H : Type} : DataW H → Nat
  | .lit (.string bytes) => bytes.length + 1
  | .lit _ => 1
  | .nil => 1
  | .ptr d => uptoBulk d + 1
  | .slice elems spare => uptoBulkAll elems + uptoBulkAll spare + 1
  | .agg parts => uptoBulkAll parts + 1
  | .iface _ d => uptoBulk d + 1
  | .map entries => uptoBulkEntries entries + 1
  | .held _ => 1
def uptoBulkAll {H : Type} : List (DataW H) → Nat
  | [] => 0
  | d :: r => uptoBulk d + uptoBulkAll r
def uptoBulkEntries {H : Type} : List (Lit × DataW H) → Nat
  | [] => 0
  | x :: r => uptoBulkEntry x + uptoBulkEntries r
def uptoBulkEntry {H : Type} : Lit × DataW H → Nat
  | (.string bytes, d) => bytes.length + uptoBulk d + 1
  | (_, d) => uptoBulk d + 1
 end
def uptoSmall : (H : Type) → List (DataW H) → Bool := fun _ ds => decide (uptoBulkAll ds ≤ 1048576)
def OpenSpec.upto (s : _root_.Go.ChangeSpec) : _root_.Go.OpenSpec := { _root_.Go.OpenSpec.ofChange s with cond := some uptoSmall }

/-- 'laws.FnConds', WHERE WHAT IT READS IS OF BULK AT MOST 1048576: true; the input reads as it did. -/
def fnCondsUptoRow : OpenClaim := { program := "ytceipklpbnmggaa", sum := "ee8b888442586cdbfc1a67ff9acfb6f4ade06bef198f27c957522da314a2b066", func := "loop.example/g00389/laws.FnConds", spec := "fnConds", unfollowed := true, recurses := true, apart := false, narrowed := true }
def FnCondsUptoSaid : Prop := fnCondsUptoRow.holds Try.pinned (OpenSpec.upto fnCondsSpec)

/-- 'laws.FnCompared', WHERE WHAT IT READS IS OF BULK AT MOST 1048576: true; the input reads as it did. -/
def fnComparedUptoRow : OpenClaim := { program := "ytceipklpbnmggaa", sum := "ee8b888442586cdbfc1a67ff9acfb6f4ade06bef198f27c957522da314a2b066", func := "loop.example/g00389/laws.FnCompared", spec := "fnCompared", unfollowed := true, recurses := true, apart := false, narrowed := true }
def FnComparedUptoSaid : Prop := fnComparedUptoRow.holds Try.pinned (OpenSpec.upto fnComparedSpec)

/-- 'laws.FnExactTestCond', WHERE WHAT IT READS IS OF BULK AT MOST 1048576: true; the input reads as it did. -/
def fnExactTestCondUptoRow : OpenClaim := { program := "ytceipklpbnmggaa", sum := "ee8b888442586cdbfc1a67ff9acfb6f4ade06bef198f27c957522da314a2b066", func := "loop.example/g00389/laws.FnExactTestCond", spec := "fnExactTestCond", unfollowed := true, recurses := true, apart := false, narrowed := true }
def FnExactTestCondUptoSaid : Prop := fnExactTestCondUptoRow.holds Try.pinned (OpenSpec.upto fnExactTestCondSpec)

/-- 'laws.FnExactNeedsOf', WHERE WHAT IT READS IS OF BULK AT MOST 1048576: true; the input reads as it did. -/
def fnExactNeedsOfUptoRow : OpenClaim := { program := "ytceipklpbnmggaa", sum := "ee8b888442586cdbfc1a67ff9acfb6f4ade06bef198f27c957522da314a2b066", func := "loop.example/g00389/laws.FnExactNeedsOf", spec := "fnExactNeedsOf", apart := false, narrowed := true }
def FnExactNeedsOfUptoSaid : Prop := fnExactNeedsOfUptoRow.holds Try.pinned (OpenSpec.upto fnExactNeedsOfSpec)

/-- 'laws.FnExactCondFor', WHERE WHAT IT READS IS OF BULK AT MOST 1048576: true; the input reads as it did. -/
def fnExactCondForUptoRow : OpenClaim := { program := "ytceipklpbnmggaa", sum := "ee8b888442586cdbfc1a67ff9acfb6f4ade06bef198f27c957522da314a2b066", func := "loop.example/g00389/laws.FnExactCondFor", spec := "fnExactCondFor", unfollowed := true, recurses := true, apart := false, narrowed := true }
def FnExactCondForUptoSaid : Prop := fnExactCondForUptoRow.holds Try.pinned (OpenSpec.upto fnExactCondForSpec)

/-- 'laws.FnExactContraryOf', WHERE WHAT IT READS IS OF BULK AT MOST 1048576: true; the input reads as it did. -/
def fnExactContraryOfUptoRow : OpenClaim := { program := "ytceipklpbnmggaa", sum := "ee8b888442586cdbfc1a67ff9acfb6f4ade06bef198f27c957522da314a2b066", func := "loop.example/g00389/laws.FnExactContraryOf", spec := "fnExactContraryOf", apart := false, narrowed := true }
def FnExactContraryOfUptoSaid : Prop := fnExactContraryOfUptoRow.holds Try.pinned (OpenSpec.upto fnExactContraryOfSpec)

/-- 'laws.FnExactCountTrue', WHERE WHAT IT READS IS OF BULK AT MOST 1048576: true; the input reads as it did. -/
def fnExactCountTrueUptoRow : OpenClaim := { program := "ytceipklpbnmggaa", sum := "ee8b888442586cdbfc1a67ff9acfb6f4ade06bef198f27c957522da314a2b066", func := "loop.example/g00389/laws.FnExactCountTrue", spec := "fnExactCountTrue", unfollowed := true, recurses := true, apart := false, narrowed := true }
def FnExactCountTrueUptoSaid : Prop := fnExactCountTrueUptoRow.holds Try.pinned (OpenSpec.upto fnExactCountTrueSpec)

end Rows
end Go.Proofs.Ytceipklpbnmggaa
