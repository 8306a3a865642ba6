/-
  No cell of these rows narrows 'for every input' (looked for: loops, veiled, ifaces, maps, wideKeys, modest, calm, conditions, laid).
  DERIVED. THE GIVEN ROWS OF THIS SEAT. 6 by the template 'for every input the law returns true; each argument reads behind the call as it read before'; 0 by the template 'total and deterministic' (their statements: YtloaedfoecjalaaTotals.lean).
  GIVEN WITH THE SEED: the statements are not yours to turn. If you find one false, say at which input.
  Laid BY PROGRAM, IN A SANDBOX (cutbox-rows.mjs): the forced cells as the released guide's own fill.sh prints them over the translation b4ee73d1e4d00fe3… (all of the seat's roots in one cut). By AI agents, Wed Nov 11 2026. No macro, syntax, notation, axiom, sorry.
-/
import Derived.Test.YtloaedfoecjalaaChecked
import GoSem.Claim
import GoSem.ClaimJoined
import GoSem.ClaimMapViews
import Derived.JoinedTies
import Derived.KernelRfl
namespace Go.Proofs.Ytloaedfoecjalaa
/- THE CELL 'sum', in the pinned program and in every row, IS THE sha256 OF THE DUMP (.gsa) THAT YtloaedfoecjalaaProg.lean LOADS. Nothing in Lean hashes anything: it is a label: what it is worth is what the hold of that sum in a sandbox is worth. -/
noncomputable def Try.pinned : Pinned := { name := "ytloaedfoecjalaa", sum := "b4ee73d1e4d00fe359765d9fe44d0d13476cc8fd2448e2b7a7fd0f64758b60bf", checked := Try.checked }
namespace Rows
def none {H : Type} : Left H := { results := [], args := [] }

/-- 'laws.FnExactSetsOf': WHATEVER THE INPUT: true; the input reads as it did. -/
def fnExactSetsOfSpec : ChangeSpec := { name := "fnExactSetsOf", fn := fun _ => fun
  | [d] => { results := [.lit (.bool true)], args := [d] }
  | _ => none }
def fnExactSetsOfRow : OpenClaim := { program := "ytloaedfoecjalaa", sum := "b4ee73d1e4d00fe359765d9fe44d0d13476cc8fd2448e2b7a7fd0f64758b60bf", func := "loop.example/g00389/laws.FnExactSetsOf", spec := "fnExactSetsOf", unfollowed := true, recurses := true, apart := false }
def FnExactSetsOfSaid : Prop := fnExactSetsOfRow.holds Try.pinned (OpenSpec.ofChange fnExactSetsOfSpec)

/-- ITS FALSE NEIGHBOUR: 'it returns false'. Refute it at one input. -/
def fnExactSetsOfWrong : ChangeSpec := { name := "fnExactSetsOf", fn := fun _ => fun
  | [d] => { results := [.lit (.bool false)], args := [d] }
  | _ => none }
def FnExactSetsOfWrongFalsely : Prop := fnExactSetsOfRow.holds Try.pinned (OpenSpec.ofChange fnExactSetsOfWrong)

/-- 'laws.FnExactReadsOf': WHATEVER THE INPUT: true; the input reads as it did. -/
def fnExactReadsOfSpec : ChangeSpec := { name := "fnExactReadsOf", fn := fun _ => fun
  | [d] => { results := [.lit (.bool true)], args := [d] }
  | _ => none }
def fnExactReadsOfRow : OpenClaim := { program := "ytloaedfoecjalaa", sum := "b4ee73d1e4d00fe359765d9fe44d0d13476cc8fd2448e2b7a7fd0f64758b60bf", func := "loop.example/g00389/laws.FnExactReadsOf", spec := "fnExactReadsOf", unfollowed := true, recurses := true, apart := false }
def FnExactReadsOfSaid : Prop := fnExactReadsOfRow.holds Try.pinned (OpenSpec.ofChange fnExactReadsOfSpec)

/-- ITS FALSE NEIGHBOUR: 'it returns false'. Refute it at one input. -/
def fnExactReadsOfWrong : ChangeSpec := { name := "fnExactReadsOf", fn := fun _ => fun
  | [d] => { results := [.lit (.bool false)], args := [d] }
  | _ => none }
def FnExactReadsOfWrongFalsely : Prop := fnExactReadsOfRow.holds Try.pinned (OpenSpec.ofChange fnExactReadsOfWrong)

/-- 'laws.FnExactMayFault': WHATEVER THE INPUT: true; the input reads as it did. -/
def fnExactMayFaultSpec : ChangeSpec := { name := "fnExactMayFault", fn := fun _ => fun
  | [d] => { results := [.lit (.bool true)], args := [d] }
  | _ => none }
def fnExactMayFaultRow : OpenClaim := { program := "ytloaedfoecjalaa", sum := "b4ee73d1e4d00fe359765d9fe44d0d13476cc8fd2448e2b7a7fd0f64758b60bf", func := "loop.example/g00389/laws.FnExactMayFault", spec := "fnExactMayFault", unfollowed := true, recurses := true, apart := false }
def FnExactMayFaultSaid : Prop := fnExactMayFaultRow.holds Try.pinned (OpenSpec.ofChange fnExactMayFaultSpec)

/-- ITS FALSE NEIGHBOUR: 'it returns false'. Refute it at one input. -/
def fnExactMayFaultWrong : ChangeSpec := { name := "fnExactMayFault", fn := fun _ => fun
  | [d] => { results := [.lit (.bool false)], args := [d] }
  | _ => none }
def FnExactMayFaultWrongFalsely : Prop := fnExactMayFaultRow.holds Try.pinned (OpenSpec.ofChange fnExactMayFaultWrong)

/-- 'laws.FnExactMayWrite': WHATEVER THE INPUT: true; the input reads as it did. -/
def fnExactMayWriteSpec : ChangeSpec := { name := "fnExactMayWrite", fn := fun _ => fun
  | [d] => { results := [.lit (.bool true)], args := [d] }
  | _ => none }
def fnExactMayWriteRow : OpenClaim := { program := "ytloaedfoecjalaa", sum := "b4ee73d1e4d00fe359765d9fe44d0d13476cc8fd2448e2b7a7fd0f64758b60bf", func := "loop.example/g00389/laws.FnExactMayWrite", spec := "fnExactMayWrite", unfollowed := true, recurses := true, apart := false }
def FnExactMayWriteSaid : Prop := fnExactMayWriteRow.holds Try.pinned (OpenSpec.ofChange fnExactMayWriteSpec)

/-- ITS FALSE NEIGHBOUR: 'it returns false'. Refute it at one input. -/
def fnExactMayWriteWrong : ChangeSpec := { name := "fnExactMayWrite", fn := fun _ => fun
  | [d] => { results := [.lit (.bool false)], args := [d] }
  | _ => none }
def FnExactMayWriteWrongFalsely : Prop := fnExactMayWriteRow.holds Try.pinned (OpenSpec.ofChange fnExactMayWriteWrong)

/-- 'laws.FnExactDeadFlags': WHATEVER THE INPUT: true; the input reads as it did. -/
def fnExactDeadFlagsSpec : ChangeSpec := { name := "fnExactDeadFlags", fn := fun _ => fun
  | [d] => { results := [.lit (.bool true)], args := [d] }
  | _ => none }
def fnExactDeadFlagsRow : OpenClaim := { program := "ytloaedfoecjalaa", sum := "b4ee73d1e4d00fe359765d9fe44d0d13476cc8fd2448e2b7a7fd0f64758b60bf", func := "loop.example/g00389/laws.FnExactDeadFlags", spec := "fnExactDeadFlags", unfollowed := true, recurses := true, apart := false }
def FnExactDeadFlagsSaid : Prop := fnExactDeadFlagsRow.holds Try.pinned (OpenSpec.ofChange fnExactDeadFlagsSpec)

/-- ITS FALSE NEIGHBOUR: 'it returns false'. Refute it at one input. -/
def fnExactDeadFlagsWrong : ChangeSpec := { name := "fnExactDeadFlags", fn := fun _ => fun
  | [d] => { results := [.lit (.bool false)], args := [d] }
  | _ => none }
def FnExactDeadFlagsWrongFalsely : Prop := fnExactDeadFlagsRow.holds Try.pinned (OpenSpec.ofChange fnExactDeadFlagsWrong)

/-- 'laws.FnExactIsStraight': WHATEVER THE INPUT: true; the input reads as it did. -/
def fnExactIsStraightSpec : ChangeSpec := { name := "fnExactIsStraight", fn := fun _ => fun
  | [d] => { results := [.lit (.bool true)], args := [d] }
  | _ => none }
def fnExactIsStraightRow : OpenClaim := { program := "ytloaedfoecjalaa", sum := "b4ee73d1e4d00fe359765d9fe44d0d13476cc8fd2448e2b7a7fd0f64758b60bf", func := "loop.example/g00389/laws.FnExactIsStraight", spec := "fnExactIsStraight", unfollowed := true, recurses := true, apart := false }
def FnExactIsStraightSaid : Prop := fnExactIsStraightRow.holds Try.pinned (OpenSpec.ofChange fnExactIsStraightSpec)

/-- ITS FALSE NEIGHBOUR: 'it returns false'. Refute it at one input. -/
def fnExactIsStraightWrong : ChangeSpec := { name := "fnExactIsStraight", fn := fun _ => fun
  | [d] => { results := [.lit (.bool false)], args := [d] }
  | _ => none }
def FnExactIsStraightWrongFalsely : Prop := fnExactIsStraightRow.holds Try.pinned (OpenSpec.ofChange fnExactIsStraightWrong)

/- THE SECOND FORM. 'bulk': how many values and letters a reading holds, each counted each time it is reached (what is shared counts as often as it is met; a slice's spare places count too). A statement '..UptoSaid' is the law's where the arguments, and the package variables that the reading takes, are together of bulk at most 1048576: NARROWER than '..Said'. Prove '..Said' where nothing that the law and all that it calls make is longer than what came in: it says more and counts as full. Else prove '..UptoSaid'. A law counts once. -/
mutual
def uptoBulk {H : Type} : DataW H → Nat
  | .lit (.string bytes) => bytes.length + 1
  | .lit _ => 1
  | .nil => 1
  | .ptr d => uptoBulk d + 1
  | .slice elems spare => uptoBulkAll elems + uptoBulkAll spare + 1
  | .agg parts => uptoBulkAll parts + 1
  | .iface _ d => uptoBulk d + 1
  | .map entries => uptoBulkEntries entries + 1
  | .held _ => 1
def uptoBulkAll {H : Type} : List (DataW H) → Nat
  | [] => 0
  | d :: r => uptoBulk d + uptoBulkAll r
def uptoBulkEntries {H : Type} : List (Lit × DataW H) → Nat
  | [] => 0
  | x :: r => uptoBulkEntry x + uptoBulkEntries r
def uptoBulkEntry {H : Type} : Lit × DataW H → Nat
  | (.string bytes, d) => bytes.length + uptoBulk d + 1
  | (_, d) => uptoBulk d + 1
 end
def uptoSmall : (H : Type) → List (DataW H) → Bool := fun _ ds => decide (uptoBulkAll ds ≤ 1048576)
def OpenSpec.upto (s : _root_.Go.ChangeSpec) : _root_.Go.OpenSpec := { _root_.Go.OpenSpec.ofChange s with cond := some uptoSmall }

/-- 'laws.FnExactSetsOf', WHERE WHAT IT READS IS OF BULK AT MOST 1048576: true; the input reads as it did. -/
def fnExactSetsOfUptoRow : OpenClaim := { program := "ytloaedfoecjalaa", sum := "b4ee73d1e4d00fe359765d9fe44d0d13476cc8fd2448e2b7a7fd0f64758b60bf", func := "loop.example/g00389/laws.FnExactSetsOf", spec := "fnExactSetsOf", unfollowed := true, recurses := true, apart := false, narrowed := true }
def FnExactSetsOfUptoSaid : Prop := fnExactSetsOfUptoRow.holds Try.pinned (OpenSpec.upto fnExactSetsOfSpec)

/-- 'laws.FnExactReadsOf', WHERE WHAT IT READS IS OF BULK AT MOST 1048576: true; the input reads as it did. -/
def fnExactReadsOfUptoRow : OpenClaim := { program := "ytloaedfoecjalaa", sum := "b4ee73d1e4d00fe359765d9fe44d0d13476cc8fd2448e2b7a7fd0f64758b60bf", func := "loop.example/g00389/laws.FnExactReadsOf", spec := "fnExactReadsOf", unfollowed := true, recurses := true, apart := false, narrowed := true }
def FnExactReadsOfUptoSaid : Prop := fnExactReadsOfUptoRow.holds Try.pinned (OpenSpec.upto fnExactReadsOfSpec)

/-- 'laws.FnExactMayFault', WHERE WHAT IT READS IS OF BULK AT MOST 1048576: true; the input reads as it did. -/
def fnExactMayFaultUptoRow : OpenClaim := { program := "ytloaedfoecjalaa", sum := "b4ee73d1e4d00fe359765d9fe44d0d13476cc8fd2448e2b7a7fd0f64758b60bf", func := "loop.example/g00389/laws.FnExactMayFault", spec := "fnExactMayFault", unfollowed := true, recurses := true, apart := false, narrowed := true }
def FnExactMayFaultUptoSaid : Prop := fnExactMayFaultUptoRow.holds Try.pinned (OpenSpec.upto fnExactMayFaultSpec)

/-- 'laws.FnExactMayWrite', WHERE WHAT IT READS IS OF BULK AT MOST 1048576: true; the input reads as it did. -/
def fnExactMayWriteUptoRow : OpenClaim := { program := "ytloaedfoecjalaa", sum := "b4ee73d1e4d00fe359765d9fe44d0d13476cc8fd2448e2b7a7fd0f64758b60bf", func := "loop.example/g00389/laws.FnExactMayWrite", spec := "fnExactMayWrite", unfollowed := true, recurses := true, apart := false, narrowed := true }
def FnExactMayWriteUptoSaid : Prop := fnExactMayWriteUptoRow.holds Try.pinned (OpenSpec.upto fnExactMayWriteSpec)

/-- 'laws.FnExactDeadFlags', WHERE WHAT IT READS IS OF BULK AT MOST 1048576: true; the input reads as it did. -/
def fnExactDeadFlagsUptoRow : OpenClaim := { program := "ytloaedfoecjalaa", sum := "b4ee73d1e4d00fe359765d9fe44d0d13476cc8fd2448e2b7a7fd0f64758b60bf", func := "loop.example/g00389/laws.FnExactDeadFlags", spec := "fnExactDeadFlags", unfollowed := true, recurses := true, apart := false, narrowed := true }
def FnExactDeadFlagsUptoSaid : Prop := fnExactDeadFlagsUptoRow.holds Try.pinned (OpenSpec.upto fnExactDeadFlagsSpec)

/-- 'laws.FnExactIsStraight', WHERE WHAT IT READS IS OF BULK AT MOST 1048576: true; the input reads as it did. -/
def fnExactIsStraightUptoRow : OpenClaim := { program := "ytloaedfoecjalaa", sum := "b4ee73d1e4d00fe359765d9fe44d0d13476cc8fd2448e2b7a7fd0f64758b60bf", func := "loop.example/g00389/laws.FnExactIsStraight", spec := "fnExactIsStraight", unfollowed := true, recurses := true, apart := false, narrowed := true }
def FnExactIsStraightUptoSaid : Prop := fnExactIsStraightUptoRow.holds Try.pinned (OpenSpec.upto fnExactIsStraightSpec)

end Rows
end Go.Proofs.Ytloaedfoecjalaa
