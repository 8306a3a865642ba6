/-
  No cell of these rows narrows 'for every input' (looked for: loops, veiled, ifaces, maps, wideKeys, modest, calm, conditions, laid).
  DERIVED. THE GIVEN ROWS OF THIS SEAT. 10 by the template 'for every input the law returns true; each argument reads behind the call as it read before'; 0 by the template 'total and deterministic' (their statements: YtnmddmmmgdfknaaTotals.lean).
  GIVEN WITH THE SEED: the statements are not yours to turn. If you find one false, say at which input.
  Laid BY PROGRAM, IN A SANDBOX (cutbox-rows.mjs): the forced cells as the released guide's own fill.sh prints them over the translation 0895d375b1b98d76… (all of the seat's roots in one cut). By AI agents, Wed Nov 11 2026. No macro, syntax, notation, axiom, sorry.
-/
import Derived.Test.YtnmddmmmgdfknaaChecked
import GoSem.Claim
import GoSem.ClaimJoined
import GoSem.ClaimMapViews
import Derived.JoinedTies
import Derived.KernelRfl
namespace Go.Proofs.Ytnmddmmmgdfknaa
/- THE CELL 'sum', in the pinned program and in every row, IS THE sha256 OF THE DUMP (.gsa) THAT YtnmddmmmgdfknaaProg.lean LOADS. Nothing in Lean hashes anything: it is a label: what it is worth is what the hold of that sum in a sandbox is worth. -/
noncomputable def Try.pinned : Pinned := { name := "ytnmddmmmgdfknaa", sum := "0895d375b1b98d764eae899be572bcf2ffe7eea7ebdc62e9e032a23ceb6d2ee3", checked := Try.checked }
namespace Rows
def none {H : Type} : Left H := { results := [], args := [] }

/-- 'laws.FnShifts': WHATEVER THE INPUT: true; the input reads as it did. -/
def fnShiftsSpec : ChangeSpec := { name := "fnShifts", fn := fun _ => fun
  | [d1, d2] => { results := [.lit (.bool true)], args := [d1, d2] }
  | _ => none }
def fnShiftsRow : OpenClaim := { program := "ytnmddmmmgdfknaa", sum := "0895d375b1b98d764eae899be572bcf2ffe7eea7ebdc62e9e032a23ceb6d2ee3", func := "loop.example/g00389/laws.FnShifts", spec := "fnShifts", unfollowed := true, recurses := true, apart := false }
def FnShiftsSaid : Prop := fnShiftsRow.holds Try.pinned (OpenSpec.ofChange fnShiftsSpec)

/-- ITS FALSE NEIGHBOUR: 'it returns false'. Refute it at one input. -/
def fnShiftsWrong : ChangeSpec := { name := "fnShifts", fn := fun _ => fun
  | [d1, d2] => { results := [.lit (.bool false)], args := [d1, d2] }
  | _ => none }
def FnShiftsWrongFalsely : Prop := fnShiftsRow.holds Try.pinned (OpenSpec.ofChange fnShiftsWrong)

/-- 'laws.FnRotates': WHATEVER THE INPUT: true; the input reads as it did. -/
def fnRotatesSpec : ChangeSpec := { name := "fnRotates", fn := fun _ => fun
  | [d1, d2] => { results := [.lit (.bool true)], args := [d1, d2] }
  | _ => none }
def fnRotatesRow : OpenClaim := { program := "ytnmddmmmgdfknaa", sum := "0895d375b1b98d764eae899be572bcf2ffe7eea7ebdc62e9e032a23ceb6d2ee3", func := "loop.example/g00389/laws.FnRotates", spec := "fnRotates", unfollowed := true, recurses := true, apart := false }
def FnRotatesSaid : Prop := fnRotatesRow.holds Try.pinned (OpenSpec.ofChange fnRotatesSpec)

/-- ITS FALSE NEIGHBOUR: 'it returns false'. Refute it at one input. -/
def fnRotatesWrong : ChangeSpec := { name := "fnRotates", fn := fun _ => fun
  | [d1, d2] => { results := [.lit (.bool false)], args := [d1, d2] }
  | _ => none }
def FnRotatesWrongFalsely : Prop := fnRotatesRow.holds Try.pinned (OpenSpec.ofChange fnRotatesWrong)

/-- 'laws.FnExactShiftOnce': WHATEVER THE INPUT: true; the input reads as it did. -/
def fnExactShiftOnceSpec : ChangeSpec := { name := "fnExactShiftOnce", fn := fun _ => fun
  | [d1, d2, d3, d4] => { results := [.lit (.bool true)], args := [d1, d2, d3, d4] }
  | _ => none }
def fnExactShiftOnceRow : OpenClaim := { program := "ytnmddmmmgdfknaa", sum := "0895d375b1b98d764eae899be572bcf2ffe7eea7ebdc62e9e032a23ceb6d2ee3", func := "loop.example/g00389/laws.FnExactShiftOnce", spec := "fnExactShiftOnce", unfollowed := true, recurses := true, apart := false }
def FnExactShiftOnceSaid : Prop := fnExactShiftOnceRow.holds Try.pinned (OpenSpec.ofChange fnExactShiftOnceSpec)

/-- ITS FALSE NEIGHBOUR: 'it returns false'. Refute it at one input. -/
def fnExactShiftOnceWrong : ChangeSpec := { name := "fnExactShiftOnce", fn := fun _ => fun
  | [d1, d2, d3, d4] => { results := [.lit (.bool false)], args := [d1, d2, d3, d4] }
  | _ => none }
def FnExactShiftOnceWrongFalsely : Prop := fnExactShiftOnceRow.holds Try.pinned (OpenSpec.ofChange fnExactShiftOnceWrong)

/-- 'laws.FnExactShiftBy': WHATEVER THE INPUT: true; the input reads as it did. -/
def fnExactShiftBySpec : ChangeSpec := { name := "fnExactShiftBy", fn := fun _ => fun
  | [d1, d2, d3, d4, d5] => { results := [.lit (.bool true)], args := [d1, d2, d3, d4, d5] }
  | _ => none }
def fnExactShiftByRow : OpenClaim := { program := "ytnmddmmmgdfknaa", sum := "0895d375b1b98d764eae899be572bcf2ffe7eea7ebdc62e9e032a23ceb6d2ee3", func := "loop.example/g00389/laws.FnExactShiftBy", spec := "fnExactShiftBy", unfollowed := true, recurses := true, apart := false }
def FnExactShiftBySaid : Prop := fnExactShiftByRow.holds Try.pinned (OpenSpec.ofChange fnExactShiftBySpec)

/-- ITS FALSE NEIGHBOUR: 'it returns false'. Refute it at one input. -/
def fnExactShiftByWrong : ChangeSpec := { name := "fnExactShiftBy", fn := fun _ => fun
  | [d1, d2, d3, d4, d5] => { results := [.lit (.bool false)], args := [d1, d2, d3, d4, d5] }
  | _ => none }
def FnExactShiftByWrongFalsely : Prop := fnExactShiftByRow.holds Try.pinned (OpenSpec.ofChange fnExactShiftByWrong)

/-- 'laws.FnExactRotateBack': WHATEVER THE INPUT: true; the input reads as it did. -/
def fnExactRotateBackSpec : ChangeSpec := { name := "fnExactRotateBack", fn := fun _ => fun
  | [d1, d2, d3, d4, d5] => { results := [.lit (.bool true)], args := [d1, d2, d3, d4, d5] }
  | _ => none }
def fnExactRotateBackRow : OpenClaim := { program := "ytnmddmmmgdfknaa", sum := "0895d375b1b98d764eae899be572bcf2ffe7eea7ebdc62e9e032a23ceb6d2ee3", func := "loop.example/g00389/laws.FnExactRotateBack", spec := "fnExactRotateBack", unfollowed := true, recurses := true, apart := false }
def FnExactRotateBackSaid : Prop := fnExactRotateBackRow.holds Try.pinned (OpenSpec.ofChange fnExactRotateBackSpec)

/-- ITS FALSE NEIGHBOUR: 'it returns false'. Refute it at one input. -/
def fnExactRotateBackWrong : ChangeSpec := { name := "fnExactRotateBack", fn := fun _ => fun
  | [d1, d2, d3, d4, d5] => { results := [.lit (.bool false)], args := [d1, d2, d3, d4, d5] }
  | _ => none }
def FnExactRotateBackWrongFalsely : Prop := fnExactRotateBackRow.holds Try.pinned (OpenSpec.ofChange fnExactRotateBackWrong)

/-- 'laws.FnLazy': WHATEVER THE INPUT: true; the input reads as it did. -/
def fnLazySpec : ChangeSpec := { name := "fnLazy", fn := fun _ => fun
  | [d] => { results := [.lit (.bool true)], args := [d] }
  | _ => none }
def fnLazyRow : OpenClaim := { program := "ytnmddmmmgdfknaa", sum := "0895d375b1b98d764eae899be572bcf2ffe7eea7ebdc62e9e032a23ceb6d2ee3", func := "loop.example/g00389/laws.FnLazy", spec := "fnLazy", unfollowed := true, recurses := true, apart := false }
def FnLazySaid : Prop := fnLazyRow.holds Try.pinned (OpenSpec.ofChange fnLazySpec)

/-- ITS FALSE NEIGHBOUR: 'it returns false'. Refute it at one input. -/
def fnLazyWrong : ChangeSpec := { name := "fnLazy", fn := fun _ => fun
  | [d] => { results := [.lit (.bool false)], args := [d] }
  | _ => none }
def FnLazyWrongFalsely : Prop := fnLazyRow.holds Try.pinned (OpenSpec.ofChange fnLazyWrong)

/-- 'laws.FnExactEagerFlags': WHATEVER THE INPUT: true; the input reads as it did. -/
def fnExactEagerFlagsSpec : ChangeSpec := { name := "fnExactEagerFlags", fn := fun _ => fun
  | [d1, d2] => { results := [.lit (.bool true)], args := [d1, d2] }
  | _ => none }
def fnExactEagerFlagsRow : OpenClaim := { program := "ytnmddmmmgdfknaa", sum := "0895d375b1b98d764eae899be572bcf2ffe7eea7ebdc62e9e032a23ceb6d2ee3", func := "loop.example/g00389/laws.FnExactEagerFlags", spec := "fnExactEagerFlags", unfollowed := true, recurses := true, apart := false }
def FnExactEagerFlagsSaid : Prop := fnExactEagerFlagsRow.holds Try.pinned (OpenSpec.ofChange fnExactEagerFlagsSpec)

/-- ITS FALSE NEIGHBOUR: 'it returns false'. Refute it at one input. -/
def fnExactEagerFlagsWrong : ChangeSpec := { name := "fnExactEagerFlags", fn := fun _ => fun
  | [d1, d2] => { results := [.lit (.bool false)], args := [d1, d2] }
  | _ => none }
def FnExactEagerFlagsWrongFalsely : Prop := fnExactEagerFlagsRow.holds Try.pinned (OpenSpec.ofChange fnExactEagerFlagsWrong)

/-- 'laws.FnExactFlagsOf': WHATEVER THE INPUT: true; the input reads as it did. -/
def fnExactFlagsOfSpec : ChangeSpec := { name := "fnExactFlagsOf", fn := fun _ => fun
  | [d] => { results := [.lit (.bool true)], args := [d] }
  | _ => none }
def fnExactFlagsOfRow : OpenClaim := { program := "ytnmddmmmgdfknaa", sum := "0895d375b1b98d764eae899be572bcf2ffe7eea7ebdc62e9e032a23ceb6d2ee3", func := "loop.example/g00389/laws.FnExactFlagsOf", spec := "fnExactFlagsOf", unfollowed := true, recurses := true, apart := false }
def FnExactFlagsOfSaid : Prop := fnExactFlagsOfRow.holds Try.pinned (OpenSpec.ofChange fnExactFlagsOfSpec)

/-- ITS FALSE NEIGHBOUR: 'it returns false'. Refute it at one input. -/
def fnExactFlagsOfWrong : ChangeSpec := { name := "fnExactFlagsOf", fn := fun _ => fun
  | [d] => { results := [.lit (.bool false)], args := [d] }
  | _ => none }
def FnExactFlagsOfWrongFalsely : Prop := fnExactFlagsOfRow.holds Try.pinned (OpenSpec.ofChange fnExactFlagsOfWrong)

/-- 'laws.FnExactCondOf': WHATEVER THE INPUT: true; the input reads as it did. -/
def fnExactCondOfSpec : ChangeSpec := { name := "fnExactCondOf", fn := fun _ => fun
  | [d1, d2] => { results := [.lit (.bool true)], args := [d1, d2] }
  | _ => none }
def fnExactCondOfRow : OpenClaim := { program := "ytnmddmmmgdfknaa", sum := "0895d375b1b98d764eae899be572bcf2ffe7eea7ebdc62e9e032a23ceb6d2ee3", func := "loop.example/g00389/laws.FnExactCondOf", spec := "fnExactCondOf", unfollowed := true, recurses := true, apart := false }
def FnExactCondOfSaid : Prop := fnExactCondOfRow.holds Try.pinned (OpenSpec.ofChange fnExactCondOfSpec)

/-- ITS FALSE NEIGHBOUR: 'it returns false'. Refute it at one input. -/
def fnExactCondOfWrong : ChangeSpec := { name := "fnExactCondOf", fn := fun _ => fun
  | [d1, d2] => { results := [.lit (.bool false)], args := [d1, d2] }
  | _ => none }
def FnExactCondOfWrongFalsely : Prop := fnExactCondOfRow.holds Try.pinned (OpenSpec.ofChange fnExactCondOfWrong)

/-- 'laws.FnExactCarryOf': WHATEVER THE INPUT: true; the input reads as it did. -/
def fnExactCarryOfSpec : ChangeSpec := { name := "fnExactCarryOf", fn := fun _ => fun
  | [d] => { results := [.lit (.bool true)], args := [d] }
  | _ => none }
def fnExactCarryOfRow : OpenClaim := { program := "ytnmddmmmgdfknaa", sum := "0895d375b1b98d764eae899be572bcf2ffe7eea7ebdc62e9e032a23ceb6d2ee3", func := "loop.example/g00389/laws.FnExactCarryOf", spec := "fnExactCarryOf", unfollowed := true, recurses := true, apart := false }
def FnExactCarryOfSaid : Prop := fnExactCarryOfRow.holds Try.pinned (OpenSpec.ofChange fnExactCarryOfSpec)

/-- ITS FALSE NEIGHBOUR: 'it returns false'. Refute it at one input. -/
def fnExactCarryOfWrong : ChangeSpec := { name := "fnExactCarryOf", fn := fun _ => fun
  | [d] => { results := [.lit (.bool false)], args := [d] }
  | _ => none }
def FnExactCarryOfWrongFalsely : Prop := fnExactCarryOfRow.holds Try.pinned (OpenSpec.ofChange fnExactCarryOfWrong)

/- THE SECOND FORM. 'bulk': how many values and letters a reading holds, each counted each time it is reached (what is shared counts as often as it is met; a slice's spare places count too). A statement '..UptoSaid' is the law's where the arguments, and the package variables that the reading takes, are together of bulk at most 1048576: NARROWER than '..Said'. Prove '..Said' where nothing that the law and all that it calls make is longer than what came in: it says more and counts as full. Else prove '..UptoSaid'. A law counts once. -/
mutual
def uptoBulk {H : Type} : DataW H → Nat
  | .lit (.string bytes) => bytes.length + 1
  | .lit _ => 1
  | .nil => 1
  | .ptr d => uptoBulk d + 1
  | .slice elems spare => uptoBulkAll elems + uptoBulkAll spare + 1
  | .agg parts => uptoBulkAll parts + 1
  | .iface _ d => uptoBulk d + 1
  | .map entries => uptoBulkEntries entries + 1
  | .held _ => 1
def uptoBulkAll {H : Type} : List (DataW H) → Nat
  | [] => 0
  | d :: r => uptoBulk d + uptoBulkAll r
def uptoBulkEntries {H : Type} : List (Lit × DataW H) → Nat
  | [] => 0
  | x :: r => uptoBulkEntry x + uptoBulkEntries r
def uptoBulkEntry {H : Type} : Lit × DataW H → Nat
  | (.string bytes, d) => bytes.length + uptoBulk d + 1
  | (_, d) => uptoBulk d + 1
 end
def uptoSmall : (H : Type) → List (DataW H) → Bool := fun _ ds => decide (uptoBulkAll ds ≤ 1048576)
def OpenSpec.upto (s : _root_.Go.ChangeSpec) : _root_.Go.OpenSpec := { _root_.Go.OpenSpec.ofChange s with cond := some uptoSmall }

/-- 'laws.FnShifts', WHERE WHAT IT READS IS OF BULK AT MOST 1048576: true; the input reads as it did. -/
def fnShiftsUptoRow : OpenClaim := { program := "ytnmddmmmgdfknaa", sum := "0895d375b1b98d764eae899be572bcf2ffe7eea7ebdc62e9e032a23ceb6d2ee3", func := "loop.example/g00389/laws.FnShifts", spec := "fnShifts", unfollowed := true, recurses := true, apart := false, narrowed := true }
def FnShiftsUptoSaid : Prop := fnShiftsUptoRow.holds Try.pinned (OpenSpec.upto fnShiftsSpec)

/-- 'laws.FnRotates', WHERE WHAT IT READS IS OF BULK AT MOST 1048576: true; the input reads as it did. -/
def fnRotatesUptoRow : OpenClaim := { program := "ytnmddmmmgdfknaa", sum := "0895d375b1b98d764eae899be572bcf2ffe7eea7ebdc62e9e032a23ceb6d2ee3", func := "loop.example/g00389/laws.FnRotates", spec := "fnRotates", unfollowed := true, recurses := true, apart := false, narrowed := true }
def FnRotatesUptoSaid : Prop := fnRotatesUptoRow.holds Try.pinned (OpenSpec.upto fnRotatesSpec)

/-- 'laws.FnExactShiftOnce', WHERE WHAT IT READS IS OF BULK AT MOST 1048576: true; the input reads as it did. -/
def fnExactShiftOnceUptoRow : OpenClaim := { program := "ytnmddmmmgdfknaa", sum := "0895d375b1b98d764eae899be572bcf2ffe7eea7ebdc62e9e032a23ceb6d2ee3", func := "loop.example/g00389/laws.FnExactShiftOnce", spec := "fnExactShiftOnce", unfollowed := true, recurses := true, apart := false, narrowed := true }
def FnExactShiftOnceUptoSaid : Prop := fnExactShiftOnceUptoRow.holds Try.pinned (OpenSpec.upto fnExactShiftOnceSpec)

/-- 'laws.FnExactShiftBy', WHERE WHAT IT READS IS OF BULK AT MOST 1048576: true; the input reads as it did. -/
def fnExactShiftByUptoRow : OpenClaim := { program := "ytnmddmmmgdfknaa", sum := "0895d375b1b98d764eae899be572bcf2ffe7eea7ebdc62e9e032a23ceb6d2ee3", func := "loop.example/g00389/laws.FnExactShiftBy", spec := "fnExactShiftBy", unfollowed := true, recurses := true, apart := false, narrowed := true }
def FnExactShiftByUptoSaid : Prop := fnExactShiftByUptoRow.holds Try.pinned (OpenSpec.upto fnExactShiftBySpec)

/-- 'laws.FnExactRotateBack', WHERE WHAT IT READS IS OF BULK AT MOST 1048576: true; the input reads as it did. -/
def fnExactRotateBackUptoRow : OpenClaim := { program := "ytnmddmmmgdfknaa", sum := "0895d375b1b98d764eae899be572bcf2ffe7eea7ebdc62e9e032a23ceb6d2ee3", func := "loop.example/g00389/laws.FnExactRotateBack", spec := "fnExactRotateBack", unfollowed := true, recurses := true, apart := false, narrowed := true }
def FnExactRotateBackUptoSaid : Prop := fnExactRotateBackUptoRow.holds Try.pinned (OpenSpec.upto fnExactRotateBackSpec)

/-- 'laws.FnLazy', WHERE WHAT IT READS IS OF BULK AT MOST 1048576: true; the input reads as it did. -/
def fnLazyUptoRow : OpenClaim := { program := "ytnmddmmmgdfknaa", sum := "0895d375b1b98d764eae899be572bcf2ffe7eea7ebdc62e9e032a23ceb6d2ee3", func := "loop.example/g00389/laws.FnLazy", spec := "fnLazy", unfollowed := true, recurses := true, apart := false, narrowed := true }
def FnLazyUptoSaid : Prop := fnLazyUptoRow.holds Try.pinned (OpenSpec.upto fnLazySpec)

/-- 'laws.FnExactEagerFlags', WHERE WHAT IT READS IS OF BULK AT MOST 1048576: true; the input reads as it did. -/
def fnExactEagerFlagsUptoRow : OpenClaim := { program := "ytnmddmmmgdfknaa", sum := "0895d375b1b98d764eae899be572bcf2ffe7eea7ebdc62e9e032a23ceb6d2ee3", func := "loop.example/g00389/laws.FnExactEagerFlags", spec := "fnExactEagerFlags", unfollowed := true, recurses := true, apart := false, narrowed := true }
def FnExactEagerFlagsUptoSaid : Prop := fnExactEagerFlagsUptoRow.holds Try.pinned (OpenSpec.upto fnExactEagerFlagsSpec)

/-- 'laws.FnExactFlagsOf', WHERE WHAT IT READS IS OF BULK AT MOST 1048576: true; the input reads as it did. -/
def fnExactFlagsOfUptoRow : OpenClaim := { program := "ytnmddmmmgdfknaa", sum := "0895d375b1b98d764eae899be572bcf2ffe7eea7ebdc62e9e032a23ceb6d2ee3", func := "loop.example/g00389/laws.FnExactFlagsOf", spec := "fnExactFlagsOf", unfollowed := true, recurses := true, apart := false, narrowed := true }
def FnExactFlagsOfUptoSaid : Prop := fnExactFlagsOfUptoRow.holds Try.pinned (OpenSpec.upto fnExactFlagsOfSpec)

/-- 'laws.FnExactCondOf', WHERE WHAT IT READS IS OF BULK AT MOST 1048576: true; the input reads as it did. -/
def fnExactCondOfUptoRow : OpenClaim := { program := "ytnmddmmmgdfknaa", sum := "0895d375b1b98d764eae899be572bcf2ffe7eea7ebdc62e9e032a23ceb6d2ee3", func := "loop.example/g00389/laws.FnExactCondOf", spec := "fnExactCondOf", unfollowed := true, recurses := true, apart := false, narrowed := true }
def FnExactCondOfUptoSaid : Prop := fnExactCondOfUptoRow.holds Try.pinned (OpenSpec.upto fnExactCondOfSpec)

/-- 'laws.FnExactCarryOf', WHERE WHAT IT READS IS OF BULK AT MOST 1048576: true; the input reads as it did. -/
def fnExactCarryOfUptoRow : OpenClaim := { program := "ytnmddmmmgdfknaa", sum := "0895d375b1b98d764eae899be572bcf2ffe7eea7ebdc62e9e032a23ceb6d2ee3", func := "loop.example/g00389/laws.FnExactCarryOf", spec := "fnExactCarryOf", unfollowed := true, recurses := true, apart := false, narrowed := true }
def FnExactCarryOfUptoSaid : Prop := fnExactCarryOfUptoRow.holds Try.pinned (OpenSpec.upto fnExactCarryOfSpec)

end Rows
end Go.Proofs.Ytnmddmmmgdfknaa
