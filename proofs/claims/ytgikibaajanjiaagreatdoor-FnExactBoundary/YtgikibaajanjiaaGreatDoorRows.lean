/-
  NARROWER THAN 'FOR EVERY INPUT', by the rows' own cells (each row's printed sentence says how): FnExactDoIns: laid · FnExactRunRow: laid · FnExactStepCpu: laid · FnExactStepsCpu: laid · FnExactStepWhole: laid · FnExactRunWhole: laid · FnExactBoundary: laid · FnExactRunIrq: laid · FnExactPlayIrq: laid.
  DERIVED. THE GIVEN ROWS OF THIS SEAT. 9 by the template 'for every input the law returns true; each argument reads behind the call as it read before'; 0 by the template 'total and deterministic' (their statements: YtgikibaajanjiaaGreatDoorTotals.lean).
  GIVEN WITH THE SEED: the statements are not yours to turn. If you find one false, say at which input.
  Laid BY PROGRAM, IN A SANDBOX (cutbox-rows.mjs): the forced cells as the released guide's own fill.sh prints them over the translation dff2d17396ac74d5… (all of the seat's roots in one cut). By AI agents, Wed Nov 11 2026. No macro, syntax, notation, axiom, sorry.
-/
import Derived.Test.YtgikibaajanjiaaGreatDoorChecked
import GoSem.Claim
import GoSem.ClaimJoined
import GoSem.ClaimMapViews
import Derived.JoinedTies
import Derived.KernelRfl
namespace Go.Proofs.YtgikibaajanjiaaGreatDoor
/- THE CELL 'sum', in the pinned program and in every row, IS THE sha256 OF THE DUMP (.gsa) THAT YtgikibaajanjiaaGreatDoorProg.lean LOADS. Nothing in Lean hashes anything: it is a label: what it is worth is what the hold of that sum in a sandbox is worth. -/
noncomputable def Tryz.pinned : Pinned := { name := "ytgikibaajanjiaagreatdoor", sum := "dff2d17396ac74d5b4225a2b61fad620076680f88996f40f53b89fb977333235", checked := Tryz.checked }
namespace Rows
def none {H : Type} : Left H := { results := [], args := [] }

/- WHAT THE LISTED PACKAGE-LEVEL VARIABLES READ AS WHEN THE CALL BEGINS. Each datum BY PROGRAM (the guide's laid-datum.mjs) off the statement by which the dump's own 'gosem.cut.vars' lays the variable. In a bare row this is a premise. The card (YtgikibaajanjiaaGreatDoorCards.lean) ties it to the program's text. -/
def laid_loop_example_g00389_impl_digitSums {H : Type} : DataW H := .agg [.lit (.int .i64 0), .lit (.int .i64 1), .lit (.int .i64 2), .lit (.int .i64 3), .lit (.int .i64 4), .lit (.int .i64 5), .lit (.int .i64 6), .lit (.int .i64 7), .lit (.int .i64 8), .lit (.int .i64 9), .lit (.int .i64 16), .lit (.int .i64 17), .lit (.int .i64 18), .lit (.int .i64 19), .lit (.int .i64 20), .lit (.int .i64 21), .lit (.int .i64 22), .lit (.int .i64 23), .lit (.int .i64 24), .lit (.int .i64 25)]
def laid_loop_example_g00389_impl_ninesLess {H : Type} : DataW H := .agg [.lit (.int .i64 9), .lit (.int .i64 8), .lit (.int .i64 7), .lit (.int .i64 6), .lit (.int .i64 5), .lit (.int .i64 4), .lit (.int .i64 3), .lit (.int .i64 2), .lit (.int .i64 1), .lit (.int .i64 0)]

/-- 'laws.FnExactDoIns': WHATEVER THE INPUT: true; the input reads as it did. -/
def fnExactDoInsSpec : ChangeSpec := { name := "fnExactDoIns", vars := ["loop.example/g00389/impl.digitSums", "loop.example/g00389/impl.ninesLess"], fn := fun _ => fun
  | [d1, d2, d3, d4, g1, g2] => { results := [.lit (.bool true)], args := [d1, d2, d3, d4], vars := [g1, g2] }
  | _ => none }
def fnExactDoInsRow : OpenClaim := { program := "ytgikibaajanjiaagreatdoor", sum := "dff2d17396ac74d5b4225a2b61fad620076680f88996f40f53b89fb977333235", func := "loop.example/g00389/laws.FnExactDoIns", spec := "fnExactDoIns", unfollowed := true, recurses := true, named := ["loop.example/g00389/impl.digitSums", "loop.example/g00389/impl.ninesLess"], plainKeys := false, apart := false, laid := [("loop.example/g00389/impl.digitSums", laid_loop_example_g00389_impl_digitSums), ("loop.example/g00389/impl.ninesLess", laid_loop_example_g00389_impl_ninesLess)] }
def FnExactDoInsSaid : Prop := fnExactDoInsRow.holds Tryz.pinned (OpenSpec.ofChange fnExactDoInsSpec)

/-- ITS FALSE NEIGHBOUR: 'it returns false'. Refute it at one input. -/
def fnExactDoInsWrong : ChangeSpec := { name := "fnExactDoIns", vars := ["loop.example/g00389/impl.digitSums", "loop.example/g00389/impl.ninesLess"], fn := fun _ => fun
  | [d1, d2, d3, d4, g1, g2] => { results := [.lit (.bool false)], args := [d1, d2, d3, d4], vars := [g1, g2] }
  | _ => none }
def FnExactDoInsWrongFalsely : Prop := fnExactDoInsRow.holds Tryz.pinned (OpenSpec.ofChange fnExactDoInsWrong)

/-- 'laws.FnExactRunRow': WHATEVER THE INPUT: true; the input reads as it did. -/
def fnExactRunRowSpec : ChangeSpec := { name := "fnExactRunRow", vars := ["loop.example/g00389/impl.digitSums", "loop.example/g00389/impl.ninesLess"], fn := fun _ => fun
  | [d1, d2, d3, d4, g1, g2] => { results := [.lit (.bool true)], args := [d1, d2, d3, d4], vars := [g1, g2] }
  | _ => none }
def fnExactRunRowRow : OpenClaim := { program := "ytgikibaajanjiaagreatdoor", sum := "dff2d17396ac74d5b4225a2b61fad620076680f88996f40f53b89fb977333235", func := "loop.example/g00389/laws.FnExactRunRow", spec := "fnExactRunRow", unfollowed := true, recurses := true, named := ["loop.example/g00389/impl.digitSums", "loop.example/g00389/impl.ninesLess"], plainKeys := false, apart := false, laid := [("loop.example/g00389/impl.digitSums", laid_loop_example_g00389_impl_digitSums), ("loop.example/g00389/impl.ninesLess", laid_loop_example_g00389_impl_ninesLess)] }
def FnExactRunRowSaid : Prop := fnExactRunRowRow.holds Tryz.pinned (OpenSpec.ofChange fnExactRunRowSpec)

/-- ITS FALSE NEIGHBOUR: 'it returns false'. Refute it at one input. -/
def fnExactRunRowWrong : ChangeSpec := { name := "fnExactRunRow", vars := ["loop.example/g00389/impl.digitSums", "loop.example/g00389/impl.ninesLess"], fn := fun _ => fun
  | [d1, d2, d3, d4, g1, g2] => { results := [.lit (.bool false)], args := [d1, d2, d3, d4], vars := [g1, g2] }
  | _ => none }
def FnExactRunRowWrongFalsely : Prop := fnExactRunRowRow.holds Tryz.pinned (OpenSpec.ofChange fnExactRunRowWrong)

/-- 'laws.FnExactStepCpu': WHATEVER THE INPUT: true; the input reads as it did. -/
def fnExactStepCpuSpec : ChangeSpec := { name := "fnExactStepCpu", vars := ["loop.example/g00389/impl.digitSums", "loop.example/g00389/impl.ninesLess"], fn := fun _ => fun
  | [d, g1, g2] => { results := [.lit (.bool true)], args := [d], vars := [g1, g2] }
  | _ => none }
def fnExactStepCpuRow : OpenClaim := { program := "ytgikibaajanjiaagreatdoor", sum := "dff2d17396ac74d5b4225a2b61fad620076680f88996f40f53b89fb977333235", func := "loop.example/g00389/laws.FnExactStepCpu", spec := "fnExactStepCpu", unfollowed := true, recurses := true, named := ["loop.example/g00389/impl.digitSums", "loop.example/g00389/impl.ninesLess"], plainKeys := false, apart := false, laid := [("loop.example/g00389/impl.digitSums", laid_loop_example_g00389_impl_digitSums), ("loop.example/g00389/impl.ninesLess", laid_loop_example_g00389_impl_ninesLess)] }
def FnExactStepCpuSaid : Prop := fnExactStepCpuRow.holds Tryz.pinned (OpenSpec.ofChange fnExactStepCpuSpec)

/-- ITS FALSE NEIGHBOUR: 'it returns false'. Refute it at one input. -/
def fnExactStepCpuWrong : ChangeSpec := { name := "fnExactStepCpu", vars := ["loop.example/g00389/impl.digitSums", "loop.example/g00389/impl.ninesLess"], fn := fun _ => fun
  | [d, g1, g2] => { results := [.lit (.bool false)], args := [d], vars := [g1, g2] }
  | _ => none }
def FnExactStepCpuWrongFalsely : Prop := fnExactStepCpuRow.holds Tryz.pinned (OpenSpec.ofChange fnExactStepCpuWrong)

/-- 'laws.FnExactStepsCpu': WHATEVER THE INPUT: true; the input reads as it did. -/
def fnExactStepsCpuSpec : ChangeSpec := { name := "fnExactStepsCpu", vars := ["loop.example/g00389/impl.digitSums", "loop.example/g00389/impl.ninesLess"], fn := fun _ => fun
  | [d1, d2, g1, g2] => { results := [.lit (.bool true)], args := [d1, d2], vars := [g1, g2] }
  | _ => none }
def fnExactStepsCpuRow : OpenClaim := { program := "ytgikibaajanjiaagreatdoor", sum := "dff2d17396ac74d5b4225a2b61fad620076680f88996f40f53b89fb977333235", func := "loop.example/g00389/laws.FnExactStepsCpu", spec := "fnExactStepsCpu", unfollowed := true, recurses := true, named := ["loop.example/g00389/impl.digitSums", "loop.example/g00389/impl.ninesLess"], plainKeys := false, apart := false, laid := [("loop.example/g00389/impl.digitSums", laid_loop_example_g00389_impl_digitSums), ("loop.example/g00389/impl.ninesLess", laid_loop_example_g00389_impl_ninesLess)] }
def FnExactStepsCpuSaid : Prop := fnExactStepsCpuRow.holds Tryz.pinned (OpenSpec.ofChange fnExactStepsCpuSpec)

/-- ITS FALSE NEIGHBOUR: 'it returns false'. Refute it at one input. -/
def fnExactStepsCpuWrong : ChangeSpec := { name := "fnExactStepsCpu", vars := ["loop.example/g00389/impl.digitSums", "loop.example/g00389/impl.ninesLess"], fn := fun _ => fun
  | [d1, d2, g1, g2] => { results := [.lit (.bool false)], args := [d1, d2], vars := [g1, g2] }
  | _ => none }
def FnExactStepsCpuWrongFalsely : Prop := fnExactStepsCpuRow.holds Tryz.pinned (OpenSpec.ofChange fnExactStepsCpuWrong)

/-- 'laws.FnExactStepWhole': WHATEVER THE INPUT: true; the input reads as it did. -/
def fnExactStepWholeSpec : ChangeSpec := { name := "fnExactStepWhole", vars := ["loop.example/g00389/impl.digitSums", "loop.example/g00389/impl.ninesLess"], fn := fun _ => fun
  | [d, g1, g2] => { results := [.lit (.bool true)], args := [d], vars := [g1, g2] }
  | _ => none }
def fnExactStepWholeRow : OpenClaim := { program := "ytgikibaajanjiaagreatdoor", sum := "dff2d17396ac74d5b4225a2b61fad620076680f88996f40f53b89fb977333235", func := "loop.example/g00389/laws.FnExactStepWhole", spec := "fnExactStepWhole", unfollowed := true, recurses := true, named := ["loop.example/g00389/impl.digitSums", "loop.example/g00389/impl.ninesLess"], plainKeys := false, apart := false, laid := [("loop.example/g00389/impl.digitSums", laid_loop_example_g00389_impl_digitSums), ("loop.example/g00389/impl.ninesLess", laid_loop_example_g00389_impl_ninesLess)] }
def FnExactStepWholeSaid : Prop := fnExactStepWholeRow.holds Tryz.pinned (OpenSpec.ofChange fnExactStepWholeSpec)

/-- ITS FALSE NEIGHBOUR: 'it returns false'. Refute it at one input. -/
def fnExactStepWholeWrong : ChangeSpec := { name := "fnExactStepWhole", vars := ["loop.example/g00389/impl.digitSums", "loop.example/g00389/impl.ninesLess"], fn := fun _ => fun
  | [d, g1, g2] => { results := [.lit (.bool false)], args := [d], vars := [g1, g2] }
  | _ => none }
def FnExactStepWholeWrongFalsely : Prop := fnExactStepWholeRow.holds Tryz.pinned (OpenSpec.ofChange fnExactStepWholeWrong)

/-- 'laws.FnExactRunWhole': WHATEVER THE INPUT: true; the input reads as it did. -/
def fnExactRunWholeSpec : ChangeSpec := { name := "fnExactRunWhole", vars := ["loop.example/g00389/impl.digitSums", "loop.example/g00389/impl.ninesLess"], fn := fun _ => fun
  | [d1, d2, g1, g2] => { results := [.lit (.bool true)], args := [d1, d2], vars := [g1, g2] }
  | _ => none }
def fnExactRunWholeRow : OpenClaim := { program := "ytgikibaajanjiaagreatdoor", sum := "dff2d17396ac74d5b4225a2b61fad620076680f88996f40f53b89fb977333235", func := "loop.example/g00389/laws.FnExactRunWhole", spec := "fnExactRunWhole", unfollowed := true, recurses := true, named := ["loop.example/g00389/impl.digitSums", "loop.example/g00389/impl.ninesLess"], plainKeys := false, apart := false, laid := [("loop.example/g00389/impl.digitSums", laid_loop_example_g00389_impl_digitSums), ("loop.example/g00389/impl.ninesLess", laid_loop_example_g00389_impl_ninesLess)] }
def FnExactRunWholeSaid : Prop := fnExactRunWholeRow.holds Tryz.pinned (OpenSpec.ofChange fnExactRunWholeSpec)

/-- ITS FALSE NEIGHBOUR: 'it returns false'. Refute it at one input. -/
def fnExactRunWholeWrong : ChangeSpec := { name := "fnExactRunWhole", vars := ["loop.example/g00389/impl.digitSums", "loop.example/g00389/impl.ninesLess"], fn := fun _ => fun
  | [d1, d2, g1, g2] => { results := [.lit (.bool false)], args := [d1, d2], vars := [g1, g2] }
  | _ => none }
def FnExactRunWholeWrongFalsely : Prop := fnExactRunWholeRow.holds Tryz.pinned (OpenSpec.ofChange fnExactRunWholeWrong)

/-- 'laws.FnExactBoundary': WHATEVER THE INPUT: true; the input reads as it did. -/
def fnExactBoundarySpec : ChangeSpec := { name := "fnExactBoundary", vars := ["loop.example/g00389/impl.digitSums", "loop.example/g00389/impl.ninesLess"], fn := fun _ => fun
  | [d, g1, g2] => { results := [.lit (.bool true)], args := [d], vars := [g1, g2] }
  | _ => none }
def fnExactBoundaryRow : OpenClaim := { program := "ytgikibaajanjiaagreatdoor", sum := "dff2d17396ac74d5b4225a2b61fad620076680f88996f40f53b89fb977333235", func := "loop.example/g00389/laws.FnExactBoundary", spec := "fnExactBoundary", unfollowed := true, recurses := true, named := ["loop.example/g00389/impl.digitSums", "loop.example/g00389/impl.ninesLess"], plainKeys := false, apart := false, laid := [("loop.example/g00389/impl.digitSums", laid_loop_example_g00389_impl_digitSums), ("loop.example/g00389/impl.ninesLess", laid_loop_example_g00389_impl_ninesLess)] }
def FnExactBoundarySaid : Prop := fnExactBoundaryRow.holds Tryz.pinned (OpenSpec.ofChange fnExactBoundarySpec)

/-- ITS FALSE NEIGHBOUR: 'it returns false'. Refute it at one input. -/
def fnExactBoundaryWrong : ChangeSpec := { name := "fnExactBoundary", vars := ["loop.example/g00389/impl.digitSums", "loop.example/g00389/impl.ninesLess"], fn := fun _ => fun
  | [d, g1, g2] => { results := [.lit (.bool false)], args := [d], vars := [g1, g2] }
  | _ => none }
def FnExactBoundaryWrongFalsely : Prop := fnExactBoundaryRow.holds Tryz.pinned (OpenSpec.ofChange fnExactBoundaryWrong)

/-- 'laws.FnExactRunIrq': WHATEVER THE INPUT: true; the input reads as it did. -/
def fnExactRunIrqSpec : ChangeSpec := { name := "fnExactRunIrq", vars := ["loop.example/g00389/impl.digitSums", "loop.example/g00389/impl.ninesLess"], fn := fun _ => fun
  | [d1, d2, g1, g2] => { results := [.lit (.bool true)], args := [d1, d2], vars := [g1, g2] }
  | _ => none }
def fnExactRunIrqRow : OpenClaim := { program := "ytgikibaajanjiaagreatdoor", sum := "dff2d17396ac74d5b4225a2b61fad620076680f88996f40f53b89fb977333235", func := "loop.example/g00389/laws.FnExactRunIrq", spec := "fnExactRunIrq", unfollowed := true, recurses := true, named := ["loop.example/g00389/impl.digitSums", "loop.example/g00389/impl.ninesLess"], plainKeys := false, apart := false, laid := [("loop.example/g00389/impl.digitSums", laid_loop_example_g00389_impl_digitSums), ("loop.example/g00389/impl.ninesLess", laid_loop_example_g00389_impl_ninesLess)] }
def FnExactRunIrqSaid : Prop := fnExactRunIrqRow.holds Tryz.pinned (OpenSpec.ofChange fnExactRunIrqSpec)

/-- ITS FALSE NEIGHBOUR: 'it returns false'. Refute it at one input. -/
def fnExactRunIrqWrong : ChangeSpec := { name := "fnExactRunIrq", vars := ["loop.example/g00389/impl.digitSums", "loop.example/g00389/impl.ninesLess"], fn := fun _ => fun
  | [d1, d2, g1, g2] => { results := [.lit (.bool false)], args := [d1, d2], vars := [g1, g2] }
  | _ => none }
def FnExactRunIrqWrongFalsely : Prop := fnExactRunIrqRow.holds Tryz.pinned (OpenSpec.ofChange fnExactRunIrqWrong)

/-- 'laws.FnExactPlayIrq': WHATEVER THE INPUT: true; the input reads as it did. -/
def fnExactPlayIrqSpec : ChangeSpec := { name := "fnExactPlayIrq", vars := ["loop.example/g00389/impl.digitSums", "loop.example/g00389/impl.ninesLess"], fn := fun _ => fun
  | [d1, d2, g1, g2] => { results := [.lit (.bool true)], args := [d1, d2], vars := [g1, g2] }
  | _ => none }
def fnExactPlayIrqRow : OpenClaim := { program := "ytgikibaajanjiaagreatdoor", sum := "dff2d17396ac74d5b4225a2b61fad620076680f88996f40f53b89fb977333235", func := "loop.example/g00389/laws.FnExactPlayIrq", spec := "fnExactPlayIrq", unfollowed := true, recurses := true, named := ["loop.example/g00389/impl.digitSums", "loop.example/g00389/impl.ninesLess"], plainKeys := false, apart := false, laid := [("loop.example/g00389/impl.digitSums", laid_loop_example_g00389_impl_digitSums), ("loop.example/g00389/impl.ninesLess", laid_loop_example_g00389_impl_ninesLess)] }
def FnExactPlayIrqSaid : Prop := fnExactPlayIrqRow.holds Tryz.pinned (OpenSpec.ofChange fnExactPlayIrqSpec)

/-- ITS FALSE NEIGHBOUR: 'it returns false'. Refute it at one input. -/
def fnExactPlayIrqWrong : ChangeSpec := { name := "fnExactPlayIrq", vars := ["loop.example/g00389/impl.digitSums", "loop.example/g00389/impl.ninesLess"], fn := fun _ => fun
  | [d1, d2, g1, g2] => { results := [.lit (.bool false)], args := [d1, d2], vars := [g1, g2] }
  | _ => none }
def FnExactPlayIrqWrongFalsely : Prop := fnExactPlayIrqRow.holds Tryz.pinned (OpenSpec.ofChange fnExactPlayIrqWrong)

/- THE SECOND FORM. 'bulk': how many values and letters a reading holds, each counted each time it is reached (what is shared counts as often as it is met; a slice's spare places count too). A statement '..UptoSaid' is the law's where the arguments, and the package variables that the reading takes, are together of bulk at most 1048576: NARROWER than '..Said'. Prove '..Said' where nothing that the law and all that it calls make is longer than what came in: it says more and counts as full. Else prove '..UptoSaid'. A law counts once. -/
mutual
def uptoBulk {H : Type} : DataW H → Nat
  | .lit (.string bytes) => bytes.length + 1
  | .lit _ => 1
  | .nil => 1
  | .ptr d => uptoBulk d + 1
  | .slice elems spare => uptoBulkAll elems + uptoBulkAll spare + 1
  | .agg parts => uptoBulkAll parts + 1
  | .iface _ d => uptoBulk d + 1
  | .map entries => uptoBulkEntries entries + 1
  | .held _ => 1
def uptoBulkAll {H : Type} : List (DataW H) → Nat
  | [] => 0
  | d :: r => uptoBulk d + uptoBulkAll r
def uptoBulkEntries {H : Type} : List (Lit × DataW H) → Nat
  | [] => 0
  | x :: r => uptoBulkEntry x + uptoBulkEntries r
def uptoBulkEntry {H : Type} : Lit × DataW H → Nat
  | (.string bytes, d) => bytes.length + uptoBulk d + 1
  | (_, d) => uptoBulk d + 1
 end
def uptoSmall : (H : Type) → List (DataW H) → Bool := fun _ ds => decide (uptoBulkAll ds ≤ 1048576)
def OpenSpec.upto (s : _root_.Go.ChangeSpec) : _root_.Go.OpenSpec := { _root_.Go.OpenSpec.ofChange s with cond := some uptoSmall }

/-- 'laws.FnExactDoIns', WHERE WHAT IT READS IS OF BULK AT MOST 1048576: true; the input reads as it did. -/
def fnExactDoInsUptoRow : OpenClaim := { program := "ytgikibaajanjiaagreatdoor", sum := "dff2d17396ac74d5b4225a2b61fad620076680f88996f40f53b89fb977333235", func := "loop.example/g00389/laws.FnExactDoIns", spec := "fnExactDoIns", unfollowed := true, recurses := true, named := ["loop.example/g00389/impl.digitSums", "loop.example/g00389/impl.ninesLess"], plainKeys := false, apart := false, laid := [("loop.example/g00389/impl.digitSums", laid_loop_example_g00389_impl_digitSums), ("loop.example/g00389/impl.ninesLess", laid_loop_example_g00389_impl_ninesLess)], narrowed := true }
def FnExactDoInsUptoSaid : Prop := fnExactDoInsUptoRow.holds Tryz.pinned (OpenSpec.upto fnExactDoInsSpec)

/-- 'laws.FnExactRunRow', WHERE WHAT IT READS IS OF BULK AT MOST 1048576: true; the input reads as it did. -/
def fnExactRunRowUptoRow : OpenClaim := { program := "ytgikibaajanjiaagreatdoor", sum := "dff2d17396ac74d5b4225a2b61fad620076680f88996f40f53b89fb977333235", func := "loop.example/g00389/laws.FnExactRunRow", spec := "fnExactRunRow", unfollowed := true, recurses := true, named := ["loop.example/g00389/impl.digitSums", "loop.example/g00389/impl.ninesLess"], plainKeys := false, apart := false, laid := [("loop.example/g00389/impl.digitSums", laid_loop_example_g00389_impl_digitSums), ("loop.example/g00389/impl.ninesLess", laid_loop_example_g00389_impl_ninesLess)], narrowed := true }
def FnExactRunRowUptoSaid : Prop := fnExactRunRowUptoRow.holds Tryz.pinned (OpenSpec.upto fnExactRunRowSpec)

/-- 'laws.FnExactStepCpu', WHERE WHAT IT READS IS OF BULK AT MOST 1048576: true; the input reads as it did. -/
def fnExactStepCpuUptoRow : OpenClaim := { program := "ytgikibaajanjiaagreatdoor", sum := "dff2d17396ac74d5b4225a2b61fad620076680f88996f40f53b89fb977333235", func := "loop.example/g00389/laws.FnExactStepCpu", spec := "fnExactStepCpu", unfollowed := true, recurses := true, named := ["loop.example/g00389/impl.digitSums", "loop.example/g00389/impl.ninesLess"], plainKeys := false, apart := false, laid := [("loop.example/g00389/impl.digitSums", laid_loop_example_g00389_impl_digitSums), ("loop.example/g00389/impl.ninesLess", laid_loop_example_g00389_impl_ninesLess)], narrowed := true }
def FnExactStepCpuUptoSaid : Prop := fnExactStepCpuUptoRow.holds Tryz.pinned (OpenSpec.upto fnExactStepCpuSpec)

/-- 'laws.FnExactStepsCpu', WHERE WHAT IT READS IS OF BULK AT MOST 1048576: true; the input reads as it did. -/
def fnExactStepsCpuUptoRow : OpenClaim := { program := "ytgikibaajanjiaagreatdoor", sum := "dff2d17396ac74d5b4225a2b61fad620076680f88996f40f53b89fb977333235", func := "loop.example/g00389/laws.FnExactStepsCpu", spec := "fnExactStepsCpu", unfollowed := true, recurses := true, named := ["loop.example/g00389/impl.digitSums", "loop.example/g00389/impl.ninesLess"], plainKeys := false, apart := false, laid := [("loop.example/g00389/impl.digitSums", laid_loop_example_g00389_impl_digitSums), ("loop.example/g00389/impl.ninesLess", laid_loop_example_g00389_impl_ninesLess)], narrowed := true }
def FnExactStepsCpuUptoSaid : Prop := fnExactStepsCpuUptoRow.holds Tryz.pinned (OpenSpec.upto fnExactStepsCpuSpec)

/-- 'laws.FnExactStepWhole', WHERE WHAT IT READS IS OF BULK AT MOST 1048576: true; the input reads as it did. -/
def fnExactStepWholeUptoRow : OpenClaim := { program := "ytgikibaajanjiaagreatdoor", sum := "dff2d17396ac74d5b4225a2b61fad620076680f88996f40f53b89fb977333235", func := "loop.example/g00389/laws.FnExactStepWhole", spec := "fnExactStepWhole", unfollowed := true, recurses := true, named := ["loop.example/g00389/impl.digitSums", "loop.example/g00389/impl.ninesLess"], plainKeys := false, apart := false, laid := [("loop.example/g00389/impl.digitSums", laid_loop_example_g00389_impl_digitSums), ("loop.example/g00389/impl.ninesLess", laid_loop_example_g00389_impl_ninesLess)], narrowed := true }
def FnExactStepWholeUptoSaid : Prop := fnExactStepWholeUptoRow.holds Tryz.pinned (OpenSpec.upto fnExactStepWholeSpec)

/-- 'laws.FnExactRunWhole', WHERE WHAT IT READS IS OF BULK AT MOST 1048576: true; the input reads as it did. -/
def fnExactRunWholeUptoRow : OpenClaim := { program := "ytgikibaajanjiaagreatdoor", sum := "dff2d17396ac74d5b4225a2b61fad620076680f88996f40f53b89fb977333235", func := "loop.example/g00389/laws.FnExactRunWhole", spec := "fnExactRunWhole", unfollowed := true, recurses := true, named := ["loop.example/g00389/impl.digitSums", "loop.example/g00389/impl.ninesLess"], plainKeys := false, apart := false, laid := [("loop.example/g00389/impl.digitSums", laid_loop_example_g00389_impl_digitSums), ("loop.example/g00389/impl.ninesLess", laid_loop_example_g00389_impl_ninesLess)], narrowed := true }
def FnExactRunWholeUptoSaid : Prop := fnExactRunWholeUptoRow.holds Tryz.pinned (OpenSpec.upto fnExactRunWholeSpec)

/-- 'laws.FnExactBoundary', WHERE WHAT IT READS IS OF BULK AT MOST 1048576: true; the input reads as it did. -/
def fnExactBoundaryUptoRow : OpenClaim := { program := "ytgikibaajanjiaagreatdoor", sum := "dff2d17396ac74d5b4225a2b61fad620076680f88996f40f53b89fb977333235", func := "loop.example/g00389/laws.FnExactBoundary", spec := "fnExactBoundary", unfollowed := true, recurses := true, named := ["loop.example/g00389/impl.digitSums", "loop.example/g00389/impl.ninesLess"], plainKeys := false, apart := false, laid := [("loop.example/g00389/impl.digitSums", laid_loop_example_g00389_impl_digitSums), ("loop.example/g00389/impl.ninesLess", laid_loop_example_g00389_impl_ninesLess)], narrowed := true }
def FnExactBoundaryUptoSaid : Prop := fnExactBoundaryUptoRow.holds Tryz.pinned (OpenSpec.upto fnExactBoundarySpec)

/-- 'laws.FnExactRunIrq', WHERE WHAT IT READS IS OF BULK AT MOST 1048576: true; the input reads as it did. -/
def fnExactRunIrqUptoRow : OpenClaim := { program := "ytgikibaajanjiaagreatdoor", sum := "dff2d17396ac74d5b4225a2b61fad620076680f88996f40f53b89fb977333235", func := "loop.example/g00389/laws.FnExactRunIrq", spec := "fnExactRunIrq", unfollowed := true, recurses := true, named := ["loop.example/g00389/impl.digitSums", "loop.example/g00389/impl.ninesLess"], plainKeys := false, apart := false, laid := [("loop.example/g00389/impl.digitSums", laid_loop_example_g00389_impl_digitSums), ("loop.example/g00389/impl.ninesLess", laid_loop_example_g00389_impl_ninesLess)], narrowed := true }
def FnExactRunIrqUptoSaid : Prop := fnExactRunIrqUptoRow.holds Tryz.pinned (OpenSpec.upto fnExactRunIrqSpec)

/-- 'laws.FnExactPlayIrq', WHERE WHAT IT READS IS OF BULK AT MOST 1048576: true; the input reads as it did. -/
def fnExactPlayIrqUptoRow : OpenClaim := { program := "ytgikibaajanjiaagreatdoor", sum := "dff2d17396ac74d5b4225a2b61fad620076680f88996f40f53b89fb977333235", func := "loop.example/g00389/laws.FnExactPlayIrq", spec := "fnExactPlayIrq", unfollowed := true, recurses := true, named := ["loop.example/g00389/impl.digitSums", "loop.example/g00389/impl.ninesLess"], plainKeys := false, apart := false, laid := [("loop.example/g00389/impl.digitSums", laid_loop_example_g00389_impl_digitSums), ("loop.example/g00389/impl.ninesLess", laid_loop_example_g00389_impl_ninesLess)], narrowed := true }
def FnExactPlayIrqUptoSaid : Prop := fnExactPlayIrqUptoRow.holds Tryz.pinned (OpenSpec.upto fnExactPlayIrqSpec)

end Rows
end Go.Proofs.YtgikibaajanjiaaGreatDoor
