/-
  NARROWER THAN 'FOR EVERY INPUT', by the rows' own cells (each row's printed sentence says how): FnBcd: laid · FnDigits: laid · FnExactAddBcd: laid · FnExactSubBcd: laid · FnExactNegBcd: laid · FnExactAddDigits: laid · FnExactComplementBcd: laid.
  DERIVED. THE GIVEN ROWS OF THIS SEAT. 7 by the template 'for every input the law returns true; each argument reads behind the call as it read before'; 0 by the template 'total and deterministic' (their statements: YtkahmepoblhbnaaDoorTotals.lean).
  GIVEN WITH THE SEED: the statements are not yours to turn. If you find one false, say at which input.
  Laid BY PROGRAM, IN A SANDBOX (cutbox-rows.mjs): the forced cells as the released guide's own fill.sh prints them over the translation cde089dff20dca48… (all of the seat's roots in one cut). By AI agents, Wed Nov 11 2026. No macro, syntax, notation, axiom, sorry.
-/
import Derived.Test.YtkahmepoblhbnaaDoorChecked
import GoSem.Claim
import GoSem.ClaimJoined
import GoSem.ClaimMapViews
import Derived.JoinedTies
import Derived.KernelRfl
namespace Go.Proofs.YtkahmepoblhbnaaDoor
/- THE CELL 'sum', in the pinned program and in every row, IS THE sha256 OF THE DUMP (.gsa) THAT YtkahmepoblhbnaaDoorProg.lean LOADS. Nothing in Lean hashes anything: it is a label: what it is worth is what the hold of that sum in a sandbox is worth. -/
noncomputable def Tryd.pinned : Pinned := { name := "ytkahmepoblhbnaadoor", sum := "cde089dff20dca48054275885d9f653420caf530a8021cdc9a2b6c5ce36be174", checked := Tryd.checked }
namespace Rows
def none {H : Type} : Left H := { results := [], args := [] }

/- WHAT THE LISTED PACKAGE-LEVEL VARIABLES READ AS WHEN THE CALL BEGINS. Each datum BY PROGRAM (the guide's laid-datum.mjs) off the statement by which the dump's own 'gosem.cut.vars' lays the variable. In a bare row this is a premise. The card (YtkahmepoblhbnaaDoorCards.lean) ties it to the program's text. -/
def laid_loop_example_g00389_impl_digitSums {H : Type} : DataW H := .agg [.lit (.int .i64 0), .lit (.int .i64 1), .lit (.int .i64 2), .lit (.int .i64 3), .lit (.int .i64 4), .lit (.int .i64 5), .lit (.int .i64 6), .lit (.int .i64 7), .lit (.int .i64 8), .lit (.int .i64 9), .lit (.int .i64 16), .lit (.int .i64 17), .lit (.int .i64 18), .lit (.int .i64 19), .lit (.int .i64 20), .lit (.int .i64 21), .lit (.int .i64 22), .lit (.int .i64 23), .lit (.int .i64 24), .lit (.int .i64 25)]
def laid_loop_example_g00389_impl_ninesLess {H : Type} : DataW H := .agg [.lit (.int .i64 9), .lit (.int .i64 8), .lit (.int .i64 7), .lit (.int .i64 6), .lit (.int .i64 5), .lit (.int .i64 4), .lit (.int .i64 3), .lit (.int .i64 2), .lit (.int .i64 1), .lit (.int .i64 0)]

/-- 'laws.FnBcd': WHATEVER THE INPUT: true; the input reads as it did. -/
def fnBcdSpec : ChangeSpec := { name := "fnBcd", vars := ["loop.example/g00389/impl.digitSums", "loop.example/g00389/impl.ninesLess"], fn := fun _ => fun
  | [d1, d2, g1, g2] => { results := [.lit (.bool true)], args := [d1, d2], vars := [g1, g2] }
  | _ => none }
def fnBcdRow : OpenClaim := { program := "ytkahmepoblhbnaadoor", sum := "cde089dff20dca48054275885d9f653420caf530a8021cdc9a2b6c5ce36be174", func := "loop.example/g00389/laws.FnBcd", spec := "fnBcd", named := ["loop.example/g00389/impl.digitSums", "loop.example/g00389/impl.ninesLess"], apart := false, laid := [("loop.example/g00389/impl.digitSums", laid_loop_example_g00389_impl_digitSums), ("loop.example/g00389/impl.ninesLess", laid_loop_example_g00389_impl_ninesLess)] }
def FnBcdSaid : Prop := fnBcdRow.holds Tryd.pinned (OpenSpec.ofChange fnBcdSpec)

/-- ITS FALSE NEIGHBOUR: 'it returns false'. Refute it at one input. -/
def fnBcdWrong : ChangeSpec := { name := "fnBcd", vars := ["loop.example/g00389/impl.digitSums", "loop.example/g00389/impl.ninesLess"], fn := fun _ => fun
  | [d1, d2, g1, g2] => { results := [.lit (.bool false)], args := [d1, d2], vars := [g1, g2] }
  | _ => none }
def FnBcdWrongFalsely : Prop := fnBcdRow.holds Tryd.pinned (OpenSpec.ofChange fnBcdWrong)

/-- 'laws.FnDigits': WHATEVER THE INPUT: true; the input reads as it did. -/
def fnDigitsSpec : ChangeSpec := { name := "fnDigits", vars := ["loop.example/g00389/impl.digitSums", "loop.example/g00389/impl.ninesLess"], fn := fun _ => fun
  | [d1, d2, g1, g2] => { results := [.lit (.bool true)], args := [d1, d2], vars := [g1, g2] }
  | _ => none }
def fnDigitsRow : OpenClaim := { program := "ytkahmepoblhbnaadoor", sum := "cde089dff20dca48054275885d9f653420caf530a8021cdc9a2b6c5ce36be174", func := "loop.example/g00389/laws.FnDigits", spec := "fnDigits", named := ["loop.example/g00389/impl.digitSums", "loop.example/g00389/impl.ninesLess"], apart := false, laid := [("loop.example/g00389/impl.digitSums", laid_loop_example_g00389_impl_digitSums), ("loop.example/g00389/impl.ninesLess", laid_loop_example_g00389_impl_ninesLess)] }
def FnDigitsSaid : Prop := fnDigitsRow.holds Tryd.pinned (OpenSpec.ofChange fnDigitsSpec)

/-- ITS FALSE NEIGHBOUR: 'it returns false'. Refute it at one input. -/
def fnDigitsWrong : ChangeSpec := { name := "fnDigits", vars := ["loop.example/g00389/impl.digitSums", "loop.example/g00389/impl.ninesLess"], fn := fun _ => fun
  | [d1, d2, g1, g2] => { results := [.lit (.bool false)], args := [d1, d2], vars := [g1, g2] }
  | _ => none }
def FnDigitsWrongFalsely : Prop := fnDigitsRow.holds Tryd.pinned (OpenSpec.ofChange fnDigitsWrong)

/-- 'laws.FnExactAddBcd': WHATEVER THE INPUT: true; the input reads as it did. -/
def fnExactAddBcdSpec : ChangeSpec := { name := "fnExactAddBcd", vars := ["loop.example/g00389/impl.digitSums"], fn := fun _ => fun
  | [d1, d2, d3, g1] => { results := [.lit (.bool true)], args := [d1, d2, d3], vars := [g1] }
  | _ => none }
def fnExactAddBcdRow : OpenClaim := { program := "ytkahmepoblhbnaadoor", sum := "cde089dff20dca48054275885d9f653420caf530a8021cdc9a2b6c5ce36be174", func := "loop.example/g00389/laws.FnExactAddBcd", spec := "fnExactAddBcd", named := ["loop.example/g00389/impl.digitSums"], apart := false, laid := [("loop.example/g00389/impl.digitSums", laid_loop_example_g00389_impl_digitSums)] }
def FnExactAddBcdSaid : Prop := fnExactAddBcdRow.holds Tryd.pinned (OpenSpec.ofChange fnExactAddBcdSpec)

/-- ITS FALSE NEIGHBOUR: 'it returns false'. Refute it at one input. -/
def fnExactAddBcdWrong : ChangeSpec := { name := "fnExactAddBcd", vars := ["loop.example/g00389/impl.digitSums"], fn := fun _ => fun
  | [d1, d2, d3, g1] => { results := [.lit (.bool false)], args := [d1, d2, d3], vars := [g1] }
  | _ => none }
def FnExactAddBcdWrongFalsely : Prop := fnExactAddBcdRow.holds Tryd.pinned (OpenSpec.ofChange fnExactAddBcdWrong)

/-- 'laws.FnExactSubBcd': WHATEVER THE INPUT: true; the input reads as it did. -/
def fnExactSubBcdSpec : ChangeSpec := { name := "fnExactSubBcd", vars := ["loop.example/g00389/impl.ninesLess", "loop.example/g00389/impl.digitSums"], fn := fun _ => fun
  | [d1, d2, d3, g1, g2] => { results := [.lit (.bool true)], args := [d1, d2, d3], vars := [g1, g2] }
  | _ => none }
def fnExactSubBcdRow : OpenClaim := { program := "ytkahmepoblhbnaadoor", sum := "cde089dff20dca48054275885d9f653420caf530a8021cdc9a2b6c5ce36be174", func := "loop.example/g00389/laws.FnExactSubBcd", spec := "fnExactSubBcd", named := ["loop.example/g00389/impl.ninesLess", "loop.example/g00389/impl.digitSums"], apart := false, laid := [("loop.example/g00389/impl.digitSums", laid_loop_example_g00389_impl_digitSums), ("loop.example/g00389/impl.ninesLess", laid_loop_example_g00389_impl_ninesLess)] }
def FnExactSubBcdSaid : Prop := fnExactSubBcdRow.holds Tryd.pinned (OpenSpec.ofChange fnExactSubBcdSpec)

/-- ITS FALSE NEIGHBOUR: 'it returns false'. Refute it at one input. -/
def fnExactSubBcdWrong : ChangeSpec := { name := "fnExactSubBcd", vars := ["loop.example/g00389/impl.ninesLess", "loop.example/g00389/impl.digitSums"], fn := fun _ => fun
  | [d1, d2, d3, g1, g2] => { results := [.lit (.bool false)], args := [d1, d2, d3], vars := [g1, g2] }
  | _ => none }
def FnExactSubBcdWrongFalsely : Prop := fnExactSubBcdRow.holds Tryd.pinned (OpenSpec.ofChange fnExactSubBcdWrong)

/-- 'laws.FnExactNegBcd': WHATEVER THE INPUT: true; the input reads as it did. -/
def fnExactNegBcdSpec : ChangeSpec := { name := "fnExactNegBcd", vars := ["loop.example/g00389/impl.ninesLess", "loop.example/g00389/impl.digitSums"], fn := fun _ => fun
  | [d1, d2, g1, g2] => { results := [.lit (.bool true)], args := [d1, d2], vars := [g1, g2] }
  | _ => none }
def fnExactNegBcdRow : OpenClaim := { program := "ytkahmepoblhbnaadoor", sum := "cde089dff20dca48054275885d9f653420caf530a8021cdc9a2b6c5ce36be174", func := "loop.example/g00389/laws.FnExactNegBcd", spec := "fnExactNegBcd", named := ["loop.example/g00389/impl.ninesLess", "loop.example/g00389/impl.digitSums"], apart := false, laid := [("loop.example/g00389/impl.digitSums", laid_loop_example_g00389_impl_digitSums), ("loop.example/g00389/impl.ninesLess", laid_loop_example_g00389_impl_ninesLess)] }
def FnExactNegBcdSaid : Prop := fnExactNegBcdRow.holds Tryd.pinned (OpenSpec.ofChange fnExactNegBcdSpec)

/-- ITS FALSE NEIGHBOUR: 'it returns false'. Refute it at one input. -/
def fnExactNegBcdWrong : ChangeSpec := { name := "fnExactNegBcd", vars := ["loop.example/g00389/impl.ninesLess", "loop.example/g00389/impl.digitSums"], fn := fun _ => fun
  | [d1, d2, g1, g2] => { results := [.lit (.bool false)], args := [d1, d2], vars := [g1, g2] }
  | _ => none }
def FnExactNegBcdWrongFalsely : Prop := fnExactNegBcdRow.holds Tryd.pinned (OpenSpec.ofChange fnExactNegBcdWrong)

/-- 'laws.FnExactAddDigits': WHATEVER THE INPUT: true; the input reads as it did. -/
def fnExactAddDigitsSpec : ChangeSpec := { name := "fnExactAddDigits", vars := ["loop.example/g00389/impl.digitSums"], fn := fun _ => fun
  | [d1, d2, g1] => { results := [.lit (.bool true)], args := [d1, d2], vars := [g1] }
  | _ => none }
def fnExactAddDigitsRow : OpenClaim := { program := "ytkahmepoblhbnaadoor", sum := "cde089dff20dca48054275885d9f653420caf530a8021cdc9a2b6c5ce36be174", func := "loop.example/g00389/laws.FnExactAddDigits", spec := "fnExactAddDigits", named := ["loop.example/g00389/impl.digitSums"], apart := false, laid := [("loop.example/g00389/impl.digitSums", laid_loop_example_g00389_impl_digitSums)] }
def FnExactAddDigitsSaid : Prop := fnExactAddDigitsRow.holds Tryd.pinned (OpenSpec.ofChange fnExactAddDigitsSpec)

/-- ITS FALSE NEIGHBOUR: 'it returns false'. Refute it at one input. -/
def fnExactAddDigitsWrong : ChangeSpec := { name := "fnExactAddDigits", vars := ["loop.example/g00389/impl.digitSums"], fn := fun _ => fun
  | [d1, d2, g1] => { results := [.lit (.bool false)], args := [d1, d2], vars := [g1] }
  | _ => none }
def FnExactAddDigitsWrongFalsely : Prop := fnExactAddDigitsRow.holds Tryd.pinned (OpenSpec.ofChange fnExactAddDigitsWrong)

/-- 'laws.FnExactComplementBcd': WHATEVER THE INPUT: true; the input reads as it did. -/
def fnExactComplementBcdSpec : ChangeSpec := { name := "fnExactComplementBcd", vars := ["loop.example/g00389/impl.ninesLess"], fn := fun _ => fun
  | [d, g1] => { results := [.lit (.bool true)], args := [d], vars := [g1] }
  | _ => none }
def fnExactComplementBcdRow : OpenClaim := { program := "ytkahmepoblhbnaadoor", sum := "cde089dff20dca48054275885d9f653420caf530a8021cdc9a2b6c5ce36be174", func := "loop.example/g00389/laws.FnExactComplementBcd", spec := "fnExactComplementBcd", named := ["loop.example/g00389/impl.ninesLess"], apart := false, laid := [("loop.example/g00389/impl.ninesLess", laid_loop_example_g00389_impl_ninesLess)] }
def FnExactComplementBcdSaid : Prop := fnExactComplementBcdRow.holds Tryd.pinned (OpenSpec.ofChange fnExactComplementBcdSpec)

/-- ITS FALSE NEIGHBOUR: 'it returns false'. Refute it at one input. -/
def fnExactComplementBcdWrong : ChangeSpec := { name := "fnExactComplementBcd", vars := ["loop.example/g00389/impl.ninesLess"], fn := fun _ => fun
  | [d, g1] => { results := [.lit (.bool false)], args := [d], vars := [g1] }
  | _ => none }
def FnExactComplementBcdWrongFalsely : Prop := fnExactComplementBcdRow.holds Tryd.pinned (OpenSpec.ofChange fnExactComplementBcdWrong)

/- THE SECOND FORM. 'bulk': how many values and letters a reading holds, each counted each time it is reached (what is shared counts as often as it is met; a slice's spare places count too). A statement '..UptoSaid' is the law's where the arguments, and the package variables that the reading takes, are together of bulk at most 1048576: NARROWER than '..Said'. Prove '..Said' where nothing that the law and all that it calls make is longer than what came in: it says more and counts as full. Else prove '..UptoSaid'. A law counts once. -/
mutual
def uptoBulk {H : Type} : DataW H → Nat
  | .lit (.string bytes) => bytes.length + 1
  | .lit _ => 1
  | .nil => 1
  | .ptr d => uptoBulk d + 1
  | .slice elems spare => uptoBulkAll elems + uptoBulkAll spare + 1
  | .agg parts => uptoBulkAll parts + 1
  | .iface _ d => uptoBulk d + 1
  | .map entries => uptoBulkEntries entries + 1
  | .held _ => 1
def uptoBulkAll {H : Type} : List (DataW H) → Nat
  | [] => 0
  | d :: r => uptoBulk d + uptoBulkAll r
def uptoBulkEntries {H : Type} : List (Lit × DataW H) → Nat
  | [] => 0
  | x :: r => uptoBulkEntry x + uptoBulkEntries r
def uptoBulkEntry {H : Type} : Lit × DataW H → Nat
  | (.string bytes, d) => bytes.length + uptoBulk d + 1
  | (_, d) => uptoBulk d + 1
 end
def uptoSmall : (H : Type) → List (DataW H) → Bool := fun _ ds => decide (uptoBulkAll ds ≤ 1048576)
def OpenSpec.upto (s : _root_.Go.ChangeSpec) : _root_.Go.OpenSpec := { _root_.Go.OpenSpec.ofChange s with cond := some uptoSmall }

/-- 'laws.FnBcd', WHERE WHAT IT READS IS OF BULK AT MOST 1048576: true; the input reads as it did. -/
def fnBcdUptoRow : OpenClaim := { program := "ytkahmepoblhbnaadoor", sum := "cde089dff20dca48054275885d9f653420caf530a8021cdc9a2b6c5ce36be174", func := "loop.example/g00389/laws.FnBcd", spec := "fnBcd", named := ["loop.example/g00389/impl.digitSums", "loop.example/g00389/impl.ninesLess"], apart := false, laid := [("loop.example/g00389/impl.digitSums", laid_loop_example_g00389_impl_digitSums), ("loop.example/g00389/impl.ninesLess", laid_loop_example_g00389_impl_ninesLess)], narrowed := true }
def FnBcdUptoSaid : Prop := fnBcdUptoRow.holds Tryd.pinned (OpenSpec.upto fnBcdSpec)

/-- 'laws.FnDigits', WHERE WHAT IT READS IS OF BULK AT MOST 1048576: true; the input reads as it did. -/
def fnDigitsUptoRow : OpenClaim := { program := "ytkahmepoblhbnaadoor", sum := "cde089dff20dca48054275885d9f653420caf530a8021cdc9a2b6c5ce36be174", func := "loop.example/g00389/laws.FnDigits", spec := "fnDigits", named := ["loop.example/g00389/impl.digitSums", "loop.example/g00389/impl.ninesLess"], apart := false, laid := [("loop.example/g00389/impl.digitSums", laid_loop_example_g00389_impl_digitSums), ("loop.example/g00389/impl.ninesLess", laid_loop_example_g00389_impl_ninesLess)], narrowed := true }
def FnDigitsUptoSaid : Prop := fnDigitsUptoRow.holds Tryd.pinned (OpenSpec.upto fnDigitsSpec)

/-- 'laws.FnExactAddBcd', WHERE WHAT IT READS IS OF BULK AT MOST 1048576: true; the input reads as it did. -/
def fnExactAddBcdUptoRow : OpenClaim := { program := "ytkahmepoblhbnaadoor", sum := "cde089dff20dca48054275885d9f653420caf530a8021cdc9a2b6c5ce36be174", func := "loop.example/g00389/laws.FnExactAddBcd", spec := "fnExactAddBcd", named := ["loop.example/g00389/impl.digitSums"], apart := false, laid := [("loop.example/g00389/impl.digitSums", laid_loop_example_g00389_impl_digitSums)], narrowed := true }
def FnExactAddBcdUptoSaid : Prop := fnExactAddBcdUptoRow.holds Tryd.pinned (OpenSpec.upto fnExactAddBcdSpec)

/-- 'laws.FnExactSubBcd', WHERE WHAT IT READS IS OF BULK AT MOST 1048576: true; the input reads as it did. -/
def fnExactSubBcdUptoRow : OpenClaim := { program := "ytkahmepoblhbnaadoor", sum := "cde089dff20dca48054275885d9f653420caf530a8021cdc9a2b6c5ce36be174", func := "loop.example/g00389/laws.FnExactSubBcd", spec := "fnExactSubBcd", named := ["loop.example/g00389/impl.ninesLess", "loop.example/g00389/impl.digitSums"], apart := false, laid := [("loop.example/g00389/impl.digitSums", laid_loop_example_g00389_impl_digitSums), ("loop.example/g00389/impl.ninesLess", laid_loop_example_g00389_impl_ninesLess)], narrowed := true }
def FnExactSubBcdUptoSaid : Prop := fnExactSubBcdUptoRow.holds Tryd.pinned (OpenSpec.upto fnExactSubBcdSpec)

/-- 'laws.FnExactNegBcd', WHERE WHAT IT READS IS OF BULK AT MOST 1048576: true; the input reads as it did. -/
def fnExactNegBcdUptoRow : OpenClaim := { program := "ytkahmepoblhbnaadoor", sum := "cde089dff20dca48054275885d9f653420caf530a8021cdc9a2b6c5ce36be174", func := "loop.example/g00389/laws.FnExactNegBcd", spec := "fnExactNegBcd", named := ["loop.example/g00389/impl.ninesLess", "loop.example/g00389/impl.digitSums"], apart := false, laid := [("loop.example/g00389/impl.digitSums", laid_loop_example_g00389_impl_digitSums), ("loop.example/g00389/impl.ninesLess", laid_loop_example_g00389_impl_ninesLess)], narrowed := true }
def FnExactNegBcdUptoSaid : Prop := fnExactNegBcdUptoRow.holds Tryd.pinned (OpenSpec.upto fnExactNegBcdSpec)

/-- 'laws.FnExactAddDigits', WHERE WHAT IT READS IS OF BULK AT MOST 1048576: true; the input reads as it did. -/
def fnExactAddDigitsUptoRow : OpenClaim := { program := "ytkahmepoblhbnaadoor", sum := "cde089dff20dca48054275885d9f653420caf530a8021cdc9a2b6c5ce36be174", func := "loop.example/g00389/laws.FnExactAddDigits", spec := "fnExactAddDigits", named := ["loop.example/g00389/impl.digitSums"], apart := false, laid := [("loop.example/g00389/impl.digitSums", laid_loop_example_g00389_impl_digitSums)], narrowed := true }
def FnExactAddDigitsUptoSaid : Prop := fnExactAddDigitsUptoRow.holds Tryd.pinned (OpenSpec.upto fnExactAddDigitsSpec)

/-- 'laws.FnExactComplementBcd', WHERE WHAT IT READS IS OF BULK AT MOST 1048576: true; the input reads as it did. -/
def fnExactComplementBcdUptoRow : OpenClaim := { program := "ytkahmepoblhbnaadoor", sum := "cde089dff20dca48054275885d9f653420caf530a8021cdc9a2b6c5ce36be174", func := "loop.example/g00389/laws.FnExactComplementBcd", spec := "fnExactComplementBcd", named := ["loop.example/g00389/impl.ninesLess"], apart := false, laid := [("loop.example/g00389/impl.ninesLess", laid_loop_example_g00389_impl_ninesLess)], narrowed := true }
def FnExactComplementBcdUptoSaid : Prop := fnExactComplementBcdUptoRow.holds Tryd.pinned (OpenSpec.upto fnExactComplementBcdSpec)

end Rows
end Go.Proofs.YtkahmepoblhbnaaDoor
