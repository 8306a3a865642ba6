/-
  No cell of these rows narrows 'for every input' (looked for: loops, veiled, ifaces, maps, wideKeys, modest, calm, conditions, laid).
  DERIVED. THE GIVEN ROWS OF THIS SEAT. 5 by the template 'for every input the law returns true; each argument reads behind the call as it read before'; 0 by the template 'total and deterministic' (their statements: YtkkmnnhaailkcaaTotals.lean).
  GIVEN WITH THE SEED: the statements are not yours to turn. If you find one false, say at which input.
  Laid BY PROGRAM, IN A SANDBOX (cutbox-rows.mjs): the forced cells as the released guide's own fill.sh prints them over the translation ee8a07438d0cdf4e… (all of the seat's roots in one cut). By AI agents, Wed Nov 11 2026. No macro, syntax, notation, axiom, sorry.
-/
import Derived.Test.YtkkmnnhaailkcaaChecked
import GoSem.Claim
import GoSem.ClaimJoined
import GoSem.ClaimMapViews
import Derived.JoinedTies
import Derived.KernelRfl
namespace Go.Proofs.Ytkkmnnhaailkcaa
/- THE CELL 'sum', in the pinned program and in every row, IS THE sha256 OF THE DUMP (.gsa) THAT YtkkmnnhaailkcaaProg.lean LOADS. Nothing in Lean hashes anything: it is a label: what it is worth is what the hold of that sum in a sandbox is worth. -/
noncomputable def Try.pinned : Pinned := { name := "ytkkmnnhaailkcaa", sum := "ee8a07438d0cdf4e91a4e5ce549c2f10399b632c262a733b3735c992a4010ee9", checked := Try.checked }
namespace Rows
def none {H : Type} : Left H := { results := [], args := [] }

/-- 'laws.FnExactGoodFault': WHATEVER THE INPUT: true; the input reads as it did. -/
def fnExactGoodFaultSpec : ChangeSpec := { name := "fnExactGoodFault", fn := fun _ => fun
  | [d] => { results := [.lit (.bool true)], args := [d] }
  | _ => none }
def fnExactGoodFaultRow : OpenClaim := { program := "ytkkmnnhaailkcaa", sum := "ee8a07438d0cdf4e91a4e5ce549c2f10399b632c262a733b3735c992a4010ee9", func := "loop.example/g00389/laws.FnExactGoodFault", spec := "fnExactGoodFault", apart := false }
def FnExactGoodFaultSaid : Prop := fnExactGoodFaultRow.holds Try.pinned (OpenSpec.ofChange fnExactGoodFaultSpec)

/-- ITS FALSE NEIGHBOUR: 'it returns false'. Refute it at one input. -/
def fnExactGoodFaultWrong : ChangeSpec := { name := "fnExactGoodFault", fn := fun _ => fun
  | [d] => { results := [.lit (.bool false)], args := [d] }
  | _ => none }
def FnExactGoodFaultWrongFalsely : Prop := fnExactGoodFaultRow.holds Try.pinned (OpenSpec.ofChange fnExactGoodFaultWrong)

/-- 'laws.FnExactFrameOf': WHATEVER THE INPUT: true; the input reads as it did. -/
def fnExactFrameOfSpec : ChangeSpec := { name := "fnExactFrameOf", fn := fun _ => fun
  | [d1, d2] => { results := [.lit (.bool true)], args := [d1, d2] }
  | _ => none }
def fnExactFrameOfRow : OpenClaim := { program := "ytkkmnnhaailkcaa", sum := "ee8a07438d0cdf4e91a4e5ce549c2f10399b632c262a733b3735c992a4010ee9", func := "loop.example/g00389/laws.FnExactFrameOf", spec := "fnExactFrameOf", apart := false }
def FnExactFrameOfSaid : Prop := fnExactFrameOfRow.holds Try.pinned (OpenSpec.ofChange fnExactFrameOfSpec)

/-- ITS FALSE NEIGHBOUR: 'it returns false'. Refute it at one input. -/
def fnExactFrameOfWrong : ChangeSpec := { name := "fnExactFrameOf", fn := fun _ => fun
  | [d1, d2] => { results := [.lit (.bool false)], args := [d1, d2] }
  | _ => none }
def FnExactFrameOfWrongFalsely : Prop := fnExactFrameOfRow.holds Try.pinned (OpenSpec.ofChange fnExactFrameOfWrong)

/-- 'laws.FnExactIsLongFrame': WHATEVER THE INPUT: true; the input reads as it did. -/
def fnExactIsLongFrameSpec : ChangeSpec := { name := "fnExactIsLongFrame", fn := fun _ => fun
  | [d] => { results := [.lit (.bool true)], args := [d] }
  | _ => none }
def fnExactIsLongFrameRow : OpenClaim := { program := "ytkkmnnhaailkcaa", sum := "ee8a07438d0cdf4e91a4e5ce549c2f10399b632c262a733b3735c992a4010ee9", func := "loop.example/g00389/laws.FnExactIsLongFrame", spec := "fnExactIsLongFrame", apart := false }
def FnExactIsLongFrameSaid : Prop := fnExactIsLongFrameRow.holds Try.pinned (OpenSpec.ofChange fnExactIsLongFrameSpec)

/-- ITS FALSE NEIGHBOUR: 'it returns false'. Refute it at one input. -/
def fnExactIsLongFrameWrong : ChangeSpec := { name := "fnExactIsLongFrame", fn := fun _ => fun
  | [d] => { results := [.lit (.bool false)], args := [d] }
  | _ => none }
def FnExactIsLongFrameWrongFalsely : Prop := fnExactIsLongFrameRow.holds Try.pinned (OpenSpec.ofChange fnExactIsLongFrameWrong)

/-- 'laws.FnExactInfoOf': WHATEVER THE INPUT: true; the input reads as it did. -/
def fnExactInfoOfSpec : ChangeSpec := { name := "fnExactInfoOf", fn := fun _ => fun
  | [d1, d2] => { results := [.lit (.bool true)], args := [d1, d2] }
  | _ => none }
def fnExactInfoOfRow : OpenClaim := { program := "ytkkmnnhaailkcaa", sum := "ee8a07438d0cdf4e91a4e5ce549c2f10399b632c262a733b3735c992a4010ee9", func := "loop.example/g00389/laws.FnExactInfoOf", spec := "fnExactInfoOf", apart := false }
def FnExactInfoOfSaid : Prop := fnExactInfoOfRow.holds Try.pinned (OpenSpec.ofChange fnExactInfoOfSpec)

/-- ITS FALSE NEIGHBOUR: 'it returns false'. Refute it at one input. -/
def fnExactInfoOfWrong : ChangeSpec := { name := "fnExactInfoOf", fn := fun _ => fun
  | [d1, d2] => { results := [.lit (.bool false)], args := [d1, d2] }
  | _ => none }
def FnExactInfoOfWrongFalsely : Prop := fnExactInfoOfRow.holds Try.pinned (OpenSpec.ofChange fnExactInfoOfWrong)

/-- 'laws.FnExactVectorAt': WHATEVER THE INPUT: true; the input reads as it did. -/
def fnExactVectorAtSpec : ChangeSpec := { name := "fnExactVectorAt", fn := fun _ => fun
  | [d1, d2] => { results := [.lit (.bool true)], args := [d1, d2] }
  | _ => none }
def fnExactVectorAtRow : OpenClaim := { program := "ytkkmnnhaailkcaa", sum := "ee8a07438d0cdf4e91a4e5ce549c2f10399b632c262a733b3735c992a4010ee9", func := "loop.example/g00389/laws.FnExactVectorAt", spec := "fnExactVectorAt", apart := false }
def FnExactVectorAtSaid : Prop := fnExactVectorAtRow.holds Try.pinned (OpenSpec.ofChange fnExactVectorAtSpec)

/-- ITS FALSE NEIGHBOUR: 'it returns false'. Refute it at one input. -/
def fnExactVectorAtWrong : ChangeSpec := { name := "fnExactVectorAt", fn := fun _ => fun
  | [d1, d2] => { results := [.lit (.bool false)], args := [d1, d2] }
  | _ => none }
def FnExactVectorAtWrongFalsely : Prop := fnExactVectorAtRow.holds Try.pinned (OpenSpec.ofChange fnExactVectorAtWrong)

/- THE SECOND FORM. 'bulk': how many values and letters a reading holds, each counted each time it is reached (what is shared counts as often as it is met; a slice's spare places count too). A statement '..UptoSaid' is the law's where the arguments, and the package variables that the reading takes, are together of bulk at most 1048576: NARROWER than '..Said'. Prove '..Said' where nothing that the law and all that it calls make is longer than what came in: it says more and counts as full. Else prove '..UptoSaid'. A law counts once. -/
mutual
def uptoBulk {H : Type} : DataW H → Nat
  | .lit (.string bytes) => bytes.length + 1
  | .lit _ => 1
  | .nil => 1
  | .ptr d => uptoBulk d + 1
  | .slice elems spare => uptoBulkAll elems + uptoBulkAll spare + 1
  | .agg parts => uptoBulkAll parts + 1
  | .iface _ d => uptoBulk d + 1
  | .map entries => uptoBulkEntries entries + 1
  | .held _ => 1
def uptoBulkAll {H : Type} : List (DataW H) → Nat
  | [] => 0
  | d :: r => uptoBulk d + uptoBulkAll r
def uptoBulkEntries {H : Type} : List (Lit × DataW H) → Nat
  | [] => 0
  | x :: r => uptoBulkEntry x + uptoBulkEntries r
def uptoBulkEntry {H : Type} : Lit × DataW H → Nat
  | (.string bytes, d) => bytes.length + uptoBulk d + 1
  | (_, d) => uptoBulk d + 1
 end
def uptoSmall : (H : Type) → List (DataW H) → Bool := fun _ ds => decide (uptoBulkAll ds ≤ 1048576)
def OpenSpec.upto (s : _root_.Go.ChangeSpec) : _root_.Go.OpenSpec := { _root_.Go.OpenSpec.ofChange s with cond := some uptoSmall }

/-- 'laws.FnExactGoodFault', WHERE WHAT IT READS IS OF BULK AT MOST 1048576: true; the input reads as it did. -/
def fnExactGoodFaultUptoRow : OpenClaim := { program := "ytkkmnnhaailkcaa", sum := "ee8a07438d0cdf4e91a4e5ce549c2f10399b632c262a733b3735c992a4010ee9", func := "loop.example/g00389/laws.FnExactGoodFault", spec := "fnExactGoodFault", apart := false, narrowed := true }
def FnExactGoodFaultUptoSaid : Prop := fnExactGoodFaultUptoRow.holds Try.pinned (OpenSpec.upto fnExactGoodFaultSpec)

/-- 'laws.FnExactFrameOf', WHERE WHAT IT READS IS OF BULK AT MOST 1048576: true; the input reads as it did. -/
def fnExactFrameOfUptoRow : OpenClaim := { program := "ytkkmnnhaailkcaa", sum := "ee8a07438d0cdf4e91a4e5ce549c2f10399b632c262a733b3735c992a4010ee9", func := "loop.example/g00389/laws.FnExactFrameOf", spec := "fnExactFrameOf", apart := false, narrowed := true }
def FnExactFrameOfUptoSaid : Prop := fnExactFrameOfUptoRow.holds Try.pinned (OpenSpec.upto fnExactFrameOfSpec)

/-- 'laws.FnExactIsLongFrame', WHERE WHAT IT READS IS OF BULK AT MOST 1048576: true; the input reads as it did. -/
def fnExactIsLongFrameUptoRow : OpenClaim := { program := "ytkkmnnhaailkcaa", sum := "ee8a07438d0cdf4e91a4e5ce549c2f10399b632c262a733b3735c992a4010ee9", func := "loop.example/g00389/laws.FnExactIsLongFrame", spec := "fnExactIsLongFrame", apart := false, narrowed := true }
def FnExactIsLongFrameUptoSaid : Prop := fnExactIsLongFrameUptoRow.holds Try.pinned (OpenSpec.upto fnExactIsLongFrameSpec)

/-- 'laws.FnExactInfoOf', WHERE WHAT IT READS IS OF BULK AT MOST 1048576: true; the input reads as it did. -/
def fnExactInfoOfUptoRow : OpenClaim := { program := "ytkkmnnhaailkcaa", sum := "ee8a07438d0cdf4e91a4e5ce549c2f10399b632c262a733b3735c992a4010ee9", func := "loop.example/g00389/laws.FnExactInfoOf", spec := "fnExactInfoOf", apart := false, narrowed := true }
def FnExactInfoOfUptoSaid : Prop := fnExactInfoOfUptoRow.holds Try.pinned (OpenSpec.upto fnExactInfoOfSpec)

/-- 'laws.FnExactVectorAt', WHERE WHAT IT READS IS OF BULK AT MOST 1048576: true; the input reads as it did. -/
def fnExactVectorAtUptoRow : OpenClaim := { program := "ytkkmnnhaailkcaa", sum := "ee8a07438d0cdf4e91a4e5ce549c2f10399b632c262a733b3735c992a4010ee9", func := "loop.example/g00389/laws.FnExactVectorAt", spec := "fnExactVectorAt", apart := false, narrowed := true }
def FnExactVectorAtUptoSaid : Prop := fnExactVectorAtUptoRow.holds Try.pinned (OpenSpec.upto fnExactVectorAtSpec)

end Rows
end Go.Proofs.Ytkkmnnhaailkcaa
