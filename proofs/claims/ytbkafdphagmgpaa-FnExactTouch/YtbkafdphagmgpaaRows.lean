/-
  No cell of these rows narrows 'for every input' (looked for: loops, veiled, ifaces, maps, wideKeys, modest, calm, conditions, laid).
  DERIVED. THE GIVEN ROWS OF THIS SEAT. 7 by the template 'for every input the law returns true; each argument reads behind the call as it read before'; 0 by the template 'total and deterministic' (their statements: YtbkafdphagmgpaaTotals.lean).
  GIVEN WITH THE SEED: the statements are not yours to turn. If you find one false, say at which input.
  Laid BY PROGRAM, IN A SANDBOX (cutbox-rows.mjs): the forced cells as the released guide's own fill.sh prints them over the translation 3f4b15346ca6b396… (all of the seat's roots in one cut). By AI agents, Wed Nov 11 2026. No macro, syntax, notation, axiom, sorry.
-/
import Derived.Test.YtbkafdphagmgpaaChecked
import GoSem.Claim
import GoSem.ClaimJoined
import GoSem.ClaimMapViews
import Derived.JoinedTies
import Derived.KernelRfl
namespace Go.Proofs.Ytbkafdphagmgpaa
/- THE CELL 'sum', in the pinned program and in every row, IS THE sha256 OF THE DUMP (.gsa) THAT YtbkafdphagmgpaaProg.lean LOADS. Nothing in Lean hashes anything: it is a label: what it is worth is what the hold of that sum in a sandbox is worth. -/
noncomputable def Try.pinned : Pinned := { name := "ytbkafdphagmgpaa", sum := "3f4b15346ca6b39635e2a50fc698f8de63d168a69c6973a05c3867b5203d4f57", checked := Try.checked }
namespace Rows
def none {H : Type} : Left H := { results := [], args := [] }

/-- 'laws.FnExactNewBus': WHATEVER THE INPUT: true; the input reads as it did. -/
def fnExactNewBusSpec : ChangeSpec := { name := "fnExactNewBus", fn := fun _ => fun
  | [d1, d2] => { results := [.lit (.bool true)], args := [d1, d2] }
  | _ => none }
def fnExactNewBusRow : OpenClaim := { program := "ytbkafdphagmgpaa", sum := "3f4b15346ca6b39635e2a50fc698f8de63d168a69c6973a05c3867b5203d4f57", func := "loop.example/g00389/laws.FnExactNewBus", spec := "fnExactNewBus", apart := false }
def FnExactNewBusSaid : Prop := fnExactNewBusRow.holds Try.pinned (OpenSpec.ofChange fnExactNewBusSpec)

/-- ITS FALSE NEIGHBOUR: 'it returns false'. Refute it at one input. -/
def fnExactNewBusWrong : ChangeSpec := { name := "fnExactNewBus", fn := fun _ => fun
  | [d1, d2] => { results := [.lit (.bool false)], args := [d1, d2] }
  | _ => none }
def FnExactNewBusWrongFalsely : Prop := fnExactNewBusRow.holds Try.pinned (OpenSpec.ofChange fnExactNewBusWrong)

/-- 'laws.FnExactGoodBus': WHATEVER THE INPUT: true; the input reads as it did. -/
def fnExactGoodBusSpec : ChangeSpec := { name := "fnExactGoodBus", fn := fun _ => fun
  | [d] => { results := [.lit (.bool true)], args := [d] }
  | _ => none }
def fnExactGoodBusRow : OpenClaim := { program := "ytbkafdphagmgpaa", sum := "3f4b15346ca6b39635e2a50fc698f8de63d168a69c6973a05c3867b5203d4f57", func := "loop.example/g00389/laws.FnExactGoodBus", spec := "fnExactGoodBus", apart := false }
def FnExactGoodBusSaid : Prop := fnExactGoodBusRow.holds Try.pinned (OpenSpec.ofChange fnExactGoodBusSpec)

/-- ITS FALSE NEIGHBOUR: 'it returns false'. Refute it at one input. -/
def fnExactGoodBusWrong : ChangeSpec := { name := "fnExactGoodBus", fn := fun _ => fun
  | [d] => { results := [.lit (.bool false)], args := [d] }
  | _ => none }
def FnExactGoodBusWrongFalsely : Prop := fnExactGoodBusRow.holds Try.pinned (OpenSpec.ofChange fnExactGoodBusWrong)

/-- 'laws.FnExactTouch': WHATEVER THE INPUT: true; the input reads as it did. -/
def fnExactTouchSpec : ChangeSpec := { name := "fnExactTouch", fn := fun _ => fun
  | [d1, d2, d3, d4, d5] => { results := [.lit (.bool true)], args := [d1, d2, d3, d4, d5] }
  | _ => none }
def fnExactTouchRow : OpenClaim := { program := "ytbkafdphagmgpaa", sum := "3f4b15346ca6b39635e2a50fc698f8de63d168a69c6973a05c3867b5203d4f57", func := "loop.example/g00389/laws.FnExactTouch", spec := "fnExactTouch", apart := false }
def FnExactTouchSaid : Prop := fnExactTouchRow.holds Try.pinned (OpenSpec.ofChange fnExactTouchSpec)

/-- ITS FALSE NEIGHBOUR: 'it returns false'. Refute it at one input. -/
def fnExactTouchWrong : ChangeSpec := { name := "fnExactTouch", fn := fun _ => fun
  | [d1, d2, d3, d4, d5] => { results := [.lit (.bool false)], args := [d1, d2, d3, d4, d5] }
  | _ => none }
def FnExactTouchWrongFalsely : Prop := fnExactTouchRow.holds Try.pinned (OpenSpec.ofChange fnExactTouchWrong)

/-- 'laws.FnExactPeekWord': WHATEVER THE INPUT: true; the input reads as it did. -/
def fnExactPeekWordSpec : ChangeSpec := { name := "fnExactPeekWord", fn := fun _ => fun
  | [d1, d2] => { results := [.lit (.bool true)], args := [d1, d2] }
  | _ => none }
def fnExactPeekWordRow : OpenClaim := { program := "ytbkafdphagmgpaa", sum := "3f4b15346ca6b39635e2a50fc698f8de63d168a69c6973a05c3867b5203d4f57", func := "loop.example/g00389/laws.FnExactPeekWord", spec := "fnExactPeekWord", apart := false }
def FnExactPeekWordSaid : Prop := fnExactPeekWordRow.holds Try.pinned (OpenSpec.ofChange fnExactPeekWordSpec)

/-- ITS FALSE NEIGHBOUR: 'it returns false'. Refute it at one input. -/
def fnExactPeekWordWrong : ChangeSpec := { name := "fnExactPeekWord", fn := fun _ => fun
  | [d1, d2] => { results := [.lit (.bool false)], args := [d1, d2] }
  | _ => none }
def FnExactPeekWordWrongFalsely : Prop := fnExactPeekWordRow.holds Try.pinned (OpenSpec.ofChange fnExactPeekWordWrong)

/-- 'laws.FnExactKindOf': WHATEVER THE INPUT: true; the input reads as it did. -/
def fnExactKindOfSpec : ChangeSpec := { name := "fnExactKindOf", fn := fun _ => fun
  | [d] => { results := [.lit (.bool true)], args := [d] }
  | _ => none }
def fnExactKindOfRow : OpenClaim := { program := "ytbkafdphagmgpaa", sum := "3f4b15346ca6b39635e2a50fc698f8de63d168a69c6973a05c3867b5203d4f57", func := "loop.example/g00389/laws.FnExactKindOf", spec := "fnExactKindOf", apart := false }
def FnExactKindOfSaid : Prop := fnExactKindOfRow.holds Try.pinned (OpenSpec.ofChange fnExactKindOfSpec)

/-- ITS FALSE NEIGHBOUR: 'it returns false'. Refute it at one input. -/
def fnExactKindOfWrong : ChangeSpec := { name := "fnExactKindOf", fn := fun _ => fun
  | [d] => { results := [.lit (.bool false)], args := [d] }
  | _ => none }
def FnExactKindOfWrongFalsely : Prop := fnExactKindOfRow.holds Try.pinned (OpenSpec.ofChange fnExactKindOfWrong)

/-- 'laws.FnExactLogOf': WHATEVER THE INPUT: true; the input reads as it did. -/
def fnExactLogOfSpec : ChangeSpec := { name := "fnExactLogOf", fn := fun _ => fun
  | [d1, d2] => { results := [.lit (.bool true)], args := [d1, d2] }
  | _ => none }
def fnExactLogOfRow : OpenClaim := { program := "ytbkafdphagmgpaa", sum := "3f4b15346ca6b39635e2a50fc698f8de63d168a69c6973a05c3867b5203d4f57", func := "loop.example/g00389/laws.FnExactLogOf", spec := "fnExactLogOf", apart := false }
def FnExactLogOfSaid : Prop := fnExactLogOfRow.holds Try.pinned (OpenSpec.ofChange fnExactLogOfSpec)

/-- ITS FALSE NEIGHBOUR: 'it returns false'. Refute it at one input. -/
def fnExactLogOfWrong : ChangeSpec := { name := "fnExactLogOf", fn := fun _ => fun
  | [d1, d2] => { results := [.lit (.bool false)], args := [d1, d2] }
  | _ => none }
def FnExactLogOfWrongFalsely : Prop := fnExactLogOfRow.holds Try.pinned (OpenSpec.ofChange fnExactLogOfWrong)

/-- 'laws.FnExactSameMemory': WHATEVER THE INPUT: true; the input reads as it did. -/
def fnExactSameMemorySpec : ChangeSpec := { name := "fnExactSameMemory", fn := fun _ => fun
  | [d1, d2] => { results := [.lit (.bool true)], args := [d1, d2] }
  | _ => none }
def fnExactSameMemoryRow : OpenClaim := { program := "ytbkafdphagmgpaa", sum := "3f4b15346ca6b39635e2a50fc698f8de63d168a69c6973a05c3867b5203d4f57", func := "loop.example/g00389/laws.FnExactSameMemory", spec := "fnExactSameMemory", apart := false }
def FnExactSameMemorySaid : Prop := fnExactSameMemoryRow.holds Try.pinned (OpenSpec.ofChange fnExactSameMemorySpec)

/-- ITS FALSE NEIGHBOUR: 'it returns false'. Refute it at one input. -/
def fnExactSameMemoryWrong : ChangeSpec := { name := "fnExactSameMemory", fn := fun _ => fun
  | [d1, d2] => { results := [.lit (.bool false)], args := [d1, d2] }
  | _ => none }
def FnExactSameMemoryWrongFalsely : Prop := fnExactSameMemoryRow.holds Try.pinned (OpenSpec.ofChange fnExactSameMemoryWrong)

/- THE SECOND FORM. 'bulk': how many values and letters a reading holds, each counted each time it is reached (what is shared counts as often as it is met; a slice's spare places count too). A statement '..UptoSaid' is the law's where the arguments, and the package variables that the reading takes, are together of bulk at most 1048576: NARROWER than '..Said'. Prove '..Said' where nothing that the law and all that it calls make is longer than what came in: it says more and counts as full. Else prove '..UptoSaid'. A law counts once. -/
mutual
def uptoBulk {H : Type} : DataW H → Nat
  | .lit (.string bytes) => bytes.length + 1
  | .lit _ => 1
  | .nil => 1
  | .ptr d => uptoBulk d + 1
  | .slice elems spare => uptoBulkAll elems + uptoBulkAll spare + 1
  | .agg parts => uptoBulkAll parts + 1
  | .iface _ d => uptoBulk d + 1
  | .map entries => uptoBulkEntries entries + 1
  | .held _ => 1
def uptoBulkAll {H : Type} : List (DataW H) → Nat
  | [] => 0
  | d :: r => uptoBulk d + uptoBulkAll r
def uptoBulkEntries {H : Type} : List (Lit × DataW H) → Nat
  | [] => 0
  | x :: r => uptoBulkEntry x + uptoBulkEntries r
def uptoBulkEntry {H : Type} : Lit × DataW H → Nat
  | (.string bytes, d) => bytes.length + uptoBulk d + 1
  | (_, d) => uptoBulk d + 1
 end
def uptoSmall : (H : Type) → List (DataW H) → Bool := fun _ ds => decide (uptoBulkAll ds ≤ 1048576)
def OpenSpec.upto (s : _root_.Go.ChangeSpec) : _root_.Go.OpenSpec := { _root_.Go.OpenSpec.ofChange s with cond := some uptoSmall }

/-- 'laws.FnExactNewBus', WHERE WHAT IT READS IS OF BULK AT MOST 1048576: true; the input reads as it did. -/
def fnExactNewBusUptoRow : OpenClaim := { program := "ytbkafdphagmgpaa", sum := "3f4b15346ca6b39635e2a50fc698f8de63d168a69c6973a05c3867b5203d4f57", func := "loop.example/g00389/laws.FnExactNewBus", spec := "fnExactNewBus", apart := false, narrowed := true }
def FnExactNewBusUptoSaid : Prop := fnExactNewBusUptoRow.holds Try.pinned (OpenSpec.upto fnExactNewBusSpec)

/-- 'laws.FnExactGoodBus', WHERE WHAT IT READS IS OF BULK AT MOST 1048576: true; the input reads as it did. -/
def fnExactGoodBusUptoRow : OpenClaim := { program := "ytbkafdphagmgpaa", sum := "3f4b15346ca6b39635e2a50fc698f8de63d168a69c6973a05c3867b5203d4f57", func := "loop.example/g00389/laws.FnExactGoodBus", spec := "fnExactGoodBus", apart := false, narrowed := true }
def FnExactGoodBusUptoSaid : Prop := fnExactGoodBusUptoRow.holds Try.pinned (OpenSpec.upto fnExactGoodBusSpec)

/-- 'laws.FnExactTouch', WHERE WHAT IT READS IS OF BULK AT MOST 1048576: true; the input reads as it did. -/
def fnExactTouchUptoRow : OpenClaim := { program := "ytbkafdphagmgpaa", sum := "3f4b15346ca6b39635e2a50fc698f8de63d168a69c6973a05c3867b5203d4f57", func := "loop.example/g00389/laws.FnExactTouch", spec := "fnExactTouch", apart := false, narrowed := true }
def FnExactTouchUptoSaid : Prop := fnExactTouchUptoRow.holds Try.pinned (OpenSpec.upto fnExactTouchSpec)

/-- 'laws.FnExactPeekWord', WHERE WHAT IT READS IS OF BULK AT MOST 1048576: true; the input reads as it did. -/
def fnExactPeekWordUptoRow : OpenClaim := { program := "ytbkafdphagmgpaa", sum := "3f4b15346ca6b39635e2a50fc698f8de63d168a69c6973a05c3867b5203d4f57", func := "loop.example/g00389/laws.FnExactPeekWord", spec := "fnExactPeekWord", apart := false, narrowed := true }
def FnExactPeekWordUptoSaid : Prop := fnExactPeekWordUptoRow.holds Try.pinned (OpenSpec.upto fnExactPeekWordSpec)

/-- 'laws.FnExactKindOf', WHERE WHAT IT READS IS OF BULK AT MOST 1048576: true; the input reads as it did. -/
def fnExactKindOfUptoRow : OpenClaim := { program := "ytbkafdphagmgpaa", sum := "3f4b15346ca6b39635e2a50fc698f8de63d168a69c6973a05c3867b5203d4f57", func := "loop.example/g00389/laws.FnExactKindOf", spec := "fnExactKindOf", apart := false, narrowed := true }
def FnExactKindOfUptoSaid : Prop := fnExactKindOfUptoRow.holds Try.pinned (OpenSpec.upto fnExactKindOfSpec)

/-- 'laws.FnExactLogOf', WHERE WHAT IT READS IS OF BULK AT MOST 1048576: true; the input reads as it did. -/
def fnExactLogOfUptoRow : OpenClaim := { program := "ytbkafdphagmgpaa", sum := "3f4b15346ca6b39635e2a50fc698f8de63d168a69c6973a05c3867b5203d4f57", func := "loop.example/g00389/laws.FnExactLogOf", spec := "fnExactLogOf", apart := false, narrowed := true }
def FnExactLogOfUptoSaid : Prop := fnExactLogOfUptoRow.holds Try.pinned (OpenSpec.upto fnExactLogOfSpec)

/-- 'laws.FnExactSameMemory', WHERE WHAT IT READS IS OF BULK AT MOST 1048576: true; the input reads as it did. -/
def fnExactSameMemoryUptoRow : OpenClaim := { program := "ytbkafdphagmgpaa", sum := "3f4b15346ca6b39635e2a50fc698f8de63d168a69c6973a05c3867b5203d4f57", func := "loop.example/g00389/laws.FnExactSameMemory", spec := "fnExactSameMemory", apart := false, narrowed := true }
def FnExactSameMemoryUptoSaid : Prop := fnExactSameMemoryUptoRow.holds Try.pinned (OpenSpec.upto fnExactSameMemorySpec)

end Rows
end Go.Proofs.Ytbkafdphagmgpaa
