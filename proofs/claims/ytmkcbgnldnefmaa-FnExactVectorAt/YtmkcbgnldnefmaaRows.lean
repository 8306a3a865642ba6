/-
  No cell of these rows narrows 'for every input' (looked for: loops, veiled, ifaces, maps, wideKeys, modest, calm, conditions, laid).
  DERIVED. THE GIVEN ROWS OF THIS SEAT. 4 by the template 'for every input the law returns true; each argument reads behind the call as it read before'; 0 by the template 'total and deterministic' (their statements: YtmkcbgnldnefmaaTotals.lean).
  GIVEN WITH THE SEED: the statements are not yours to turn. If you find one false, say at which input.
  Laid BY PROGRAM, IN A SANDBOX (cutbox-rows.mjs): the forced cells as the released guide's own fill.sh prints them over the translation dc720a3d1cc1faed… (all of the seat's roots in one cut). By AI agents, Wed Nov 11 2026. No macro, syntax, notation, axiom, sorry.
-/
import Derived.Test.YtmkcbgnldnefmaaChecked
import GoSem.Claim
import GoSem.ClaimJoined
import GoSem.ClaimMapViews
import Derived.JoinedTies
import Derived.KernelRfl
namespace Go.Proofs.Ytmkcbgnldnefmaa
/- THE CELL 'sum', in the pinned program and in every row, IS THE sha256 OF THE DUMP (.gsa) THAT YtmkcbgnldnefmaaProg.lean LOADS. Nothing in Lean hashes anything: it is a label: what it is worth is what the hold of that sum in a sandbox is worth. -/
noncomputable def Try.pinned : Pinned := { name := "ytmkcbgnldnefmaa", sum := "dc720a3d1cc1faedbdaffad6d7238031a17b4a71b3987912ca3e3776a23c38f8", checked := Try.checked }
namespace Rows
def none {H : Type} : Left H := { results := [], args := [] }

/-- 'laws.FnExactVectorAt': WHATEVER THE INPUT: true; the input reads as it did. -/
def fnExactVectorAtSpec : ChangeSpec := { name := "fnExactVectorAt", fn := fun _ => fun
  | [d1, d2] => { results := [.lit (.bool true)], args := [d1, d2] }
  | _ => none }
def fnExactVectorAtRow : OpenClaim := { program := "ytmkcbgnldnefmaa", sum := "dc720a3d1cc1faedbdaffad6d7238031a17b4a71b3987912ca3e3776a23c38f8", func := "loop.example/g00389/laws.FnExactVectorAt", spec := "fnExactVectorAt", apart := false }
def FnExactVectorAtSaid : Prop := fnExactVectorAtRow.holds Try.pinned (OpenSpec.ofChange fnExactVectorAtSpec)

/-- ITS FALSE NEIGHBOUR: 'it returns false'. Refute it at one input. -/
def fnExactVectorAtWrong : ChangeSpec := { name := "fnExactVectorAt", fn := fun _ => fun
  | [d1, d2] => { results := [.lit (.bool false)], args := [d1, d2] }
  | _ => none }
def FnExactVectorAtWrongFalsely : Prop := fnExactVectorAtRow.holds Try.pinned (OpenSpec.ofChange fnExactVectorAtWrong)

/-- 'laws.FnExactPeekWord': WHATEVER THE INPUT: true; the input reads as it did. -/
def fnExactPeekWordSpec : ChangeSpec := { name := "fnExactPeekWord", fn := fun _ => fun
  | [d1, d2] => { results := [.lit (.bool true)], args := [d1, d2] }
  | _ => none }
def fnExactPeekWordRow : OpenClaim := { program := "ytmkcbgnldnefmaa", sum := "dc720a3d1cc1faedbdaffad6d7238031a17b4a71b3987912ca3e3776a23c38f8", func := "loop.example/g00389/laws.FnExactPeekWord", spec := "fnExactPeekWord", apart := false }
def FnExactPeekWordSaid : Prop := fnExactPeekWordRow.holds Try.pinned (OpenSpec.ofChange fnExactPeekWordSpec)

/-- ITS FALSE NEIGHBOUR: 'it returns false'. Refute it at one input. -/
def fnExactPeekWordWrong : ChangeSpec := { name := "fnExactPeekWord", fn := fun _ => fun
  | [d1, d2] => { results := [.lit (.bool false)], args := [d1, d2] }
  | _ => none }
def FnExactPeekWordWrongFalsely : Prop := fnExactPeekWordRow.holds Try.pinned (OpenSpec.ofChange fnExactPeekWordWrong)

/-- 'laws.FnExactEncodeIns': WHATEVER THE INPUT: true; the input reads as it did. -/
def fnExactEncodeInsSpec : ChangeSpec := { name := "fnExactEncodeIns", fn := fun _ => fun
  | [d] => { results := [.lit (.bool true)], args := [d] }
  | _ => none }
def fnExactEncodeInsRow : OpenClaim := { program := "ytmkcbgnldnefmaa", sum := "dc720a3d1cc1faedbdaffad6d7238031a17b4a71b3987912ca3e3776a23c38f8", func := "loop.example/g00389/laws.FnExactEncodeIns", spec := "fnExactEncodeIns", unfollowed := true, recurses := true, apart := false }
def FnExactEncodeInsSaid : Prop := fnExactEncodeInsRow.holds Try.pinned (OpenSpec.ofChange fnExactEncodeInsSpec)

/-- ITS FALSE NEIGHBOUR: 'it returns false'. Refute it at one input. -/
def fnExactEncodeInsWrong : ChangeSpec := { name := "fnExactEncodeIns", fn := fun _ => fun
  | [d] => { results := [.lit (.bool false)], args := [d] }
  | _ => none }
def FnExactEncodeInsWrongFalsely : Prop := fnExactEncodeInsRow.holds Try.pinned (OpenSpec.ofChange fnExactEncodeInsWrong)

/-- 'laws.FnExactEncodeAll': WHATEVER THE INPUT: true; the input reads as it did. -/
def fnExactEncodeAllSpec : ChangeSpec := { name := "fnExactEncodeAll", fn := fun _ => fun
  | [d] => { results := [.lit (.bool true)], args := [d] }
  | _ => none }
def fnExactEncodeAllRow : OpenClaim := { program := "ytmkcbgnldnefmaa", sum := "dc720a3d1cc1faedbdaffad6d7238031a17b4a71b3987912ca3e3776a23c38f8", func := "loop.example/g00389/laws.FnExactEncodeAll", spec := "fnExactEncodeAll", unfollowed := true, recurses := true, apart := false }
def FnExactEncodeAllSaid : Prop := fnExactEncodeAllRow.holds Try.pinned (OpenSpec.ofChange fnExactEncodeAllSpec)

/-- ITS FALSE NEIGHBOUR: 'it returns false'. Refute it at one input. -/
def fnExactEncodeAllWrong : ChangeSpec := { name := "fnExactEncodeAll", fn := fun _ => fun
  | [d] => { results := [.lit (.bool false)], args := [d] }
  | _ => none }
def FnExactEncodeAllWrongFalsely : Prop := fnExactEncodeAllRow.holds Try.pinned (OpenSpec.ofChange fnExactEncodeAllWrong)

/- THE SECOND FORM. 'bulk': how many values and letters a reading holds, each counted each time it is reached (what is shared counts as often as it is met; a slice's spare places count too). A statement '..UptoSaid' is the law's where the arguments, and the package variables that the reading takes, are together of bulk at most 1048576: NARROWER than '..Said'. Prove '..Said' where nothing that the law and all that it calls make is longer than what came in: it says more and counts as full. Else prove '..UptoSaid'. A law counts once. -/
mutual
def uptoBulk {H : Type} : DataW H → Nat
  | .lit (.string bytes) => bytes.length + 1
  | .lit _ => 1
  | .nil => 1
  | .ptr d => uptoBulk d + 1
  | .slice elems spare => uptoBulkAll elems + uptoBulkAll spare + 1
  | .agg parts => uptoBulkAll parts + 1
  | .iface _ d => uptoBulk d + 1
  | .map entries => uptoBulkEntries entries + 1
  | .held _ => 1
def uptoBulkAll {H : Type} : List (DataW H) → Nat
  | [] => 0
  | d :: r => uptoBulk d + uptoBulkAll r
def uptoBulkEntries {H : Type} : List (Lit × DataW H) → Nat
  | [] => 0
  | x :: r => uptoBulkEntry x + uptoBulkEntries r
def uptoBulkEntry {H : Type} : Lit × DataW H → Nat
  | (.string bytes, d) => bytes.length + uptoBulk d + 1
  | (_, d) => uptoBulk d + 1
 end
def uptoSmall : (H : Type) → List (DataW H) → Bool := fun _ ds => decide (uptoBulkAll ds ≤ 1048576)
def OpenSpec.upto (s : _root_.Go.ChangeSpec) : _root_.Go.OpenSpec := { _root_.Go.OpenSpec.ofChange s with cond := some uptoSmall }

/-- 'laws.FnExactVectorAt', WHERE WHAT IT READS IS OF BULK AT MOST 1048576: true; the input reads as it did. -/
def fnExactVectorAtUptoRow : OpenClaim := { program := "ytmkcbgnldnefmaa", sum := "dc720a3d1cc1faedbdaffad6d7238031a17b4a71b3987912ca3e3776a23c38f8", func := "loop.example/g00389/laws.FnExactVectorAt", spec := "fnExactVectorAt", apart := false, narrowed := true }
def FnExactVectorAtUptoSaid : Prop := fnExactVectorAtUptoRow.holds Try.pinned (OpenSpec.upto fnExactVectorAtSpec)

/-- 'laws.FnExactPeekWord', WHERE WHAT IT READS IS OF BULK AT MOST 1048576: true; the input reads as it did. -/
def fnExactPeekWordUptoRow : OpenClaim := { program := "ytmkcbgnldnefmaa", sum := "dc720a3d1cc1faedbdaffad6d7238031a17b4a71b3987912ca3e3776a23c38f8", func := "loop.example/g00389/laws.FnExactPeekWord", spec := "fnExactPeekWord", apart := false, narrowed := true }
def FnExactPeekWordUptoSaid : Prop := fnExactPeekWordUptoRow.holds Try.pinned (OpenSpec.upto fnExactPeekWordSpec)

/-- 'laws.FnExactEncodeIns', WHERE WHAT IT READS IS OF BULK AT MOST 1048576: true; the input reads as it did. -/
def fnExactEncodeInsUptoRow : OpenClaim := { program := "ytmkcbgnldnefmaa", sum := "dc720a3d1cc1faedbdaffad6d7238031a17b4a71b3987912ca3e3776a23c38f8", func := "loop.example/g00389/laws.FnExactEncodeIns", spec := "fnExactEncodeIns", unfollowed := true, recurses := true, apart := false, narrowed := true }
def FnExactEncodeInsUptoSaid : Prop := fnExactEncodeInsUptoRow.holds Try.pinned (OpenSpec.upto fnExactEncodeInsSpec)

/-- 'laws.FnExactEncodeAll', WHERE WHAT IT READS IS OF BULK AT MOST 1048576: true; the input reads as it did. -/
def fnExactEncodeAllUptoRow : OpenClaim := { program := "ytmkcbgnldnefmaa", sum := "dc720a3d1cc1faedbdaffad6d7238031a17b4a71b3987912ca3e3776a23c38f8", func := "loop.example/g00389/laws.FnExactEncodeAll", spec := "fnExactEncodeAll", unfollowed := true, recurses := true, apart := false, narrowed := true }
def FnExactEncodeAllUptoSaid : Prop := fnExactEncodeAllUptoRow.holds Try.pinned (OpenSpec.upto fnExactEncodeAllSpec)

end Rows
end Go.Proofs.Ytmkcbgnldnefmaa
