/-
  No cell of these rows narrows 'for every input' (looked for: loops, veiled, ifaces, maps, wideKeys, modest, calm, conditions, laid).
  DERIVED. THE GIVEN ROWS OF THIS SEAT. 11 by the template 'for every input the law returns true; each argument reads behind the call as it read before'; 0 by the template 'total and deterministic' (their statements: YtogckmalfdddcaaTotals.lean).
  GIVEN WITH THE SEED: the statements are not yours to turn. If you find one false, say at which input.
  Laid BY PROGRAM, IN A SANDBOX (cutbox-rows.mjs): the forced cells as the released guide's own fill.sh prints them over the translation 96ad427645167216… (all of the seat's roots in one cut). By AI agents, Wed Nov 11 2026. No macro, syntax, notation, axiom, sorry.
-/
import Derived.Test.YtogckmalfdddcaaChecked
import GoSem.Claim
import GoSem.ClaimJoined
import GoSem.ClaimMapViews
import Derived.JoinedTies
import Derived.KernelRfl
namespace Go.Proofs.Ytogckmalfdddcaa
/- THE CELL 'sum', in the pinned program and in every row, IS THE sha256 OF THE DUMP (.gsa) THAT YtogckmalfdddcaaProg.lean LOADS. Nothing in Lean hashes anything: it is a label: what it is worth is what the hold of that sum in a sandbox is worth. -/
noncomputable def Try.pinned : Pinned := { name := "ytogckmalfdddcaa", sum := "96ad427645167216997ff921aa478131b1a0fc3e93ea08fed4659ea972cc9e30", checked := Try.checked }
namespace Rows
def none {H : Type} : Left H := { results := [], args := [] }

/-- 'laws.FnSums': WHATEVER THE INPUT: true; the input reads as it did. -/
def fnSumsSpec : ChangeSpec := { name := "fnSums", fn := fun _ => fun
  | [d1, d2] => { results := [.lit (.bool true)], args := [d1, d2] }
  | _ => none }
def fnSumsRow : OpenClaim := { program := "ytogckmalfdddcaa", sum := "96ad427645167216997ff921aa478131b1a0fc3e93ea08fed4659ea972cc9e30", func := "loop.example/g00389/laws.FnSums", spec := "fnSums", apart := false }
def FnSumsSaid : Prop := fnSumsRow.holds Try.pinned (OpenSpec.ofChange fnSumsSpec)

/-- ITS FALSE NEIGHBOUR: 'it returns false'. Refute it at one input. -/
def fnSumsWrong : ChangeSpec := { name := "fnSums", fn := fun _ => fun
  | [d1, d2] => { results := [.lit (.bool false)], args := [d1, d2] }
  | _ => none }
def FnSumsWrongFalsely : Prop := fnSumsRow.holds Try.pinned (OpenSpec.ofChange fnSumsWrong)

/-- 'laws.FnWords': WHATEVER THE INPUT: true; the input reads as it did. -/
def fnWordsSpec : ChangeSpec := { name := "fnWords", fn := fun _ => fun
  | [d1, d2] => { results := [.lit (.bool true)], args := [d1, d2] }
  | _ => none }
def fnWordsRow : OpenClaim := { program := "ytogckmalfdddcaa", sum := "96ad427645167216997ff921aa478131b1a0fc3e93ea08fed4659ea972cc9e30", func := "loop.example/g00389/laws.FnWords", spec := "fnWords", apart := false }
def FnWordsSaid : Prop := fnWordsRow.holds Try.pinned (OpenSpec.ofChange fnWordsSpec)

/-- ITS FALSE NEIGHBOUR: 'it returns false'. Refute it at one input. -/
def fnWordsWrong : ChangeSpec := { name := "fnWords", fn := fun _ => fun
  | [d1, d2] => { results := [.lit (.bool false)], args := [d1, d2] }
  | _ => none }
def FnWordsWrongFalsely : Prop := fnWordsRow.holds Try.pinned (OpenSpec.ofChange fnWordsWrong)

/-- 'laws.FnExactSignedOf': WHATEVER THE INPUT: true; the input reads as it did. -/
def fnExactSignedOfSpec : ChangeSpec := { name := "fnExactSignedOf", fn := fun _ => fun
  | [d1, d2] => { results := [.lit (.bool true)], args := [d1, d2] }
  | _ => none }
def fnExactSignedOfRow : OpenClaim := { program := "ytogckmalfdddcaa", sum := "96ad427645167216997ff921aa478131b1a0fc3e93ea08fed4659ea972cc9e30", func := "loop.example/g00389/laws.FnExactSignedOf", spec := "fnExactSignedOf", apart := false }
def FnExactSignedOfSaid : Prop := fnExactSignedOfRow.holds Try.pinned (OpenSpec.ofChange fnExactSignedOfSpec)

/-- ITS FALSE NEIGHBOUR: 'it returns false'. Refute it at one input. -/
def fnExactSignedOfWrong : ChangeSpec := { name := "fnExactSignedOf", fn := fun _ => fun
  | [d1, d2] => { results := [.lit (.bool false)], args := [d1, d2] }
  | _ => none }
def FnExactSignedOfWrongFalsely : Prop := fnExactSignedOfRow.holds Try.pinned (OpenSpec.ofChange fnExactSignedOfWrong)

/-- 'laws.FnExactAddFlags': WHATEVER THE INPUT: true; the input reads as it did. -/
def fnExactAddFlagsSpec : ChangeSpec := { name := "fnExactAddFlags", fn := fun _ => fun
  | [d1, d2, d3, d4] => { results := [.lit (.bool true)], args := [d1, d2, d3, d4] }
  | _ => none }
def fnExactAddFlagsRow : OpenClaim := { program := "ytogckmalfdddcaa", sum := "96ad427645167216997ff921aa478131b1a0fc3e93ea08fed4659ea972cc9e30", func := "loop.example/g00389/laws.FnExactAddFlags", spec := "fnExactAddFlags", apart := false }
def FnExactAddFlagsSaid : Prop := fnExactAddFlagsRow.holds Try.pinned (OpenSpec.ofChange fnExactAddFlagsSpec)

/-- ITS FALSE NEIGHBOUR: 'it returns false'. Refute it at one input. -/
def fnExactAddFlagsWrong : ChangeSpec := { name := "fnExactAddFlags", fn := fun _ => fun
  | [d1, d2, d3, d4] => { results := [.lit (.bool false)], args := [d1, d2, d3, d4] }
  | _ => none }
def FnExactAddFlagsWrongFalsely : Prop := fnExactAddFlagsRow.holds Try.pinned (OpenSpec.ofChange fnExactAddFlagsWrong)

/-- 'laws.FnExactSubFlags': WHATEVER THE INPUT: true; the input reads as it did. -/
def fnExactSubFlagsSpec : ChangeSpec := { name := "fnExactSubFlags", fn := fun _ => fun
  | [d1, d2, d3, d4] => { results := [.lit (.bool true)], args := [d1, d2, d3, d4] }
  | _ => none }
def fnExactSubFlagsRow : OpenClaim := { program := "ytogckmalfdddcaa", sum := "96ad427645167216997ff921aa478131b1a0fc3e93ea08fed4659ea972cc9e30", func := "loop.example/g00389/laws.FnExactSubFlags", spec := "fnExactSubFlags", apart := false }
def FnExactSubFlagsSaid : Prop := fnExactSubFlagsRow.holds Try.pinned (OpenSpec.ofChange fnExactSubFlagsSpec)

/-- ITS FALSE NEIGHBOUR: 'it returns false'. Refute it at one input. -/
def fnExactSubFlagsWrong : ChangeSpec := { name := "fnExactSubFlags", fn := fun _ => fun
  | [d1, d2, d3, d4] => { results := [.lit (.bool false)], args := [d1, d2, d3, d4] }
  | _ => none }
def FnExactSubFlagsWrongFalsely : Prop := fnExactSubFlagsRow.holds Try.pinned (OpenSpec.ofChange fnExactSubFlagsWrong)

/-- 'laws.FnExactCmpFlags': WHATEVER THE INPUT: true; the input reads as it did. -/
def fnExactCmpFlagsSpec : ChangeSpec := { name := "fnExactCmpFlags", fn := fun _ => fun
  | [d1, d2, d3, d4] => { results := [.lit (.bool true)], args := [d1, d2, d3, d4] }
  | _ => none }
def fnExactCmpFlagsRow : OpenClaim := { program := "ytogckmalfdddcaa", sum := "96ad427645167216997ff921aa478131b1a0fc3e93ea08fed4659ea972cc9e30", func := "loop.example/g00389/laws.FnExactCmpFlags", spec := "fnExactCmpFlags", apart := false }
def FnExactCmpFlagsSaid : Prop := fnExactCmpFlagsRow.holds Try.pinned (OpenSpec.ofChange fnExactCmpFlagsSpec)

/-- ITS FALSE NEIGHBOUR: 'it returns false'. Refute it at one input. -/
def fnExactCmpFlagsWrong : ChangeSpec := { name := "fnExactCmpFlags", fn := fun _ => fun
  | [d1, d2, d3, d4] => { results := [.lit (.bool false)], args := [d1, d2, d3, d4] }
  | _ => none }
def FnExactCmpFlagsWrongFalsely : Prop := fnExactCmpFlagsRow.holds Try.pinned (OpenSpec.ofChange fnExactCmpFlagsWrong)

/-- 'laws.FnExactLogicFlags': WHATEVER THE INPUT: true; the input reads as it did. -/
def fnExactLogicFlagsSpec : ChangeSpec := { name := "fnExactLogicFlags", fn := fun _ => fun
  | [d1, d2, d3] => { results := [.lit (.bool true)], args := [d1, d2, d3] }
  | _ => none }
def fnExactLogicFlagsRow : OpenClaim := { program := "ytogckmalfdddcaa", sum := "96ad427645167216997ff921aa478131b1a0fc3e93ea08fed4659ea972cc9e30", func := "loop.example/g00389/laws.FnExactLogicFlags", spec := "fnExactLogicFlags", apart := false }
def FnExactLogicFlagsSaid : Prop := fnExactLogicFlagsRow.holds Try.pinned (OpenSpec.ofChange fnExactLogicFlagsSpec)

/-- ITS FALSE NEIGHBOUR: 'it returns false'. Refute it at one input. -/
def fnExactLogicFlagsWrong : ChangeSpec := { name := "fnExactLogicFlags", fn := fun _ => fun
  | [d1, d2, d3] => { results := [.lit (.bool false)], args := [d1, d2, d3] }
  | _ => none }
def FnExactLogicFlagsWrongFalsely : Prop := fnExactLogicFlagsRow.holds Try.pinned (OpenSpec.ofChange fnExactLogicFlagsWrong)

/-- 'laws.FnExactNegFlags': WHATEVER THE INPUT: true; the input reads as it did. -/
def fnExactNegFlagsSpec : ChangeSpec := { name := "fnExactNegFlags", fn := fun _ => fun
  | [d1, d2] => { results := [.lit (.bool true)], args := [d1, d2] }
  | _ => none }
def fnExactNegFlagsRow : OpenClaim := { program := "ytogckmalfdddcaa", sum := "96ad427645167216997ff921aa478131b1a0fc3e93ea08fed4659ea972cc9e30", func := "loop.example/g00389/laws.FnExactNegFlags", spec := "fnExactNegFlags", apart := false }
def FnExactNegFlagsSaid : Prop := fnExactNegFlagsRow.holds Try.pinned (OpenSpec.ofChange fnExactNegFlagsSpec)

/-- ITS FALSE NEIGHBOUR: 'it returns false'. Refute it at one input. -/
def fnExactNegFlagsWrong : ChangeSpec := { name := "fnExactNegFlags", fn := fun _ => fun
  | [d1, d2] => { results := [.lit (.bool false)], args := [d1, d2] }
  | _ => none }
def FnExactNegFlagsWrongFalsely : Prop := fnExactNegFlagsRow.holds Try.pinned (OpenSpec.ofChange fnExactNegFlagsWrong)

/-- 'laws.FnExactExtendWord': WHATEVER THE INPUT: true; the input reads as it did. -/
def fnExactExtendWordSpec : ChangeSpec := { name := "fnExactExtendWord", fn := fun _ => fun
  | [d] => { results := [.lit (.bool true)], args := [d] }
  | _ => none }
def fnExactExtendWordRow : OpenClaim := { program := "ytogckmalfdddcaa", sum := "96ad427645167216997ff921aa478131b1a0fc3e93ea08fed4659ea972cc9e30", func := "loop.example/g00389/laws.FnExactExtendWord", spec := "fnExactExtendWord", apart := false }
def FnExactExtendWordSaid : Prop := fnExactExtendWordRow.holds Try.pinned (OpenSpec.ofChange fnExactExtendWordSpec)

/-- ITS FALSE NEIGHBOUR: 'it returns false'. Refute it at one input. -/
def fnExactExtendWordWrong : ChangeSpec := { name := "fnExactExtendWord", fn := fun _ => fun
  | [d] => { results := [.lit (.bool false)], args := [d] }
  | _ => none }
def FnExactExtendWordWrongFalsely : Prop := fnExactExtendWordRow.holds Try.pinned (OpenSpec.ofChange fnExactExtendWordWrong)

/-- 'laws.FnExactSwapBytes': WHATEVER THE INPUT: true; the input reads as it did. -/
def fnExactSwapBytesSpec : ChangeSpec := { name := "fnExactSwapBytes", fn := fun _ => fun
  | [d] => { results := [.lit (.bool true)], args := [d] }
  | _ => none }
def fnExactSwapBytesRow : OpenClaim := { program := "ytogckmalfdddcaa", sum := "96ad427645167216997ff921aa478131b1a0fc3e93ea08fed4659ea972cc9e30", func := "loop.example/g00389/laws.FnExactSwapBytes", spec := "fnExactSwapBytes", apart := false }
def FnExactSwapBytesSaid : Prop := fnExactSwapBytesRow.holds Try.pinned (OpenSpec.ofChange fnExactSwapBytesSpec)

/-- ITS FALSE NEIGHBOUR: 'it returns false'. Refute it at one input. -/
def fnExactSwapBytesWrong : ChangeSpec := { name := "fnExactSwapBytes", fn := fun _ => fun
  | [d] => { results := [.lit (.bool false)], args := [d] }
  | _ => none }
def FnExactSwapBytesWrongFalsely : Prop := fnExactSwapBytesRow.holds Try.pinned (OpenSpec.ofChange fnExactSwapBytesWrong)

/-- 'laws.FnExactAddMany': WHATEVER THE INPUT: true; the input reads as it did. -/
def fnExactAddManySpec : ChangeSpec := { name := "fnExactAddMany", fn := fun _ => fun
  | [d1, d2, d3] => { results := [.lit (.bool true)], args := [d1, d2, d3] }
  | _ => none }
def fnExactAddManyRow : OpenClaim := { program := "ytogckmalfdddcaa", sum := "96ad427645167216997ff921aa478131b1a0fc3e93ea08fed4659ea972cc9e30", func := "loop.example/g00389/laws.FnExactAddMany", spec := "fnExactAddMany", apart := false }
def FnExactAddManySaid : Prop := fnExactAddManyRow.holds Try.pinned (OpenSpec.ofChange fnExactAddManySpec)

/-- ITS FALSE NEIGHBOUR: 'it returns false'. Refute it at one input. -/
def fnExactAddManyWrong : ChangeSpec := { name := "fnExactAddMany", fn := fun _ => fun
  | [d1, d2, d3] => { results := [.lit (.bool false)], args := [d1, d2, d3] }
  | _ => none }
def FnExactAddManyWrongFalsely : Prop := fnExactAddManyRow.holds Try.pinned (OpenSpec.ofChange fnExactAddManyWrong)

/- THE SECOND FORM. 'bulk': how many values and letters a reading holds, each counted each time it is reached (what is shared counts as often as it is met; a slice's spare places count too). A statement '..UptoSaid' is the law's where the arguments, and the package variables that the reading takes, are together of bulk at most 1048576: NARROWER than '..Said'. Prove '..Said' where nothing that the law and all that it calls make is longer than what came in: it says more and counts as full. Else prove '..UptoSaid'. A law counts once. -/
mutual
def uptoBulk {H : Type} : DataW H → Nat
  | .lit (.string bytes) => bytes.length + 1
  | .lit _ => 1
  | .nil => 1
  | .ptr d => uptoBulk d + 1
  | .slice elems spare => uptoBulkAll elems + uptoBulkAll spare + 1
  | .agg parts => uptoBulkAll parts + 1
  | .iface _ d => uptoBulk d + 1
  | .map entries => uptoBulkEntries entries + 1
  | .held _ => 1
def uptoBulkAll {H : Type} : List (DataW H) → Nat
  | [] => 0
  | d :: r => uptoBulk d + uptoBulkAll r
def uptoBulkEntries {H : Type} : List (Lit × DataW H) → Nat
  | [] => 0
  | x :: r => uptoBulkEntry x + uptoBulkEntries r
def uptoBulkEntry {H : Type} : Lit × DataW H → Nat
  | (.string bytes, d) => bytes.length + uptoBulk d + 1
  | (_, d) => uptoBulk d + 1
 end
def uptoSmall : (H : Type) → List (DataW H) → Bool := fun _ ds => decide (uptoBulkAll ds ≤ 1048576)
def OpenSpec.upto (s : _root_.Go.ChangeSpec) : _root_.Go.OpenSpec := { _root_.Go.OpenSpec.ofChange s with cond := some uptoSmall }

/-- 'laws.FnSums', WHERE WHAT IT READS IS OF BULK AT MOST 1048576: true; the input reads as it did. -/
def fnSumsUptoRow : OpenClaim := { program := "ytogckmalfdddcaa", sum := "96ad427645167216997ff921aa478131b1a0fc3e93ea08fed4659ea972cc9e30", func := "loop.example/g00389/laws.FnSums", spec := "fnSums", apart := false, narrowed := true }
def FnSumsUptoSaid : Prop := fnSumsUptoRow.holds Try.pinned (OpenSpec.upto fnSumsSpec)

/-- 'laws.FnWords', WHERE WHAT IT READS IS OF BULK AT MOST 1048576: true; the input reads as it did. -/
def fnWordsUptoRow : OpenClaim := { program := "ytogckmalfdddcaa", sum := "96ad427645167216997ff921aa478131b1a0fc3e93ea08fed4659ea972cc9e30", func := "loop.example/g00389/laws.FnWords", spec := "fnWords", apart := false, narrowed := true }
def FnWordsUptoSaid : Prop := fnWordsUptoRow.holds Try.pinned (OpenSpec.upto fnWordsSpec)

/-- 'laws.FnExactSignedOf', WHERE WHAT IT READS IS OF BULK AT MOST 1048576: true; the input reads as it did. -/
def fnExactSignedOfUptoRow : OpenClaim := { program := "ytogckmalfdddcaa", sum := "96ad427645167216997ff921aa478131b1a0fc3e93ea08fed4659ea972cc9e30", func := "loop.example/g00389/laws.FnExactSignedOf", spec := "fnExactSignedOf", apart := false, narrowed := true }
def FnExactSignedOfUptoSaid : Prop := fnExactSignedOfUptoRow.holds Try.pinned (OpenSpec.upto fnExactSignedOfSpec)

/-- 'laws.FnExactAddFlags', WHERE WHAT IT READS IS OF BULK AT MOST 1048576: true; the input reads as it did. -/
def fnExactAddFlagsUptoRow : OpenClaim := { program := "ytogckmalfdddcaa", sum := "96ad427645167216997ff921aa478131b1a0fc3e93ea08fed4659ea972cc9e30", func := "loop.example/g00389/laws.FnExactAddFlags", spec := "fnExactAddFlags", apart := false, narrowed := true }
def FnExactAddFlagsUptoSaid : Prop := fnExactAddFlagsUptoRow.holds Try.pinned (OpenSpec.upto fnExactAddFlagsSpec)

/-- 'laws.FnExactSubFlags', WHERE WHAT IT READS IS OF BULK AT MOST 1048576: true; the input reads as it did. -/
def fnExactSubFlagsUptoRow : OpenClaim := { program := "ytogckmalfdddcaa", sum := "96ad427645167216997ff921aa478131b1a0fc3e93ea08fed4659ea972cc9e30", func := "loop.example/g00389/laws.FnExactSubFlags", spec := "fnExactSubFlags", apart := false, narrowed := true }
def FnExactSubFlagsUptoSaid : Prop := fnExactSubFlagsUptoRow.holds Try.pinned (OpenSpec.upto fnExactSubFlagsSpec)

/-- 'laws.FnExactCmpFlags', WHERE WHAT IT READS IS OF BULK AT MOST 1048576: true; the input reads as it did. -/
def fnExactCmpFlagsUptoRow : OpenClaim := { program := "ytogckmalfdddcaa", sum := "96ad427645167216997ff921aa478131b1a0fc3e93ea08fed4659ea972cc9e30", func := "loop.example/g00389/laws.FnExactCmpFlags", spec := "fnExactCmpFlags", apart := false, narrowed := true }
def FnExactCmpFlagsUptoSaid : Prop := fnExactCmpFlagsUptoRow.holds Try.pinned (OpenSpec.upto fnExactCmpFlagsSpec)

/-- 'laws.FnExactLogicFlags', WHERE WHAT IT READS IS OF BULK AT MOST 1048576: true; the input reads as it did. -/
def fnExactLogicFlagsUptoRow : OpenClaim := { program := "ytogckmalfdddcaa", sum := "96ad427645167216997ff921aa478131b1a0fc3e93ea08fed4659ea972cc9e30", func := "loop.example/g00389/laws.FnExactLogicFlags", spec := "fnExactLogicFlags", apart := false, narrowed := true }
def FnExactLogicFlagsUptoSaid : Prop := fnExactLogicFlagsUptoRow.holds Try.pinned (OpenSpec.upto fnExactLogicFlagsSpec)

/-- 'laws.FnExactNegFlags', WHERE WHAT IT READS IS OF BULK AT MOST 1048576: true; the input reads as it did. -/
def fnExactNegFlagsUptoRow : OpenClaim := { program := "ytogckmalfdddcaa", sum := "96ad427645167216997ff921aa478131b1a0fc3e93ea08fed4659ea972cc9e30", func := "loop.example/g00389/laws.FnExactNegFlags", spec := "fnExactNegFlags", apart := false, narrowed := true }
def FnExactNegFlagsUptoSaid : Prop := fnExactNegFlagsUptoRow.holds Try.pinned (OpenSpec.upto fnExactNegFlagsSpec)

/-- 'laws.FnExactExtendWord', WHERE WHAT IT READS IS OF BULK AT MOST 1048576: true; the input reads as it did. -/
def fnExactExtendWordUptoRow : OpenClaim := { program := "ytogckmalfdddcaa", sum := "96ad427645167216997ff921aa478131b1a0fc3e93ea08fed4659ea972cc9e30", func := "loop.example/g00389/laws.FnExactExtendWord", spec := "fnExactExtendWord", apart := false, narrowed := true }
def FnExactExtendWordUptoSaid : Prop := fnExactExtendWordUptoRow.holds Try.pinned (OpenSpec.upto fnExactExtendWordSpec)

/-- 'laws.FnExactSwapBytes', WHERE WHAT IT READS IS OF BULK AT MOST 1048576: true; the input reads as it did. -/
def fnExactSwapBytesUptoRow : OpenClaim := { program := "ytogckmalfdddcaa", sum := "96ad427645167216997ff921aa478131b1a0fc3e93ea08fed4659ea972cc9e30", func := "loop.example/g00389/laws.FnExactSwapBytes", spec := "fnExactSwapBytes", apart := false, narrowed := true }
def FnExactSwapBytesUptoSaid : Prop := fnExactSwapBytesUptoRow.holds Try.pinned (OpenSpec.upto fnExactSwapBytesSpec)

/-- 'laws.FnExactAddMany', WHERE WHAT IT READS IS OF BULK AT MOST 1048576: true; the input reads as it did. -/
def fnExactAddManyUptoRow : OpenClaim := { program := "ytogckmalfdddcaa", sum := "96ad427645167216997ff921aa478131b1a0fc3e93ea08fed4659ea972cc9e30", func := "loop.example/g00389/laws.FnExactAddMany", spec := "fnExactAddMany", apart := false, narrowed := true }
def FnExactAddManyUptoSaid : Prop := fnExactAddManyUptoRow.holds Try.pinned (OpenSpec.upto fnExactAddManySpec)

end Rows
end Go.Proofs.Ytogckmalfdddcaa
