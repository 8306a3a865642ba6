/-
  No cell of these rows narrows 'for every input' (looked for: loops, veiled, ifaces, maps, wideKeys, modest, calm, conditions, laid).
  DERIVED. THE GIVEN ROWS OF THIS SEAT. 4 by the template 'for every input the law returns true; each argument reads behind the call as it read before'; 0 by the template 'total and deterministic' (their statements: YtndhiaommphegaaTotals.lean).
  GIVEN WITH THE SEED: the statements are not yours to turn. If you find one false, say at which input.
  Laid BY PROGRAM, IN A SANDBOX (cutbox-rows.mjs): the forced cells as the released guide's own fill.sh prints them over the translation 81e933525bee35e9… (all of the seat's roots in one cut). By AI agents, Wed Nov 11 2026. No macro, syntax, notation, axiom, sorry.
-/
import Derived.Test.YtndhiaommphegaaChecked
import GoSem.Claim
import GoSem.ClaimJoined
import GoSem.ClaimMapViews
import Derived.JoinedTies
import Derived.KernelRfl
namespace Go.Proofs.Ytndhiaommphegaa
/- THE CELL 'sum', in the pinned program and in every row, IS THE sha256 OF THE DUMP (.gsa) THAT YtndhiaommphegaaProg.lean LOADS. Nothing in Lean hashes anything: it is a label: what it is worth is what the hold of that sum in a sandbox is worth. -/
noncomputable def Try.pinned : Pinned := { name := "ytndhiaommphegaa", sum := "81e933525bee35e961926d812ef0d7e0293e55c00455419483a481b36acef5d4", checked := Try.checked }
namespace Rows
def none {H : Type} : Left H := { results := [], args := [] }

/-- 'laws.FnExactNewIrq': WHATEVER THE INPUT: true; the input reads as it did. -/
def fnExactNewIrqSpec : ChangeSpec := { name := "fnExactNewIrq", fn := fun _ => fun
  | [d] => { results := [.lit (.bool true)], args := [d] }
  | _ => none }
def fnExactNewIrqRow : OpenClaim := { program := "ytndhiaommphegaa", sum := "81e933525bee35e961926d812ef0d7e0293e55c00455419483a481b36acef5d4", func := "loop.example/g00389/laws.FnExactNewIrq", spec := "fnExactNewIrq", apart := false }
def FnExactNewIrqSaid : Prop := fnExactNewIrqRow.holds Try.pinned (OpenSpec.ofChange fnExactNewIrqSpec)

/-- ITS FALSE NEIGHBOUR: 'it returns false'. Refute it at one input. -/
def fnExactNewIrqWrong : ChangeSpec := { name := "fnExactNewIrq", fn := fun _ => fun
  | [d] => { results := [.lit (.bool false)], args := [d] }
  | _ => none }
def FnExactNewIrqWrongFalsely : Prop := fnExactNewIrqRow.holds Try.pinned (OpenSpec.ofChange fnExactNewIrqWrong)

/-- 'laws.FnExactGoodIrq': WHATEVER THE INPUT: true; the input reads as it did. -/
def fnExactGoodIrqSpec : ChangeSpec := { name := "fnExactGoodIrq", fn := fun _ => fun
  | [d] => { results := [.lit (.bool true)], args := [d] }
  | _ => none }
def fnExactGoodIrqRow : OpenClaim := { program := "ytndhiaommphegaa", sum := "81e933525bee35e961926d812ef0d7e0293e55c00455419483a481b36acef5d4", func := "loop.example/g00389/laws.FnExactGoodIrq", spec := "fnExactGoodIrq", apart := false }
def FnExactGoodIrqSaid : Prop := fnExactGoodIrqRow.holds Try.pinned (OpenSpec.ofChange fnExactGoodIrqSpec)

/-- ITS FALSE NEIGHBOUR: 'it returns false'. Refute it at one input. -/
def fnExactGoodIrqWrong : ChangeSpec := { name := "fnExactGoodIrq", fn := fun _ => fun
  | [d] => { results := [.lit (.bool false)], args := [d] }
  | _ => none }
def FnExactGoodIrqWrongFalsely : Prop := fnExactGoodIrqRow.holds Try.pinned (OpenSpec.ofChange fnExactGoodIrqWrong)

/-- 'laws.FnExactSetLine': WHATEVER THE INPUT: true; the input reads as it did. -/
def fnExactSetLineSpec : ChangeSpec := { name := "fnExactSetLine", fn := fun _ => fun
  | [d1, d2] => { results := [.lit (.bool true)], args := [d1, d2] }
  | _ => none }
def fnExactSetLineRow : OpenClaim := { program := "ytndhiaommphegaa", sum := "81e933525bee35e961926d812ef0d7e0293e55c00455419483a481b36acef5d4", func := "loop.example/g00389/laws.FnExactSetLine", spec := "fnExactSetLine", apart := false }
def FnExactSetLineSaid : Prop := fnExactSetLineRow.holds Try.pinned (OpenSpec.ofChange fnExactSetLineSpec)

/-- ITS FALSE NEIGHBOUR: 'it returns false'. Refute it at one input. -/
def fnExactSetLineWrong : ChangeSpec := { name := "fnExactSetLine", fn := fun _ => fun
  | [d1, d2] => { results := [.lit (.bool false)], args := [d1, d2] }
  | _ => none }
def FnExactSetLineWrongFalsely : Prop := fnExactSetLineRow.holds Try.pinned (OpenSpec.ofChange fnExactSetLineWrong)

/-- 'laws.FnExactPendingOf': WHATEVER THE INPUT: true; the input reads as it did. -/
def fnExactPendingOfSpec : ChangeSpec := { name := "fnExactPendingOf", fn := fun _ => fun
  | [d] => { results := [.lit (.bool true)], args := [d] }
  | _ => none }
def fnExactPendingOfRow : OpenClaim := { program := "ytndhiaommphegaa", sum := "81e933525bee35e961926d812ef0d7e0293e55c00455419483a481b36acef5d4", func := "loop.example/g00389/laws.FnExactPendingOf", spec := "fnExactPendingOf", apart := false }
def FnExactPendingOfSaid : Prop := fnExactPendingOfRow.holds Try.pinned (OpenSpec.ofChange fnExactPendingOfSpec)

/-- ITS FALSE NEIGHBOUR: 'it returns false'. Refute it at one input. -/
def fnExactPendingOfWrong : ChangeSpec := { name := "fnExactPendingOf", fn := fun _ => fun
  | [d] => { results := [.lit (.bool false)], args := [d] }
  | _ => none }
def FnExactPendingOfWrongFalsely : Prop := fnExactPendingOfRow.holds Try.pinned (OpenSpec.ofChange fnExactPendingOfWrong)

/- THE SECOND FORM. 'bulk': how many values and letters a reading holds, each counted each time it is reached (what is shared counts as often as it is met; a slice's spare places count too). A statement '..UptoSaid' is the law's where the arguments, and the package variables that the reading takes, are together of bulk at most 1048576: NARROWER than '..Said'. Prove '..Said' where nothing that the law and all that it calls make is longer than what came in: it says more and counts as full. Else prove '..UptoSaid'. A law counts once. -/
mutual
def uptoBulk {H : Type} : DataW H → Nat
  | .lit (.string bytes) => bytes.length + 1
  | .lit _ => 1
  | .nil => 1
  | .ptr d => uptoBulk d + 1
  | .slice elems spare => uptoBulkAll elems + uptoBulkAll spare + 1
  | .agg parts => uptoBulkAll parts + 1
  | .iface _ d => uptoBulk d + 1
  | .map entries => uptoBulkEntries entries + 1
  | .held _ => 1
def uptoBulkAll {H : Type} : List (DataW H) → Nat
  | [] => 0
  | d :: r => uptoBulk d + uptoBulkAll r
def uptoBulkEntries {H : Type} : List (Lit × DataW H) → Nat
  | [] => 0
  | x :: r => uptoBulkEntry x + uptoBulkEntries r
def uptoBulkEntry {H : Type} : Lit × DataW H → Nat
  | (.string bytes, d) => bytes.length + uptoBulk d + 1
  | (_, d) => uptoBulk d + 1
 end
def uptoSmall : (H : Type) → List (DataW H) → Bool := fun _ ds => decide (uptoBulkAll ds ≤ 1048576)
def OpenSpec.upto (s : _root_.Go.ChangeSpec) : _root_.Go.OpenSpec := { _root_.Go.OpenSpec.ofChange s with cond := some uptoSmall }

/-- 'laws.FnExactNewIrq', WHERE WHAT IT READS IS OF BULK AT MOST 1048576: true; the input reads as it did. -/
def fnExactNewIrqUptoRow : OpenClaim := { program := "ytndhiaommphegaa", sum := "81e933525bee35e961926d812ef0d7e0293e55c00455419483a481b36acef5d4", func := "loop.example/g00389/laws.FnExactNewIrq", spec := "fnExactNewIrq", apart := false, narrowed := true }
def FnExactNewIrqUptoSaid : Prop := fnExactNewIrqUptoRow.holds Try.pinned (OpenSpec.upto fnExactNewIrqSpec)

/-- 'laws.FnExactGoodIrq', WHERE WHAT IT READS IS OF BULK AT MOST 1048576: true; the input reads as it did. -/
def fnExactGoodIrqUptoRow : OpenClaim := { program := "ytndhiaommphegaa", sum := "81e933525bee35e961926d812ef0d7e0293e55c00455419483a481b36acef5d4", func := "loop.example/g00389/laws.FnExactGoodIrq", spec := "fnExactGoodIrq", apart := false, narrowed := true }
def FnExactGoodIrqUptoSaid : Prop := fnExactGoodIrqUptoRow.holds Try.pinned (OpenSpec.upto fnExactGoodIrqSpec)

/-- 'laws.FnExactSetLine', WHERE WHAT IT READS IS OF BULK AT MOST 1048576: true; the input reads as it did. -/
def fnExactSetLineUptoRow : OpenClaim := { program := "ytndhiaommphegaa", sum := "81e933525bee35e961926d812ef0d7e0293e55c00455419483a481b36acef5d4", func := "loop.example/g00389/laws.FnExactSetLine", spec := "fnExactSetLine", apart := false, narrowed := true }
def FnExactSetLineUptoSaid : Prop := fnExactSetLineUptoRow.holds Try.pinned (OpenSpec.upto fnExactSetLineSpec)

/-- 'laws.FnExactPendingOf', WHERE WHAT IT READS IS OF BULK AT MOST 1048576: true; the input reads as it did. -/
def fnExactPendingOfUptoRow : OpenClaim := { program := "ytndhiaommphegaa", sum := "81e933525bee35e961926d812ef0d7e0293e55c00455419483a481b36acef5d4", func := "loop.example/g00389/laws.FnExactPendingOf", spec := "fnExactPendingOf", apart := false, narrowed := true }
def FnExactPendingOfUptoSaid : Prop := fnExactPendingOfUptoRow.holds Try.pinned (OpenSpec.upto fnExactPendingOfSpec)

end Rows
end Go.Proofs.Ytndhiaommphegaa
