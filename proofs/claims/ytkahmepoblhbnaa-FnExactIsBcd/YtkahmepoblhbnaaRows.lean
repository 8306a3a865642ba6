/-
  No cell of these rows narrows 'for every input' (looked for: loops, veiled, ifaces, maps, wideKeys, modest, calm, conditions, laid).
  DERIVED. THE GIVEN ROWS OF THIS SEAT. 3 by the template 'for every input the law returns true; each argument reads behind the call as it read before'; 0 by the template 'total and deterministic' (their statements: YtkahmepoblhbnaaTotals.lean).
  GIVEN WITH THE SEED: the statements are not yours to turn. If you find one false, say at which input.
  Laid BY PROGRAM, IN A SANDBOX (cutbox-rows.mjs): the forced cells as the released guide's own fill.sh prints them over the translation 1babe681e71bdca6… (all of the seat's roots in one cut). By AI agents, Wed Nov 11 2026. No macro, syntax, notation, axiom, sorry.
-/
import Derived.Test.YtkahmepoblhbnaaChecked
import GoSem.Claim
import GoSem.ClaimJoined
import GoSem.ClaimMapViews
import Derived.JoinedTies
import Derived.KernelRfl
namespace Go.Proofs.Ytkahmepoblhbnaa
/- THE CELL 'sum', in the pinned program and in every row, IS THE sha256 OF THE DUMP (.gsa) THAT YtkahmepoblhbnaaProg.lean LOADS. Nothing in Lean hashes anything: it is a label: what it is worth is what the hold of that sum in a sandbox is worth. -/
noncomputable def Try.pinned : Pinned := { name := "ytkahmepoblhbnaa", sum := "1babe681e71bdca60518f6eae67b077b13e42ad26922c2026ab0c6eb261ed256", checked := Try.checked }
namespace Rows
def none {H : Type} : Left H := { results := [], args := [] }

/-- 'laws.FnExactIsBcd': WHATEVER THE INPUT: true; the input reads as it did. -/
def fnExactIsBcdSpec : ChangeSpec := { name := "fnExactIsBcd", fn := fun _ => fun
  | [d] => { results := [.lit (.bool true)], args := [d] }
  | _ => none }
def fnExactIsBcdRow : OpenClaim := { program := "ytkahmepoblhbnaa", sum := "1babe681e71bdca60518f6eae67b077b13e42ad26922c2026ab0c6eb261ed256", func := "loop.example/g00389/laws.FnExactIsBcd", spec := "fnExactIsBcd", apart := false }
def FnExactIsBcdSaid : Prop := fnExactIsBcdRow.holds Try.pinned (OpenSpec.ofChange fnExactIsBcdSpec)

/-- ITS FALSE NEIGHBOUR: 'it returns false'. Refute it at one input. -/
def fnExactIsBcdWrong : ChangeSpec := { name := "fnExactIsBcd", fn := fun _ => fun
  | [d] => { results := [.lit (.bool false)], args := [d] }
  | _ => none }
def FnExactIsBcdWrongFalsely : Prop := fnExactIsBcdRow.holds Try.pinned (OpenSpec.ofChange fnExactIsBcdWrong)

/-- 'laws.FnExactBcdOf': WHATEVER THE INPUT: true; the input reads as it did. -/
def fnExactBcdOfSpec : ChangeSpec := { name := "fnExactBcdOf", fn := fun _ => fun
  | [d] => { results := [.lit (.bool true)], args := [d] }
  | _ => none }
def fnExactBcdOfRow : OpenClaim := { program := "ytkahmepoblhbnaa", sum := "1babe681e71bdca60518f6eae67b077b13e42ad26922c2026ab0c6eb261ed256", func := "loop.example/g00389/laws.FnExactBcdOf", spec := "fnExactBcdOf", apart := false }
def FnExactBcdOfSaid : Prop := fnExactBcdOfRow.holds Try.pinned (OpenSpec.ofChange fnExactBcdOfSpec)

/-- ITS FALSE NEIGHBOUR: 'it returns false'. Refute it at one input. -/
def fnExactBcdOfWrong : ChangeSpec := { name := "fnExactBcdOf", fn := fun _ => fun
  | [d] => { results := [.lit (.bool false)], args := [d] }
  | _ => none }
def FnExactBcdOfWrongFalsely : Prop := fnExactBcdOfRow.holds Try.pinned (OpenSpec.ofChange fnExactBcdOfWrong)

/-- 'laws.FnExactNumberOf': WHATEVER THE INPUT: true; the input reads as it did. -/
def fnExactNumberOfSpec : ChangeSpec := { name := "fnExactNumberOf", fn := fun _ => fun
  | [d] => { results := [.lit (.bool true)], args := [d] }
  | _ => none }
def fnExactNumberOfRow : OpenClaim := { program := "ytkahmepoblhbnaa", sum := "1babe681e71bdca60518f6eae67b077b13e42ad26922c2026ab0c6eb261ed256", func := "loop.example/g00389/laws.FnExactNumberOf", spec := "fnExactNumberOf", apart := false }
def FnExactNumberOfSaid : Prop := fnExactNumberOfRow.holds Try.pinned (OpenSpec.ofChange fnExactNumberOfSpec)

/-- ITS FALSE NEIGHBOUR: 'it returns false'. Refute it at one input. -/
def fnExactNumberOfWrong : ChangeSpec := { name := "fnExactNumberOf", fn := fun _ => fun
  | [d] => { results := [.lit (.bool false)], args := [d] }
  | _ => none }
def FnExactNumberOfWrongFalsely : Prop := fnExactNumberOfRow.holds Try.pinned (OpenSpec.ofChange fnExactNumberOfWrong)

/- THE SECOND FORM. 'bulk': how many values and letters a reading holds, each counted each time it is reached (what is shared counts as often as it is met; a slice's spare places count too). A statement '..UptoSaid' is the law's where the arguments, and the package variables that the reading takes, are together of bulk at most 1048576: NARROWER than '..Said'. Prove '..Said' where nothing that the law and all that it calls make is longer than what came in: it says more and counts as full. Else prove '..UptoSaid'. A law counts once. -/
mutual
def uptoBulk {H : Type} : DataW H → Nat
  | .lit (.string bytes) => bytes.length + 1
  | .lit _ => 1
  | .nil => 1
  | .ptr d => uptoBulk d + 1
  | .slice elems spare => uptoBulkAll elems + uptoBulkAll spare + 1
  | .agg parts => uptoBulkAll parts + 1
  | .iface _ d => uptoBulk d + 1
  | .map entries => uptoBulkEntries entries + 1
  | .held _ => 1
def uptoBulkAll {H : Type} : List (DataW H) → Nat
  | [] => 0
  | d :: r => uptoBulk d + uptoBulkAll r
def uptoBulkEntries {H : Type} : List (Lit × DataW H) → Nat
  | [] => 0
  | x :: r => uptoBulkEntry x + uptoBulkEntries r
def uptoBulkEntry {H : Type} : Lit × DataW H → Nat
  | (.string bytes, d) => bytes.length + uptoBulk d + 1
  | (_, d) => uptoBulk d + 1
 end
def uptoSmall : (H : Type) → List (DataW H) → Bool := fun _ ds => decide (uptoBulkAll ds ≤ 1048576)
def OpenSpec.upto (s : _root_.Go.ChangeSpec) : _root_.Go.OpenSpec := { _root_.Go.OpenSpec.ofChange s with cond := some uptoSmall }

/-- 'laws.FnExactIsBcd', WHERE WHAT IT READS IS OF BULK AT MOST 1048576: true; the input reads as it did. -/
def fnExactIsBcdUptoRow : OpenClaim := { program := "ytkahmepoblhbnaa", sum := "1babe681e71bdca60518f6eae67b077b13e42ad26922c2026ab0c6eb261ed256", func := "loop.example/g00389/laws.FnExactIsBcd", spec := "fnExactIsBcd", apart := false, narrowed := true }
def FnExactIsBcdUptoSaid : Prop := fnExactIsBcdUptoRow.holds Try.pinned (OpenSpec.upto fnExactIsBcdSpec)

/-- 'laws.FnExactBcdOf', WHERE WHAT IT READS IS OF BULK AT MOST 1048576: true; the input reads as it did. -/
def fnExactBcdOfUptoRow : OpenClaim := { program := "ytkahmepoblhbnaa", sum := "1babe681e71bdca60518f6eae67b077b13e42ad26922c2026ab0c6eb261ed256", func := "loop.example/g00389/laws.FnExactBcdOf", spec := "fnExactBcdOf", apart := false, narrowed := true }
def FnExactBcdOfUptoSaid : Prop := fnExactBcdOfUptoRow.holds Try.pinned (OpenSpec.upto fnExactBcdOfSpec)

/-- 'laws.FnExactNumberOf', WHERE WHAT IT READS IS OF BULK AT MOST 1048576: true; the input reads as it did. -/
def fnExactNumberOfUptoRow : OpenClaim := { program := "ytkahmepoblhbnaa", sum := "1babe681e71bdca60518f6eae67b077b13e42ad26922c2026ab0c6eb261ed256", func := "loop.example/g00389/laws.FnExactNumberOf", spec := "fnExactNumberOf", apart := false, narrowed := true }
def FnExactNumberOfUptoSaid : Prop := fnExactNumberOfUptoRow.holds Try.pinned (OpenSpec.upto fnExactNumberOfSpec)

end Rows
end Go.Proofs.Ytkahmepoblhbnaa
