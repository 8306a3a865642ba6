/-
  No cell of these rows narrows 'for every input' (looked for: loops, veiled, ifaces, maps, wideKeys, modest, calm, conditions, laid).
  DERIVED. THE GIVEN ROWS OF THIS SEAT. 3 by the template 'for every input the law returns true; each argument reads behind the call as it read before'; 0 by the template 'total and deterministic' (their statements: YtflnodadeajmcaaGreatTotals.lean).
  GIVEN WITH THE SEED: the statements are not yours to turn. If you find one false, say at which input.
  Laid BY PROGRAM, IN A SANDBOX (cutbox-rows.mjs): the forced cells as the released guide's own fill.sh prints them over the translation 7f637564ebd1137c… (all of the seat's roots in one cut). By AI agents, Wed Nov 11 2026. No macro, syntax, notation, axiom, sorry.
-/
import Derived.Test.YtflnodadeajmcaaGreatChecked
import GoSem.Claim
import GoSem.ClaimJoined
import GoSem.ClaimMapViews
import Derived.JoinedTies
import Derived.KernelRfl
namespace Go.Proofs.YtflnodadeajmcaaGreat
/- THE CELL 'sum', in the pinned program and in every row, IS THE sha256 OF THE DUMP (.gsa) THAT YtflnodadeajmcaaGreatProg.lean LOADS. Nothing in Lean hashes anything: it is a label: what it is worth is what the hold of that sum in a sandbox is worth. -/
noncomputable def Tryz.pinned : Pinned := { name := "ytflnodadeajmcaagreat", sum := "7f637564ebd1137c206a9caf53ab869f9e5f0ab34258ba7c9c18b5e5ee65f188", checked := Tryz.checked }
namespace Rows
def none {H : Type} : Left H := { results := [], args := [] }

/-- 'laws.FnExactAllFresh': WHATEVER THE INPUT: true; the input reads as it did. -/
def fnExactAllFreshSpec : ChangeSpec := { name := "fnExactAllFresh", fn := fun _ => fun
  | [d1, d2] => { results := [.lit (.bool true)], args := [d1, d2] }
  | _ => none }
def fnExactAllFreshRow : OpenClaim := { program := "ytflnodadeajmcaagreat", sum := "7f637564ebd1137c206a9caf53ab869f9e5f0ab34258ba7c9c18b5e5ee65f188", func := "loop.example/g00389/laws.FnExactAllFresh", spec := "fnExactAllFresh", unfollowed := true, recurses := true, apart := false }
def FnExactAllFreshSaid : Prop := fnExactAllFreshRow.holds Tryz.pinned (OpenSpec.ofChange fnExactAllFreshSpec)

/-- ITS FALSE NEIGHBOUR: 'it returns false'. Refute it at one input. -/
def fnExactAllFreshWrong : ChangeSpec := { name := "fnExactAllFresh", fn := fun _ => fun
  | [d1, d2] => { results := [.lit (.bool false)], args := [d1, d2] }
  | _ => none }
def FnExactAllFreshWrongFalsely : Prop := fnExactAllFreshRow.holds Tryz.pinned (OpenSpec.ofChange fnExactAllFreshWrong)

/-- 'laws.FnExactUnitFor': WHATEVER THE INPUT: true; the input reads as it did. -/
def fnExactUnitForSpec : ChangeSpec := { name := "fnExactUnitFor", fn := fun _ => fun
  | [d1, d2, d3] => { results := [.lit (.bool true)], args := [d1, d2, d3] }
  | _ => none }
def fnExactUnitForRow : OpenClaim := { program := "ytflnodadeajmcaagreat", sum := "7f637564ebd1137c206a9caf53ab869f9e5f0ab34258ba7c9c18b5e5ee65f188", func := "loop.example/g00389/laws.FnExactUnitFor", spec := "fnExactUnitFor", unfollowed := true, recurses := true, apart := false }
def FnExactUnitForSaid : Prop := fnExactUnitForRow.holds Tryz.pinned (OpenSpec.ofChange fnExactUnitForSpec)

/-- ITS FALSE NEIGHBOUR: 'it returns false'. Refute it at one input. -/
def fnExactUnitForWrong : ChangeSpec := { name := "fnExactUnitFor", fn := fun _ => fun
  | [d1, d2, d3] => { results := [.lit (.bool false)], args := [d1, d2, d3] }
  | _ => none }
def FnExactUnitForWrongFalsely : Prop := fnExactUnitForRow.holds Tryz.pinned (OpenSpec.ofChange fnExactUnitForWrong)

/-- 'laws.FnExactDropStale': WHATEVER THE INPUT: true; the input reads as it did. -/
def fnExactDropStaleSpec : ChangeSpec := { name := "fnExactDropStale", fn := fun _ => fun
  | [d1, d2] => { results := [.lit (.bool true)], args := [d1, d2] }
  | _ => none }
def fnExactDropStaleRow : OpenClaim := { program := "ytflnodadeajmcaagreat", sum := "7f637564ebd1137c206a9caf53ab869f9e5f0ab34258ba7c9c18b5e5ee65f188", func := "loop.example/g00389/laws.FnExactDropStale", spec := "fnExactDropStale", unfollowed := true, recurses := true, apart := false }
def FnExactDropStaleSaid : Prop := fnExactDropStaleRow.holds Tryz.pinned (OpenSpec.ofChange fnExactDropStaleSpec)

/-- ITS FALSE NEIGHBOUR: 'it returns false'. Refute it at one input. -/
def fnExactDropStaleWrong : ChangeSpec := { name := "fnExactDropStale", fn := fun _ => fun
  | [d1, d2] => { results := [.lit (.bool false)], args := [d1, d2] }
  | _ => none }
def FnExactDropStaleWrongFalsely : Prop := fnExactDropStaleRow.holds Tryz.pinned (OpenSpec.ofChange fnExactDropStaleWrong)

/- THE SECOND FORM. 'bulk': how many values and letters a reading holds, each counted each time it is reached (what is shared counts as often as it is met; a slice's spare places count too). A statement '..UptoSaid' is the law's where the arguments, and the package variables that the reading takes, are together of bulk at most 1048576: NARROWER than '..Said'. Prove '..Said' where nothing that the law and all that it calls make is longer than what came in: it says more and counts as full. Else prove '..UptoSaid'. A law counts once. -/
mutual
def uptoBulk {H : Type} : DataW H → Nat
  | .lit (.string bytes) => bytes.length + 1
  | .lit _ => 1
  | .nil => 1
  | .ptr d => uptoBulk d + 1
  | .slice elems spare => uptoBulkAll elems + uptoBulkAll spare + 1
  | .agg parts => uptoBulkAll parts + 1
  | .iface _ d => uptoBulk d + 1
  | .map entries => uptoBulkEntries entries + 1
  | .held _ => 1
def uptoBulkAll {H : Type} : List (DataW H) → Nat
  | [] => 0
  | d :: r => uptoBulk d + uptoBulkAll r
def uptoBulkEntries {H : Type} : List (Lit × DataW H) → Nat
  | [] => 0
  | x :: r => uptoBulkEntry x + uptoBulkEntries r
def uptoBulkEntry {H : Type} : Lit × DataW H → Nat
  | (.string bytes, d) => bytes.length + uptoBulk d + 1
  | (_, d) => uptoBulk d + 1
 end
def uptoSmall : (H : Type) → List (DataW H) → Bool := fun _ ds => decide (uptoBulkAll ds ≤ 1048576)
def OpenSpec.upto (s : _root_.Go.ChangeSpec) : _root_.Go.OpenSpec := { _root_.Go.OpenSpec.ofChange s with cond := some uptoSmall }

/-- 'laws.FnExactAllFresh', WHERE WHAT IT READS IS OF BULK AT MOST 1048576: true; the input reads as it did. -/
def fnExactAllFreshUptoRow : OpenClaim := { program := "ytflnodadeajmcaagreat", sum := "7f637564ebd1137c206a9caf53ab869f9e5f0ab34258ba7c9c18b5e5ee65f188", func := "loop.example/g00389/laws.FnExactAllFresh", spec := "fnExactAllFresh", unfollowed := true, recurses := true, apart := false, narrowed := true }
def FnExactAllFreshUptoSaid : Prop := fnExactAllFreshUptoRow.holds Tryz.pinned (OpenSpec.upto fnExactAllFreshSpec)

/-- 'laws.FnExactUnitFor', WHERE WHAT IT READS IS OF BULK AT MOST 1048576: true; the input reads as it did. -/
def fnExactUnitForUptoRow : OpenClaim := { program := "ytflnodadeajmcaagreat", sum := "7f637564ebd1137c206a9caf53ab869f9e5f0ab34258ba7c9c18b5e5ee65f188", func := "loop.example/g00389/laws.FnExactUnitFor", spec := "fnExactUnitFor", unfollowed := true, recurses := true, apart := false, narrowed := true }
def FnExactUnitForUptoSaid : Prop := fnExactUnitForUptoRow.holds Tryz.pinned (OpenSpec.upto fnExactUnitForSpec)

/-- 'laws.FnExactDropStale', WHERE WHAT IT READS IS OF BULK AT MOST 1048576: true; the input reads as it did. -/
def fnExactDropStaleUptoRow : OpenClaim := { program := "ytflnodadeajmcaagreat", sum := "7f637564ebd1137c206a9caf53ab869f9e5f0ab34258ba7c9c18b5e5ee65f188", func := "loop.example/g00389/laws.FnExactDropStale", spec := "fnExactDropStale", unfollowed := true, recurses := true, apart := false, narrowed := true }
def FnExactDropStaleUptoSaid : Prop := fnExactDropStaleUptoRow.holds Tryz.pinned (OpenSpec.upto fnExactDropStaleSpec)

end Rows
end Go.Proofs.YtflnodadeajmcaaGreat
