/-
  No cell of these rows narrows 'for every input' (looked for: loops, veiled, ifaces, maps, wideKeys, modest, calm, conditions, laid).
  DERIVED. THE GIVEN ROWS OF THIS SEAT. 7 by the template 'for every input the law returns true; each argument reads behind the call as it read before'; 0 by the template 'total and deterministic' (their statements: YtlbnllhabdnjjaaTotals.lean).
  GIVEN WITH THE SEED: the statements are not yours to turn. If you find one false, say at which input.
  Laid BY PROGRAM, IN A SANDBOX (cutbox-rows.mjs): the forced cells as the released guide's own fill.sh prints them over the translation e9f17ad69fb9e212… (all of the seat's roots in one cut). By AI agents, Wed Nov 11 2026. No macro, syntax, notation, axiom, sorry.
-/
import Derived.Test.YtlbnllhabdnjjaaChecked
import GoSem.Claim
import GoSem.ClaimJoined
import GoSem.ClaimMapViews
import Derived.JoinedTies
import Derived.KernelRfl
namespace Go.Proofs.Ytlbnllhabdnjjaa
/- THE CELL 'sum', in the pinned program and in every row, IS THE sha256 OF THE DUMP (.gsa) THAT YtlbnllhabdnjjaaProg.lean LOADS. Nothing in Lean hashes anything: it is a label: what it is worth is what the hold of that sum in a sandbox is worth. -/
noncomputable def Try.pinned : Pinned := { name := "ytlbnllhabdnjjaa", sum := "e9f17ad69fb9e2126ccec57c1430d9e45ab292b36471cf10c133097ab9502e98", checked := Try.checked }
namespace Rows
def none {H : Type} : Left H := { results := [], args := [] }

/-- 'laws.FnExactGoodIns': WHATEVER THE INPUT: true; the input reads as it did. -/
def fnExactGoodInsSpec : ChangeSpec := { name := "fnExactGoodIns", fn := fun _ => fun
  | [d] => { results := [.lit (.bool true)], args := [d] }
  | _ => none }
def fnExactGoodInsRow : OpenClaim := { program := "ytlbnllhabdnjjaa", sum := "e9f17ad69fb9e2126ccec57c1430d9e45ab292b36471cf10c133097ab9502e98", func := "loop.example/g00389/laws.FnExactGoodIns", spec := "fnExactGoodIns", unfollowed := true, recurses := true, plainKeys := false, apart := false }
def FnExactGoodInsSaid : Prop := fnExactGoodInsRow.holds Try.pinned (OpenSpec.ofChange fnExactGoodInsSpec)

/-- ITS FALSE NEIGHBOUR: 'it returns false'. Refute it at one input. -/
def fnExactGoodInsWrong : ChangeSpec := { name := "fnExactGoodIns", fn := fun _ => fun
  | [d] => { results := [.lit (.bool false)], args := [d] }
  | _ => none }
def FnExactGoodInsWrongFalsely : Prop := fnExactGoodInsRow.holds Try.pinned (OpenSpec.ofChange fnExactGoodInsWrong)

/-- 'laws.FnExactEncodeIns': WHATEVER THE INPUT: true; the input reads as it did. -/
def fnExactEncodeInsSpec : ChangeSpec := { name := "fnExactEncodeIns", fn := fun _ => fun
  | [d] => { results := [.lit (.bool true)], args := [d] }
  | _ => none }
def fnExactEncodeInsRow : OpenClaim := { program := "ytlbnllhabdnjjaa", sum := "e9f17ad69fb9e2126ccec57c1430d9e45ab292b36471cf10c133097ab9502e98", func := "loop.example/g00389/laws.FnExactEncodeIns", spec := "fnExactEncodeIns", unfollowed := true, recurses := true, plainKeys := false, apart := false }
def FnExactEncodeInsSaid : Prop := fnExactEncodeInsRow.holds Try.pinned (OpenSpec.ofChange fnExactEncodeInsSpec)

/-- ITS FALSE NEIGHBOUR: 'it returns false'. Refute it at one input. -/
def fnExactEncodeInsWrong : ChangeSpec := { name := "fnExactEncodeIns", fn := fun _ => fun
  | [d] => { results := [.lit (.bool false)], args := [d] }
  | _ => none }
def FnExactEncodeInsWrongFalsely : Prop := fnExactEncodeInsRow.holds Try.pinned (OpenSpec.ofChange fnExactEncodeInsWrong)

/-- 'laws.FnExactDecodeIns': WHATEVER THE INPUT: true; the input reads as it did. -/
def fnExactDecodeInsSpec : ChangeSpec := { name := "fnExactDecodeIns", fn := fun _ => fun
  | [d1, d2] => { results := [.lit (.bool true)], args := [d1, d2] }
  | _ => none }
def fnExactDecodeInsRow : OpenClaim := { program := "ytlbnllhabdnjjaa", sum := "e9f17ad69fb9e2126ccec57c1430d9e45ab292b36471cf10c133097ab9502e98", func := "loop.example/g00389/laws.FnExactDecodeIns", spec := "fnExactDecodeIns", unfollowed := true, recurses := true, plainKeys := false, apart := false }
def FnExactDecodeInsSaid : Prop := fnExactDecodeInsRow.holds Try.pinned (OpenSpec.ofChange fnExactDecodeInsSpec)

/-- ITS FALSE NEIGHBOUR: 'it returns false'. Refute it at one input. -/
def fnExactDecodeInsWrong : ChangeSpec := { name := "fnExactDecodeIns", fn := fun _ => fun
  | [d1, d2] => { results := [.lit (.bool false)], args := [d1, d2] }
  | _ => none }
def FnExactDecodeInsWrongFalsely : Prop := fnExactDecodeInsRow.holds Try.pinned (OpenSpec.ofChange fnExactDecodeInsWrong)

/-- 'laws.FnExactLongIns': WHATEVER THE INPUT: true; the input reads as it did. -/
def fnExactLongInsSpec : ChangeSpec := { name := "fnExactLongIns", fn := fun _ => fun
  | [d] => { results := [.lit (.bool true)], args := [d] }
  | _ => none }
def fnExactLongInsRow : OpenClaim := { program := "ytlbnllhabdnjjaa", sum := "e9f17ad69fb9e2126ccec57c1430d9e45ab292b36471cf10c133097ab9502e98", func := "loop.example/g00389/laws.FnExactLongIns", spec := "fnExactLongIns", plainKeys := false, apart := false }
def FnExactLongInsSaid : Prop := fnExactLongInsRow.holds Try.pinned (OpenSpec.ofChange fnExactLongInsSpec)

/-- ITS FALSE NEIGHBOUR: 'it returns false'. Refute it at one input. -/
def fnExactLongInsWrong : ChangeSpec := { name := "fnExactLongIns", fn := fun _ => fun
  | [d] => { results := [.lit (.bool false)], args := [d] }
  | _ => none }
def FnExactLongInsWrongFalsely : Prop := fnExactLongInsRow.holds Try.pinned (OpenSpec.ofChange fnExactLongInsWrong)

/-- 'laws.FnExactEncodeAll': WHATEVER THE INPUT: true; the input reads as it did. -/
def fnExactEncodeAllSpec : ChangeSpec := { name := "fnExactEncodeAll", fn := fun _ => fun
  | [d] => { results := [.lit (.bool true)], args := [d] }
  | _ => none }
def fnExactEncodeAllRow : OpenClaim := { program := "ytlbnllhabdnjjaa", sum := "e9f17ad69fb9e2126ccec57c1430d9e45ab292b36471cf10c133097ab9502e98", func := "loop.example/g00389/laws.FnExactEncodeAll", spec := "fnExactEncodeAll", unfollowed := true, recurses := true, plainKeys := false, apart := false }
def FnExactEncodeAllSaid : Prop := fnExactEncodeAllRow.holds Try.pinned (OpenSpec.ofChange fnExactEncodeAllSpec)

/-- ITS FALSE NEIGHBOUR: 'it returns false'. Refute it at one input. -/
def fnExactEncodeAllWrong : ChangeSpec := { name := "fnExactEncodeAll", fn := fun _ => fun
  | [d] => { results := [.lit (.bool false)], args := [d] }
  | _ => none }
def FnExactEncodeAllWrongFalsely : Prop := fnExactEncodeAllRow.holds Try.pinned (OpenSpec.ofChange fnExactEncodeAllWrong)

/-- 'laws.FnExactDecodeAll': WHATEVER THE INPUT: true; the input reads as it did. -/
def fnExactDecodeAllSpec : ChangeSpec := { name := "fnExactDecodeAll", fn := fun _ => fun
  | [d] => { results := [.lit (.bool true)], args := [d] }
  | _ => none }
def fnExactDecodeAllRow : OpenClaim := { program := "ytlbnllhabdnjjaa", sum := "e9f17ad69fb9e2126ccec57c1430d9e45ab292b36471cf10c133097ab9502e98", func := "loop.example/g00389/laws.FnExactDecodeAll", spec := "fnExactDecodeAll", unfollowed := true, recurses := true, plainKeys := false, apart := false }
def FnExactDecodeAllSaid : Prop := fnExactDecodeAllRow.holds Try.pinned (OpenSpec.ofChange fnExactDecodeAllSpec)

/-- ITS FALSE NEIGHBOUR: 'it returns false'. Refute it at one input. -/
def fnExactDecodeAllWrong : ChangeSpec := { name := "fnExactDecodeAll", fn := fun _ => fun
  | [d] => { results := [.lit (.bool false)], args := [d] }
  | _ => none }
def FnExactDecodeAllWrongFalsely : Prop := fnExactDecodeAllRow.holds Try.pinned (OpenSpec.ofChange fnExactDecodeAllWrong)

/-- 'laws.FnExactIsPrivileged': WHATEVER THE INPUT: true; the input reads as it did. -/
def fnExactIsPrivilegedSpec : ChangeSpec := { name := "fnExactIsPrivileged", fn := fun _ => fun
  | [d] => { results := [.lit (.bool true)], args := [d] }
  | _ => none }
def fnExactIsPrivilegedRow : OpenClaim := { program := "ytlbnllhabdnjjaa", sum := "e9f17ad69fb9e2126ccec57c1430d9e45ab292b36471cf10c133097ab9502e98", func := "loop.example/g00389/laws.FnExactIsPrivileged", spec := "fnExactIsPrivileged", unfollowed := true, recurses := true, plainKeys := false, apart := false }
def FnExactIsPrivilegedSaid : Prop := fnExactIsPrivilegedRow.holds Try.pinned (OpenSpec.ofChange fnExactIsPrivilegedSpec)

/-- ITS FALSE NEIGHBOUR: 'it returns false'. Refute it at one input. -/
def fnExactIsPrivilegedWrong : ChangeSpec := { name := "fnExactIsPrivileged", fn := fun _ => fun
  | [d] => { results := [.lit (.bool false)], args := [d] }
  | _ => none }
def FnExactIsPrivilegedWrongFalsely : Prop := fnExactIsPrivilegedRow.holds Try.pinned (OpenSpec.ofChange fnExactIsPrivilegedWrong)

/- THE SECOND FORM. 'bulk': how many values and letters a reading holds, each counted each time it is reached (what is shared counts as often as it is met; a slice's spare places count too). A statement '..UptoSaid' is the law's where the arguments, and the package variables that the reading takes, are together of bulk at most 1048576: NARROWER than '..Said'. Prove '..Said' where nothing that the law and all that it calls make is longer than what came in: it says more and counts as full. Else prove '..UptoSaid'. A law counts once. -/
mutual
def uptoBulk {H : Type} : DataW H → Nat
  | .lit (.string bytes) => bytes.length + 1
  | .lit _ => 1
  | .nil => 1
  | .ptr d => uptoBulk d + 1
  | .slice elems spare => uptoBulkAll elems + uptoBulkAll spare + 1
  | .agg parts => uptoBulkAll parts + 1
  | .iface _ d => uptoBulk d + 1
  | .map entries => uptoBulkEntries entries + 1
  | .held _ => 1
def uptoBulkAll {H : Type} : List (DataW H) → Nat
  | [] => 0
  | d :: r => uptoBulk d + uptoBulkAll r
def uptoBulkEntries {H : Type} : List (Lit × DataW H) → Nat
  | [] => 0
  | x :: r => uptoBulkEntry x + uptoBulkEntries r
def uptoBulkEntry {H : Type} : Lit × DataW H → Nat
  | (.string bytes, d) => bytes.length + uptoBulk d + 1
  | (_, d) => uptoBulk d + 1
 end
def uptoSmall : (H : Type) → List (DataW H) → Bool := fun _ ds => decide (uptoBulkAll ds ≤ 1048576)
def OpenSpec.upto (s : _root_.Go.ChangeSpec) : _root_.Go.OpenSpec := { _root_.Go.OpenSpec.ofChange s with cond := some uptoSmall }

/-- 'laws.FnExactGoodIns', WHERE WHAT IT READS IS OF BULK AT MOST 1048576: true; the input reads as it did. -/
def fnExactGoodInsUptoRow : OpenClaim := { program := "ytlbnllhabdnjjaa", sum := "e9f17ad69fb9e2126ccec57c1430d9e45ab292b36471cf10c133097ab9502e98", func := "loop.example/g00389/laws.FnExactGoodIns", spec := "fnExactGoodIns", unfollowed := true, recurses := true, plainKeys := false, apart := false, narrowed := true }
def FnExactGoodInsUptoSaid : Prop := fnExactGoodInsUptoRow.holds Try.pinned (OpenSpec.upto fnExactGoodInsSpec)

/-- 'laws.FnExactEncodeIns', WHERE WHAT IT READS IS OF BULK AT MOST 1048576: true; the input reads as it did. -/
def fnExactEncodeInsUptoRow : OpenClaim := { program := "ytlbnllhabdnjjaa", sum := "e9f17ad69fb9e2126ccec57c1430d9e45ab292b36471cf10c133097ab9502e98", func := "loop.example/g00389/laws.FnExactEncodeIns", spec := "fnExactEncodeIns", unfollowed := true, recurses := true, plainKeys := false, apart := false, narrowed := true }
def FnExactEncodeInsUptoSaid : Prop := fnExactEncodeInsUptoRow.holds Try.pinned (OpenSpec.upto fnExactEncodeInsSpec)

/-- 'laws.FnExactDecodeIns', WHERE WHAT IT READS IS OF BULK AT MOST 1048576: true; the input reads as it did. -/
def fnExactDecodeInsUptoRow : OpenClaim := { program := "ytlbnllhabdnjjaa", sum := "e9f17ad69fb9e2126ccec57c1430d9e45ab292b36471cf10c133097ab9502e98", func := "loop.example/g00389/laws.FnExactDecodeIns", spec := "fnExactDecodeIns", unfollowed := true, recurses := true, plainKeys := false, apart := false, narrowed := true }
def FnExactDecodeInsUptoSaid : Prop := fnExactDecodeInsUptoRow.holds Try.pinned (OpenSpec.upto fnExactDecodeInsSpec)

/-- 'laws.FnExactLongIns', WHERE WHAT IT READS IS OF BULK AT MOST 1048576: true; the input reads as it did. -/
def fnExactLongInsUptoRow : OpenClaim := { program := "ytlbnllhabdnjjaa", sum := "e9f17ad69fb9e2126ccec57c1430d9e45ab292b36471cf10c133097ab9502e98", func := "loop.example/g00389/laws.FnExactLongIns", spec := "fnExactLongIns", plainKeys := false, apart := false, narrowed := true }
def FnExactLongInsUptoSaid : Prop := fnExactLongInsUptoRow.holds Try.pinned (OpenSpec.upto fnExactLongInsSpec)

/-- 'laws.FnExactEncodeAll', WHERE WHAT IT READS IS OF BULK AT MOST 1048576: true; the input reads as it did. -/
def fnExactEncodeAllUptoRow : OpenClaim := { program := "ytlbnllhabdnjjaa", sum := "e9f17ad69fb9e2126ccec57c1430d9e45ab292b36471cf10c133097ab9502e98", func := "loop.example/g00389/laws.FnExactEncodeAll", spec := "fnExactEncodeAll", unfollowed := true, recurses := true, plainKeys := false, apart := false, narrowed := true }
def FnExactEncodeAllUptoSaid : Prop := fnExactEncodeAllUptoRow.holds Try.pinned (OpenSpec.upto fnExactEncodeAllSpec)

/-- 'laws.FnExactDecodeAll', WHERE WHAT IT READS IS OF BULK AT MOST 1048576: true; the input reads as it did. -/
def fnExactDecodeAllUptoRow : OpenClaim := { program := "ytlbnllhabdnjjaa", sum := "e9f17ad69fb9e2126ccec57c1430d9e45ab292b36471cf10c133097ab9502e98", func := "loop.example/g00389/laws.FnExactDecodeAll", spec := "fnExactDecodeAll", unfollowed := true, recurses := true, plainKeys := false, apart := false, narrowed := true }
def FnExactDecodeAllUptoSaid : Prop := fnExactDecodeAllUptoRow.holds Try.pinned (OpenSpec.upto fnExactDecodeAllSpec)

/-- 'laws.FnExactIsPrivileged', WHERE WHAT IT READS IS OF BULK AT MOST 1048576: true; the input reads as it did. -/
def fnExactIsPrivilegedUptoRow : OpenClaim := { program := "ytlbnllhabdnjjaa", sum := "e9f17ad69fb9e2126ccec57c1430d9e45ab292b36471cf10c133097ab9502e98", func := "loop.example/g00389/laws.FnExactIsPrivileged", spec := "fnExactIsPrivileged", unfollowed := true, recurses := true, plainKeys := false, apart := false, narrowed := true }
def FnExactIsPrivilegedUptoSaid : Prop := fnExactIsPrivilegedUptoRow.holds Try.pinned (OpenSpec.upto fnExactIsPrivilegedSpec)

end Rows
end Go.Proofs.Ytlbnllhabdnjjaa
