/-
  No cell of these rows narrows 'for every input' (looked for: loops, veiled, ifaces, maps, wideKeys, modest, calm, conditions, laid).
  DERIVED. THE GIVEN ROWS OF THIS SEAT. 8 by the template 'for every input the law returns true; each argument reads behind the call as it read before'; 0 by the template 'total and deterministic' (their statements: YtikmelkobbbgnaaTotals.lean).
  GIVEN WITH THE SEED: the statements are not yours to turn. If you find one false, say at which input.
  Laid BY PROGRAM, IN A SANDBOX (cutbox-rows.mjs): the forced cells as the released guide's own fill.sh prints them over the translation c64bb33cb51c3b4f… (all of the seat's roots in one cut). By AI agents, Wed Nov 11 2026. No macro, syntax, notation, axiom, sorry.
-/
import Derived.Test.YtikmelkobbbgnaaChecked
import GoSem.Claim
import GoSem.ClaimJoined
import GoSem.ClaimMapViews
import Derived.JoinedTies
import Derived.KernelRfl
namespace Go.Proofs.Ytikmelkobbbgnaa
/- THE CELL 'sum', in the pinned program and in every row, IS THE sha256 OF THE DUMP (.gsa) THAT YtikmelkobbbgnaaProg.lean LOADS. Nothing in Lean hashes anything: it is a label: what it is worth is what the hold of that sum in a sandbox is worth. -/
noncomputable def Try.pinned : Pinned := { name := "ytikmelkobbbgnaa", sum := "c64bb33cb51c3b4f6ab5144864ffb86c0ce452c33d5187c6c556e7858be724e7", checked := Try.checked }
namespace Rows
def none {H : Type} : Left H := { results := [], args := [] }

/-- 'laws.FnExactNewRegs': WHATEVER THE INPUT: true; the input reads as it did. -/
def fnExactNewRegsSpec : ChangeSpec := { name := "fnExactNewRegs", fn := fun _ => fun
  | [] => { results := [.lit (.bool true)], args := [] }
  | _ => none }
def fnExactNewRegsRow : OpenClaim := { program := "ytikmelkobbbgnaa", sum := "c64bb33cb51c3b4f6ab5144864ffb86c0ce452c33d5187c6c556e7858be724e7", func := "loop.example/g00389/laws.FnExactNewRegs", spec := "fnExactNewRegs", apart := false }
def FnExactNewRegsSaid : Prop := fnExactNewRegsRow.holds Try.pinned (OpenSpec.ofChange fnExactNewRegsSpec)

/-- ITS FALSE NEIGHBOUR: 'it returns false'. Refute it at one input. -/
def fnExactNewRegsWrong : ChangeSpec := { name := "fnExactNewRegs", fn := fun _ => fun
  | [] => { results := [.lit (.bool false)], args := [] }
  | _ => none }
def FnExactNewRegsWrongFalsely : Prop := fnExactNewRegsRow.holds Try.pinned (OpenSpec.ofChange fnExactNewRegsWrong)

/-- 'laws.FnExactGoodRegs': WHATEVER THE INPUT: true; the input reads as it did. -/
def fnExactGoodRegsSpec : ChangeSpec := { name := "fnExactGoodRegs", fn := fun _ => fun
  | [d] => { results := [.lit (.bool true)], args := [d] }
  | _ => none }
def fnExactGoodRegsRow : OpenClaim := { program := "ytikmelkobbbgnaa", sum := "c64bb33cb51c3b4f6ab5144864ffb86c0ce452c33d5187c6c556e7858be724e7", func := "loop.example/g00389/laws.FnExactGoodRegs", spec := "fnExactGoodRegs", apart := false }
def FnExactGoodRegsSaid : Prop := fnExactGoodRegsRow.holds Try.pinned (OpenSpec.ofChange fnExactGoodRegsSpec)

/-- ITS FALSE NEIGHBOUR: 'it returns false'. Refute it at one input. -/
def fnExactGoodRegsWrong : ChangeSpec := { name := "fnExactGoodRegs", fn := fun _ => fun
  | [d] => { results := [.lit (.bool false)], args := [d] }
  | _ => none }
def FnExactGoodRegsWrongFalsely : Prop := fnExactGoodRegsRow.holds Try.pinned (OpenSpec.ofChange fnExactGoodRegsWrong)

/-- 'laws.FnExactGoodOperand': WHATEVER THE INPUT: true; the input reads as it did. -/
def fnExactGoodOperandSpec : ChangeSpec := { name := "fnExactGoodOperand", fn := fun _ => fun
  | [d] => { results := [.lit (.bool true)], args := [d] }
  | _ => none }
def fnExactGoodOperandRow : OpenClaim := { program := "ytikmelkobbbgnaa", sum := "c64bb33cb51c3b4f6ab5144864ffb86c0ce452c33d5187c6c556e7858be724e7", func := "loop.example/g00389/laws.FnExactGoodOperand", spec := "fnExactGoodOperand", unfollowed := true, recurses := true, apart := false }
def FnExactGoodOperandSaid : Prop := fnExactGoodOperandRow.holds Try.pinned (OpenSpec.ofChange fnExactGoodOperandSpec)

/-- ITS FALSE NEIGHBOUR: 'it returns false'. Refute it at one input. -/
def fnExactGoodOperandWrong : ChangeSpec := { name := "fnExactGoodOperand", fn := fun _ => fun
  | [d] => { results := [.lit (.bool false)], args := [d] }
  | _ => none }
def FnExactGoodOperandWrongFalsely : Prop := fnExactGoodOperandRow.holds Try.pinned (OpenSpec.ofChange fnExactGoodOperandWrong)

/-- 'laws.FnExactPlaceOf': WHATEVER THE INPUT: true; the input reads as it did. -/
def fnExactPlaceOfSpec : ChangeSpec := { name := "fnExactPlaceOf", fn := fun _ => fun
  | [d1, d2, d3] => { results := [.lit (.bool true)], args := [d1, d2, d3] }
  | _ => none }
def fnExactPlaceOfRow : OpenClaim := { program := "ytikmelkobbbgnaa", sum := "c64bb33cb51c3b4f6ab5144864ffb86c0ce452c33d5187c6c556e7858be724e7", func := "loop.example/g00389/laws.FnExactPlaceOf", spec := "fnExactPlaceOf", unfollowed := true, recurses := true, apart := false }
def FnExactPlaceOfSaid : Prop := fnExactPlaceOfRow.holds Try.pinned (OpenSpec.ofChange fnExactPlaceOfSpec)

/-- ITS FALSE NEIGHBOUR: 'it returns false'. Refute it at one input. -/
def fnExactPlaceOfWrong : ChangeSpec := { name := "fnExactPlaceOf", fn := fun _ => fun
  | [d1, d2, d3] => { results := [.lit (.bool false)], args := [d1, d2, d3] }
  | _ => none }
def FnExactPlaceOfWrongFalsely : Prop := fnExactPlaceOfRow.holds Try.pinned (OpenSpec.ofChange fnExactPlaceOfWrong)

/-- 'laws.FnExactStatusOf': WHATEVER THE INPUT: true; the input reads as it did. -/
def fnExactStatusOfSpec : ChangeSpec := { name := "fnExactStatusOf", fn := fun _ => fun
  | [d] => { results := [.lit (.bool true)], args := [d] }
  | _ => none }
def fnExactStatusOfRow : OpenClaim := { program := "ytikmelkobbbgnaa", sum := "c64bb33cb51c3b4f6ab5144864ffb86c0ce452c33d5187c6c556e7858be724e7", func := "loop.example/g00389/laws.FnExactStatusOf", spec := "fnExactStatusOf", apart := false }
def FnExactStatusOfSaid : Prop := fnExactStatusOfRow.holds Try.pinned (OpenSpec.ofChange fnExactStatusOfSpec)

/-- ITS FALSE NEIGHBOUR: 'it returns false'. Refute it at one input. -/
def fnExactStatusOfWrong : ChangeSpec := { name := "fnExactStatusOf", fn := fun _ => fun
  | [d] => { results := [.lit (.bool false)], args := [d] }
  | _ => none }
def FnExactStatusOfWrongFalsely : Prop := fnExactStatusOfRow.holds Try.pinned (OpenSpec.ofChange fnExactStatusOfWrong)

/-- 'laws.FnExactWithStatus': WHATEVER THE INPUT: true; the input reads as it did. -/
def fnExactWithStatusSpec : ChangeSpec := { name := "fnExactWithStatus", fn := fun _ => fun
  | [d1, d2] => { results := [.lit (.bool true)], args := [d1, d2] }
  | _ => none }
def fnExactWithStatusRow : OpenClaim := { program := "ytikmelkobbbgnaa", sum := "c64bb33cb51c3b4f6ab5144864ffb86c0ce452c33d5187c6c556e7858be724e7", func := "loop.example/g00389/laws.FnExactWithStatus", spec := "fnExactWithStatus", apart := false }
def FnExactWithStatusSaid : Prop := fnExactWithStatusRow.holds Try.pinned (OpenSpec.ofChange fnExactWithStatusSpec)

/-- ITS FALSE NEIGHBOUR: 'it returns false'. Refute it at one input. -/
def fnExactWithStatusWrong : ChangeSpec := { name := "fnExactWithStatus", fn := fun _ => fun
  | [d1, d2] => { results := [.lit (.bool false)], args := [d1, d2] }
  | _ => none }
def FnExactWithStatusWrongFalsely : Prop := fnExactWithStatusRow.holds Try.pinned (OpenSpec.ofChange fnExactWithStatusWrong)

/-- 'laws.FnExactPutData': WHATEVER THE INPUT: true; the input reads as it did. -/
def fnExactPutDataSpec : ChangeSpec := { name := "fnExactPutData", fn := fun _ => fun
  | [d1, d2, d3, d4] => { results := [.lit (.bool true)], args := [d1, d2, d3, d4] }
  | _ => none }
def fnExactPutDataRow : OpenClaim := { program := "ytikmelkobbbgnaa", sum := "c64bb33cb51c3b4f6ab5144864ffb86c0ce452c33d5187c6c556e7858be724e7", func := "loop.example/g00389/laws.FnExactPutData", spec := "fnExactPutData", apart := false }
def FnExactPutDataSaid : Prop := fnExactPutDataRow.holds Try.pinned (OpenSpec.ofChange fnExactPutDataSpec)

/-- ITS FALSE NEIGHBOUR: 'it returns false'. Refute it at one input. -/
def fnExactPutDataWrong : ChangeSpec := { name := "fnExactPutData", fn := fun _ => fun
  | [d1, d2, d3, d4] => { results := [.lit (.bool false)], args := [d1, d2, d3, d4] }
  | _ => none }
def FnExactPutDataWrongFalsely : Prop := fnExactPutDataRow.holds Try.pinned (OpenSpec.ofChange fnExactPutDataWrong)

/-- 'laws.FnExactNeedsExt': WHATEVER THE INPUT: true; the input reads as it did. -/
def fnExactNeedsExtSpec : ChangeSpec := { name := "fnExactNeedsExt", fn := fun _ => fun
  | [d] => { results := [.lit (.bool true)], args := [d] }
  | _ => none }
def fnExactNeedsExtRow : OpenClaim := { program := "ytikmelkobbbgnaa", sum := "c64bb33cb51c3b4f6ab5144864ffb86c0ce452c33d5187c6c556e7858be724e7", func := "loop.example/g00389/laws.FnExactNeedsExt", spec := "fnExactNeedsExt", apart := false }
def FnExactNeedsExtSaid : Prop := fnExactNeedsExtRow.holds Try.pinned (OpenSpec.ofChange fnExactNeedsExtSpec)

/-- ITS FALSE NEIGHBOUR: 'it returns false'. Refute it at one input. -/
def fnExactNeedsExtWrong : ChangeSpec := { name := "fnExactNeedsExt", fn := fun _ => fun
  | [d] => { results := [.lit (.bool false)], args := [d] }
  | _ => none }
def FnExactNeedsExtWrongFalsely : Prop := fnExactNeedsExtRow.holds Try.pinned (OpenSpec.ofChange fnExactNeedsExtWrong)

/- THE SECOND FORM. 'bulk': how many values and letters a reading holds, each counted each time it is reached (what is shared counts as often as it is met; a slice's spare places count too). A statement '..UptoSaid' is the law's where the arguments, and the package variables that the reading takes, are together of bulk at most 1048576: NARROWER than '..Said'. Prove '..Said' where nothing that the law and all that it calls make is longer than what came in: it says more and counts as full. Else prove '..UptoSaid'. A law counts once. -/
mutual
def uptoBulk {H : Type} : DataW H → Nat
  | .lit (.string bytes) => bytes.length + 1
  | .lit _ => 1
  | .nil => 1
  | .ptr d => uptoBulk d + 1
  | .slice elems spare => uptoBulkAll elems + uptoBulkAll spare + 1
  | .agg parts => uptoBulkAll parts + 1
  | .iface _ d => uptoBulk d + 1
  | .map entries => uptoBulkEntries entries + 1
  | .held _ => 1
def uptoBulkAll {H : Type} : List (DataW H) → Nat
  | [] => 0
  | d :: r => uptoBulk d + uptoBulkAll r
def uptoBulkEntries {H : Type} : List (Lit × DataW H) → Nat
  | [] => 0
  | x :: r => uptoBulkEntry x + uptoBulkEntries r
def uptoBulkEntry {H : Type} : Lit × DataW H → Nat
  | (.string bytes, d) => bytes.length + uptoBulk d + 1
  | (_, d) => uptoBulk d + 1
 end
def uptoSmall : (H : Type) → List (DataW H) → Bool := fun _ ds => decide (uptoBulkAll ds ≤ 1048576)
def OpenSpec.upto (s : _root_.Go.ChangeSpec) : _root_.Go.OpenSpec := { _root_.Go.OpenSpec.ofChange s with cond := some uptoSmall }

/-- 'laws.FnExactNewRegs', WHERE WHAT IT READS IS OF BULK AT MOST 1048576: true; the input reads as it did. -/
def fnExactNewRegsUptoRow : OpenClaim := { program := "ytikmelkobbbgnaa", sum := "c64bb33cb51c3b4f6ab5144864ffb86c0ce452c33d5187c6c556e7858be724e7", func := "loop.example/g00389/laws.FnExactNewRegs", spec := "fnExactNewRegs", apart := false, narrowed := true }
def FnExactNewRegsUptoSaid : Prop := fnExactNewRegsUptoRow.holds Try.pinned (OpenSpec.upto fnExactNewRegsSpec)

/-- 'laws.FnExactGoodRegs', WHERE WHAT IT READS IS OF BULK AT MOST 1048576: true; the input reads as it did. -/
def fnExactGoodRegsUptoRow : OpenClaim := { program := "ytikmelkobbbgnaa", sum := "c64bb33cb51c3b4f6ab5144864ffb86c0ce452c33d5187c6c556e7858be724e7", func := "loop.example/g00389/laws.FnExactGoodRegs", spec := "fnExactGoodRegs", apart := false, narrowed := true }
def FnExactGoodRegsUptoSaid : Prop := fnExactGoodRegsUptoRow.holds Try.pinned (OpenSpec.upto fnExactGoodRegsSpec)

/-- 'laws.FnExactGoodOperand', WHERE WHAT IT READS IS OF BULK AT MOST 1048576: true; the input reads as it did. -/
def fnExactGoodOperandUptoRow : OpenClaim := { program := "ytikmelkobbbgnaa", sum := "c64bb33cb51c3b4f6ab5144864ffb86c0ce452c33d5187c6c556e7858be724e7", func := "loop.example/g00389/laws.FnExactGoodOperand", spec := "fnExactGoodOperand", unfollowed := true, recurses := true, apart := false, narrowed := true }
def FnExactGoodOperandUptoSaid : Prop := fnExactGoodOperandUptoRow.holds Try.pinned (OpenSpec.upto fnExactGoodOperandSpec)

/-- 'laws.FnExactPlaceOf', WHERE WHAT IT READS IS OF BULK AT MOST 1048576: true; the input reads as it did. -/
def fnExactPlaceOfUptoRow : OpenClaim := { program := "ytikmelkobbbgnaa", sum := "c64bb33cb51c3b4f6ab5144864ffb86c0ce452c33d5187c6c556e7858be724e7", func := "loop.example/g00389/laws.FnExactPlaceOf", spec := "fnExactPlaceOf", unfollowed := true, recurses := true, apart := false, narrowed := true }
def FnExactPlaceOfUptoSaid : Prop := fnExactPlaceOfUptoRow.holds Try.pinned (OpenSpec.upto fnExactPlaceOfSpec)

/-- 'laws.FnExactStatusOf', WHERE WHAT IT READS IS OF BULK AT MOST 1048576: true; the input reads as it did. -/
def fnExactStatusOfUptoRow : OpenClaim := { program := "ytikmelkobbbgnaa", sum := "c64bb33cb51c3b4f6ab5144864ffb86c0ce452c33d5187c6c556e7858be724e7", func := "loop.example/g00389/laws.FnExactStatusOf", spec := "fnExactStatusOf", apart := false, narrowed := true }
def FnExactStatusOfUptoSaid : Prop := fnExactStatusOfUptoRow.holds Try.pinned (OpenSpec.upto fnExactStatusOfSpec)

/-- 'laws.FnExactWithStatus', WHERE WHAT IT READS IS OF BULK AT MOST 1048576: true; the input reads as it did. -/
def fnExactWithStatusUptoRow : OpenClaim := { program := "ytikmelkobbbgnaa", sum := "c64bb33cb51c3b4f6ab5144864ffb86c0ce452c33d5187c6c556e7858be724e7", func := "loop.example/g00389/laws.FnExactWithStatus", spec := "fnExactWithStatus", apart := false, narrowed := true }
def FnExactWithStatusUptoSaid : Prop := fnExactWithStatusUptoRow.holds Try.pinned (OpenSpec.upto fnExactWithStatusSpec)

/-- 'laws.FnExactPutData', WHERE WHAT IT READS IS OF BULK AT MOST 1048576: true; the input reads as it did. -/
def fnExactPutDataUptoRow : OpenClaim := { program := "ytikmelkobbbgnaa", sum := "c64bb33cb51c3b4f6ab5144864ffb86c0ce452c33d5187c6c556e7858be724e7", func := "loop.example/g00389/laws.FnExactPutData", spec := "fnExactPutData", apart := false, narrowed := true }
def FnExactPutDataUptoSaid : Prop := fnExactPutDataUptoRow.holds Try.pinned (OpenSpec.upto fnExactPutDataSpec)

/-- 'laws.FnExactNeedsExt', WHERE WHAT IT READS IS OF BULK AT MOST 1048576: true; the input reads as it did. -/
def fnExactNeedsExtUptoRow : OpenClaim := { program := "ytikmelkobbbgnaa", sum := "c64bb33cb51c3b4f6ab5144864ffb86c0ce452c33d5187c6c556e7858be724e7", func := "loop.example/g00389/laws.FnExactNeedsExt", spec := "fnExactNeedsExt", apart := false, narrowed := true }
def FnExactNeedsExtUptoSaid : Prop := fnExactNeedsExtUptoRow.holds Try.pinned (OpenSpec.upto fnExactNeedsExtSpec)

end Rows
end Go.Proofs.Ytikmelkobbbgnaa
