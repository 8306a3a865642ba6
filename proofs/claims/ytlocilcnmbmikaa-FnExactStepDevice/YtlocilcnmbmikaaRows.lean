/-
  No cell of these rows narrows 'for every input' (looked for: loops, veiled, ifaces, maps, wideKeys, modest, calm, conditions, laid).
  DERIVED. THE GIVEN ROWS OF THIS SEAT. 7 by the template 'for every input the law returns true; each argument reads behind the call as it read before'; 0 by the template 'total and deterministic' (their statements: YtlocilcnmbmikaaTotals.lean).
  GIVEN WITH THE SEED: the statements are not yours to turn. If you find one false, say at which input.
  Laid BY PROGRAM, IN A SANDBOX (cutbox-rows.mjs): the forced cells as the released guide's own fill.sh prints them over the translation a18d2d6be05ad231… (all of the seat's roots in one cut). By AI agents, Wed Nov 11 2026. No macro, syntax, notation, axiom, sorry.
-/
import Derived.Test.YtlocilcnmbmikaaChecked
import GoSem.Claim
import GoSem.ClaimJoined
import GoSem.ClaimMapViews
import Derived.JoinedTies
import Derived.KernelRfl
namespace Go.Proofs.Ytlocilcnmbmikaa
/- THE CELL 'sum', in the pinned program and in every row, IS THE sha256 OF THE DUMP (.gsa) THAT YtlocilcnmbmikaaProg.lean LOADS. Nothing in Lean hashes anything: it is a label: what it is worth is what the hold of that sum in a sandbox is worth. -/
noncomputable def Try.pinned : Pinned := { name := "ytlocilcnmbmikaa", sum := "a18d2d6be05ad2312b494e9c7c7e4053c6d39190b0ea12160065e28adb24ecd3", checked := Try.checked }
namespace Rows
def none {H : Type} : Left H := { results := [], args := [] }

/-- 'laws.FnExactNewDevice': WHATEVER THE INPUT: true; the input reads as it did. -/
def fnExactNewDeviceSpec : ChangeSpec := { name := "fnExactNewDevice", fn := fun _ => fun
  | [] => { results := [.lit (.bool true)], args := [] }
  | _ => none }
def fnExactNewDeviceRow : OpenClaim := { program := "ytlocilcnmbmikaa", sum := "a18d2d6be05ad2312b494e9c7c7e4053c6d39190b0ea12160065e28adb24ecd3", func := "loop.example/g00389/laws.FnExactNewDevice", spec := "fnExactNewDevice", apart := false }
def FnExactNewDeviceSaid : Prop := fnExactNewDeviceRow.holds Try.pinned (OpenSpec.ofChange fnExactNewDeviceSpec)

/-- ITS FALSE NEIGHBOUR: 'it returns false'. Refute it at one input. -/
def fnExactNewDeviceWrong : ChangeSpec := { name := "fnExactNewDevice", fn := fun _ => fun
  | [] => { results := [.lit (.bool false)], args := [] }
  | _ => none }
def FnExactNewDeviceWrongFalsely : Prop := fnExactNewDeviceRow.holds Try.pinned (OpenSpec.ofChange fnExactNewDeviceWrong)

/-- 'laws.FnExactGoodDevice': WHATEVER THE INPUT: true; the input reads as it did. -/
def fnExactGoodDeviceSpec : ChangeSpec := { name := "fnExactGoodDevice", fn := fun _ => fun
  | [d] => { results := [.lit (.bool true)], args := [d] }
  | _ => none }
def fnExactGoodDeviceRow : OpenClaim := { program := "ytlocilcnmbmikaa", sum := "a18d2d6be05ad2312b494e9c7c7e4053c6d39190b0ea12160065e28adb24ecd3", func := "loop.example/g00389/laws.FnExactGoodDevice", spec := "fnExactGoodDevice", apart := false }
def FnExactGoodDeviceSaid : Prop := fnExactGoodDeviceRow.holds Try.pinned (OpenSpec.ofChange fnExactGoodDeviceSpec)

/-- ITS FALSE NEIGHBOUR: 'it returns false'. Refute it at one input. -/
def fnExactGoodDeviceWrong : ChangeSpec := { name := "fnExactGoodDevice", fn := fun _ => fun
  | [d] => { results := [.lit (.bool false)], args := [d] }
  | _ => none }
def FnExactGoodDeviceWrongFalsely : Prop := fnExactGoodDeviceRow.holds Try.pinned (OpenSpec.ofChange fnExactGoodDeviceWrong)

/-- 'laws.FnExactStepDevice': WHATEVER THE INPUT: true; the input reads as it did. -/
def fnExactStepDeviceSpec : ChangeSpec := { name := "fnExactStepDevice", fn := fun _ => fun
  | [d1, d2] => { results := [.lit (.bool true)], args := [d1, d2] }
  | _ => none }
def fnExactStepDeviceRow : OpenClaim := { program := "ytlocilcnmbmikaa", sum := "a18d2d6be05ad2312b494e9c7c7e4053c6d39190b0ea12160065e28adb24ecd3", func := "loop.example/g00389/laws.FnExactStepDevice", spec := "fnExactStepDevice", apart := false }
def FnExactStepDeviceSaid : Prop := fnExactStepDeviceRow.holds Try.pinned (OpenSpec.ofChange fnExactStepDeviceSpec)

/-- ITS FALSE NEIGHBOUR: 'it returns false'. Refute it at one input. -/
def fnExactStepDeviceWrong : ChangeSpec := { name := "fnExactStepDevice", fn := fun _ => fun
  | [d1, d2] => { results := [.lit (.bool false)], args := [d1, d2] }
  | _ => none }
def FnExactStepDeviceWrongFalsely : Prop := fnExactStepDeviceRow.holds Try.pinned (OpenSpec.ofChange fnExactStepDeviceWrong)

/-- 'laws.FnExactPlayDevice': WHATEVER THE INPUT: true; the input reads as it did. -/
def fnExactPlayDeviceSpec : ChangeSpec := { name := "fnExactPlayDevice", fn := fun _ => fun
  | [d] => { results := [.lit (.bool true)], args := [d] }
  | _ => none }
def fnExactPlayDeviceRow : OpenClaim := { program := "ytlocilcnmbmikaa", sum := "a18d2d6be05ad2312b494e9c7c7e4053c6d39190b0ea12160065e28adb24ecd3", func := "loop.example/g00389/laws.FnExactPlayDevice", spec := "fnExactPlayDevice", apart := false }
def FnExactPlayDeviceSaid : Prop := fnExactPlayDeviceRow.holds Try.pinned (OpenSpec.ofChange fnExactPlayDeviceSpec)

/-- ITS FALSE NEIGHBOUR: 'it returns false'. Refute it at one input. -/
def fnExactPlayDeviceWrong : ChangeSpec := { name := "fnExactPlayDevice", fn := fun _ => fun
  | [d] => { results := [.lit (.bool false)], args := [d] }
  | _ => none }
def FnExactPlayDeviceWrongFalsely : Prop := fnExactPlayDeviceRow.holds Try.pinned (OpenSpec.ofChange fnExactPlayDeviceWrong)

/-- 'laws.FnExactLevelOf': WHATEVER THE INPUT: true; the input reads as it did. -/
def fnExactLevelOfSpec : ChangeSpec := { name := "fnExactLevelOf", fn := fun _ => fun
  | [d] => { results := [.lit (.bool true)], args := [d] }
  | _ => none }
def fnExactLevelOfRow : OpenClaim := { program := "ytlocilcnmbmikaa", sum := "a18d2d6be05ad2312b494e9c7c7e4053c6d39190b0ea12160065e28adb24ecd3", func := "loop.example/g00389/laws.FnExactLevelOf", spec := "fnExactLevelOf", apart := false }
def FnExactLevelOfSaid : Prop := fnExactLevelOfRow.holds Try.pinned (OpenSpec.ofChange fnExactLevelOfSpec)

/-- ITS FALSE NEIGHBOUR: 'it returns false'. Refute it at one input. -/
def fnExactLevelOfWrong : ChangeSpec := { name := "fnExactLevelOf", fn := fun _ => fun
  | [d] => { results := [.lit (.bool false)], args := [d] }
  | _ => none }
def FnExactLevelOfWrongFalsely : Prop := fnExactLevelOfRow.holds Try.pinned (OpenSpec.ofChange fnExactLevelOfWrong)

/-- 'laws.FnExactPortWrite': WHATEVER THE INPUT: true; the input reads as it did. -/
def fnExactPortWriteSpec : ChangeSpec := { name := "fnExactPortWrite", fn := fun _ => fun
  | [d1, d2, d3] => { results := [.lit (.bool true)], args := [d1, d2, d3] }
  | _ => none }
def fnExactPortWriteRow : OpenClaim := { program := "ytlocilcnmbmikaa", sum := "a18d2d6be05ad2312b494e9c7c7e4053c6d39190b0ea12160065e28adb24ecd3", func := "loop.example/g00389/laws.FnExactPortWrite", spec := "fnExactPortWrite", apart := false }
def FnExactPortWriteSaid : Prop := fnExactPortWriteRow.holds Try.pinned (OpenSpec.ofChange fnExactPortWriteSpec)

/-- ITS FALSE NEIGHBOUR: 'it returns false'. Refute it at one input. -/
def fnExactPortWriteWrong : ChangeSpec := { name := "fnExactPortWrite", fn := fun _ => fun
  | [d1, d2, d3] => { results := [.lit (.bool false)], args := [d1, d2, d3] }
  | _ => none }
def FnExactPortWriteWrongFalsely : Prop := fnExactPortWriteRow.holds Try.pinned (OpenSpec.ofChange fnExactPortWriteWrong)

/-- 'laws.FnExactPortRead': WHATEVER THE INPUT: true; the input reads as it did. -/
def fnExactPortReadSpec : ChangeSpec := { name := "fnExactPortRead", fn := fun _ => fun
  | [d1, d2] => { results := [.lit (.bool true)], args := [d1, d2] }
  | _ => none }
def fnExactPortReadRow : OpenClaim := { program := "ytlocilcnmbmikaa", sum := "a18d2d6be05ad2312b494e9c7c7e4053c6d39190b0ea12160065e28adb24ecd3", func := "loop.example/g00389/laws.FnExactPortRead", spec := "fnExactPortRead", apart := false }
def FnExactPortReadSaid : Prop := fnExactPortReadRow.holds Try.pinned (OpenSpec.ofChange fnExactPortReadSpec)

/-- ITS FALSE NEIGHBOUR: 'it returns false'. Refute it at one input. -/
def fnExactPortReadWrong : ChangeSpec := { name := "fnExactPortRead", fn := fun _ => fun
  | [d1, d2] => { results := [.lit (.bool false)], args := [d1, d2] }
  | _ => none }
def FnExactPortReadWrongFalsely : Prop := fnExactPortReadRow.holds Try.pinned (OpenSpec.ofChange fnExactPortReadWrong)

/- THE SECOND FORM. 'bulk': how many values and letters a reading holds, each counted each time it is reached (what is shared counts as often as it is met; a slice's spare places count too). A statement '..UptoSaid' is the law's where the arguments, and the package variables that the reading takes, are together of bulk at most 1048576: NARROWER than '..Said'. Prove '..Said' where nothing that the law and all that it calls make is longer than what came in: it says more and counts as full. Else prove '..UptoSaid'. A law counts once. -/
mutual
def uptoBulk {H : Type} : DataW H → Nat
  | .lit (.string bytes) => bytes.length + 1
  | .lit _ => 1
  | .nil => 1
  | .ptr d => uptoBulk d + 1
  | .slice elems spare => uptoBulkAll elems + uptoBulkAll spare + 1
  | .agg parts => uptoBulkAll parts + 1
  | .iface _ d => uptoBulk d + 1
  | .map entries => uptoBulkEntries entries + 1
  | .held _ => 1
def uptoBulkAll {H : Type} : List (DataW H) → Nat
  | [] => 0
  | d :: r => uptoBulk d + uptoBulkAll r
def uptoBulkEntries {H : Type} : List (Lit × DataW H) → Nat
  | [] => 0
  | x :: r => uptoBulkEntry x + uptoBulkEntries r
def uptoBulkEntry {H : Type} : Lit × DataW H → Nat
  | (.string bytes, d) => bytes.length + uptoBulk d + 1
  | (_, d) => uptoBulk d + 1
 end
def uptoSmall : (H : Type) → List (DataW H) → Bool := fun _ ds => decide (uptoBulkAll ds ≤ 1048576)
def OpenSpec.upto (s : _root_.Go.ChangeSpec) : _root_.Go.OpenSpec := { _root_.Go.OpenSpec.ofChange s with cond := some uptoSmall }

/-- 'laws.FnExactNewDevice', WHERE WHAT IT READS IS OF BULK AT MOST 1048576: true; the input reads as it did. -/
def fnExactNewDeviceUptoRow : OpenClaim := { program := "ytlocilcnmbmikaa", sum := "a18d2d6be05ad2312b494e9c7c7e4053c6d39190b0ea12160065e28adb24ecd3", func := "loop.example/g00389/laws.FnExactNewDevice", spec := "fnExactNewDevice", apart := false, narrowed := true }
def FnExactNewDeviceUptoSaid : Prop := fnExactNewDeviceUptoRow.holds Try.pinned (OpenSpec.upto fnExactNewDeviceSpec)

/-- 'laws.FnExactGoodDevice', WHERE WHAT IT READS IS OF BULK AT MOST 1048576: true; the input reads as it did. -/
def fnExactGoodDeviceUptoRow : OpenClaim := { program := "ytlocilcnmbmikaa", sum := "a18d2d6be05ad2312b494e9c7c7e4053c6d39190b0ea12160065e28adb24ecd3", func := "loop.example/g00389/laws.FnExactGoodDevice", spec := "fnExactGoodDevice", apart := false, narrowed := true }
def FnExactGoodDeviceUptoSaid : Prop := fnExactGoodDeviceUptoRow.holds Try.pinned (OpenSpec.upto fnExactGoodDeviceSpec)

/-- 'laws.FnExactStepDevice', WHERE WHAT IT READS IS OF BULK AT MOST 1048576: true; the input reads as it did. -/
def fnExactStepDeviceUptoRow : OpenClaim := { program := "ytlocilcnmbmikaa", sum := "a18d2d6be05ad2312b494e9c7c7e4053c6d39190b0ea12160065e28adb24ecd3", func := "loop.example/g00389/laws.FnExactStepDevice", spec := "fnExactStepDevice", apart := false, narrowed := true }
def FnExactStepDeviceUptoSaid : Prop := fnExactStepDeviceUptoRow.holds Try.pinned (OpenSpec.upto fnExactStepDeviceSpec)

/-- 'laws.FnExactPlayDevice', WHERE WHAT IT READS IS OF BULK AT MOST 1048576: true; the input reads as it did. -/
def fnExactPlayDeviceUptoRow : OpenClaim := { program := "ytlocilcnmbmikaa", sum := "a18d2d6be05ad2312b494e9c7c7e4053c6d39190b0ea12160065e28adb24ecd3", func := "loop.example/g00389/laws.FnExactPlayDevice", spec := "fnExactPlayDevice", apart := false, narrowed := true }
def FnExactPlayDeviceUptoSaid : Prop := fnExactPlayDeviceUptoRow.holds Try.pinned (OpenSpec.upto fnExactPlayDeviceSpec)

/-- 'laws.FnExactLevelOf', WHERE WHAT IT READS IS OF BULK AT MOST 1048576: true; the input reads as it did. -/
def fnExactLevelOfUptoRow : OpenClaim := { program := "ytlocilcnmbmikaa", sum := "a18d2d6be05ad2312b494e9c7c7e4053c6d39190b0ea12160065e28adb24ecd3", func := "loop.example/g00389/laws.FnExactLevelOf", spec := "fnExactLevelOf", apart := false, narrowed := true }
def FnExactLevelOfUptoSaid : Prop := fnExactLevelOfUptoRow.holds Try.pinned (OpenSpec.upto fnExactLevelOfSpec)

/-- 'laws.FnExactPortWrite', WHERE WHAT IT READS IS OF BULK AT MOST 1048576: true; the input reads as it did. -/
def fnExactPortWriteUptoRow : OpenClaim := { program := "ytlocilcnmbmikaa", sum := "a18d2d6be05ad2312b494e9c7c7e4053c6d39190b0ea12160065e28adb24ecd3", func := "loop.example/g00389/laws.FnExactPortWrite", spec := "fnExactPortWrite", apart := false, narrowed := true }
def FnExactPortWriteUptoSaid : Prop := fnExactPortWriteUptoRow.holds Try.pinned (OpenSpec.upto fnExactPortWriteSpec)

/-- 'laws.FnExactPortRead', WHERE WHAT IT READS IS OF BULK AT MOST 1048576: true; the input reads as it did. -/
def fnExactPortReadUptoRow : OpenClaim := { program := "ytlocilcnmbmikaa", sum := "a18d2d6be05ad2312b494e9c7c7e4053c6d39190b0ea12160065e28adb24ecd3", func := "loop.example/g00389/laws.FnExactPortRead", spec := "fnExactPortRead", apart := false, narrowed := true }
def FnExactPortReadUptoSaid : Prop := fnExactPortReadUptoRow.holds Try.pinned (OpenSpec.upto fnExactPortReadSpec)

end Rows
end Go.Proofs.Ytlocilcnmbmikaa
