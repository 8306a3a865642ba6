/-
  No cell of these rows narrows 'for every input' (looked for: loops, veiled, ifaces, maps, wideKeys, modest, calm, conditions, laid).
  DERIVED. THE GIVEN ROWS OF THIS SEAT. 4 by the template 'for every input the law returns true; each argument reads behind the call as it read before'; 0 by the template 'total and deterministic' (their statements: YtbppfbkkphhjnaaGreatTotals.lean).
  GIVEN WITH THE SEED: the statements are not yours to turn. If you find one false, say at which input.
  Laid BY PROGRAM, IN A SANDBOX (cutbox-rows.mjs): the forced cells as the released guide's own fill.sh prints them over the translation ad70ef69b2d2c386… (all of the seat's roots in one cut). By AI agents, Wed Nov 11 2026. No macro, syntax, notation, axiom, sorry.
-/
import Derived.Test.YtbppfbkkphhjnaaGreatChecked
import GoSem.Claim
import GoSem.ClaimJoined
import GoSem.ClaimMapViews
import Derived.JoinedTies
import Derived.KernelRfl
namespace Go.Proofs.YtbppfbkkphhjnaaGreat
/- THE CELL 'sum', in the pinned program and in every row, IS THE sha256 OF THE DUMP (.gsa) THAT YtbppfbkkphhjnaaGreatProg.lean LOADS. Nothing in Lean hashes anything: it is a label: what it is worth is what the hold of that sum in a sandbox is worth. -/
noncomputable def Tryz.pinned : Pinned := { name := "ytbppfbkkphhjnaagreat", sum := "ad70ef69b2d2c38607b2a14e192da2182b6021857dade67f2776b46ddc1f6b78", checked := Tryz.checked }
namespace Rows
def none {H : Type} : Left H := { results := [], args := [] }

/-- 'laws.FnExactTranslateAt': WHATEVER THE INPUT: true; the input reads as it did. -/
def fnExactTranslateAtSpec : ChangeSpec := { name := "fnExactTranslateAt", fn := fun _ => fun
  | [d1, d2] => { results := [.lit (.bool true)], args := [d1, d2] }
  | _ => none }
def fnExactTranslateAtRow : OpenClaim := { program := "ytbppfbkkphhjnaagreat", sum := "ad70ef69b2d2c38607b2a14e192da2182b6021857dade67f2776b46ddc1f6b78", func := "loop.example/g00389/laws.FnExactTranslateAt", spec := "fnExactTranslateAt", unfollowed := true, recurses := true, apart := false }
def FnExactTranslateAtSaid : Prop := fnExactTranslateAtRow.holds Tryz.pinned (OpenSpec.ofChange fnExactTranslateAtSpec)

/-- ITS FALSE NEIGHBOUR: 'it returns false'. Refute it at one input. -/
def fnExactTranslateAtWrong : ChangeSpec := { name := "fnExactTranslateAt", fn := fun _ => fun
  | [d1, d2] => { results := [.lit (.bool false)], args := [d1, d2] }
  | _ => none }
def FnExactTranslateAtWrongFalsely : Prop := fnExactTranslateAtRow.holds Tryz.pinned (OpenSpec.ofChange fnExactTranslateAtWrong)

/-- 'laws.FnExactIsFresh': WHATEVER THE INPUT: true; the input reads as it did. -/
def fnExactIsFreshSpec : ChangeSpec := { name := "fnExactIsFresh", fn := fun _ => fun
  | [d1, d2] => { results := [.lit (.bool true)], args := [d1, d2] }
  | _ => none }
def fnExactIsFreshRow : OpenClaim := { program := "ytbppfbkkphhjnaagreat", sum := "ad70ef69b2d2c38607b2a14e192da2182b6021857dade67f2776b46ddc1f6b78", func := "loop.example/g00389/laws.FnExactIsFresh", spec := "fnExactIsFresh", unfollowed := true, recurses := true, apart := false }
def FnExactIsFreshSaid : Prop := fnExactIsFreshRow.holds Tryz.pinned (OpenSpec.ofChange fnExactIsFreshSpec)

/-- ITS FALSE NEIGHBOUR: 'it returns false'. Refute it at one input. -/
def fnExactIsFreshWrong : ChangeSpec := { name := "fnExactIsFresh", fn := fun _ => fun
  | [d1, d2] => { results := [.lit (.bool false)], args := [d1, d2] }
  | _ => none }
def FnExactIsFreshWrongFalsely : Prop := fnExactIsFreshRow.holds Tryz.pinned (OpenSpec.ofChange fnExactIsFreshWrong)

/-- 'laws.FnExactWordsOf': WHATEVER THE INPUT: true; the input reads as it did. -/
def fnExactWordsOfSpec : ChangeSpec := { name := "fnExactWordsOf", fn := fun _ => fun
  | [d] => { results := [.lit (.bool true)], args := [d] }
  | _ => none }
def fnExactWordsOfRow : OpenClaim := { program := "ytbppfbkkphhjnaagreat", sum := "ad70ef69b2d2c38607b2a14e192da2182b6021857dade67f2776b46ddc1f6b78", func := "loop.example/g00389/laws.FnExactWordsOf", spec := "fnExactWordsOf", unfollowed := true, recurses := true, apart := false }
def FnExactWordsOfSaid : Prop := fnExactWordsOfRow.holds Tryz.pinned (OpenSpec.ofChange fnExactWordsOfSpec)

/-- ITS FALSE NEIGHBOUR: 'it returns false'. Refute it at one input. -/
def fnExactWordsOfWrong : ChangeSpec := { name := "fnExactWordsOf", fn := fun _ => fun
  | [d] => { results := [.lit (.bool false)], args := [d] }
  | _ => none }
def FnExactWordsOfWrongFalsely : Prop := fnExactWordsOfRow.holds Tryz.pinned (OpenSpec.ofChange fnExactWordsOfWrong)

/-- 'laws.FnExactCanRun': WHATEVER THE INPUT: true; the input reads as it did. -/
def fnExactCanRunSpec : ChangeSpec := { name := "fnExactCanRun", fn := fun _ => fun
  | [d1, d2] => { results := [.lit (.bool true)], args := [d1, d2] }
  | _ => none }
def fnExactCanRunRow : OpenClaim := { program := "ytbppfbkkphhjnaagreat", sum := "ad70ef69b2d2c38607b2a14e192da2182b6021857dade67f2776b46ddc1f6b78", func := "loop.example/g00389/laws.FnExactCanRun", spec := "fnExactCanRun", unfollowed := true, recurses := true, apart := false }
def FnExactCanRunSaid : Prop := fnExactCanRunRow.holds Tryz.pinned (OpenSpec.ofChange fnExactCanRunSpec)

/-- ITS FALSE NEIGHBOUR: 'it returns false'. Refute it at one input. -/
def fnExactCanRunWrong : ChangeSpec := { name := "fnExactCanRun", fn := fun _ => fun
  | [d1, d2] => { results := [.lit (.bool false)], args := [d1, d2] }
  | _ => none }
def FnExactCanRunWrongFalsely : Prop := fnExactCanRunRow.holds Tryz.pinned (OpenSpec.ofChange fnExactCanRunWrong)

/- THE SECOND FORM. 'bulk': how many values and letters a reading holds, each counted each time it is reached (what is shared counts as often as it is met; a slice's spare places count too). A statement '..UptoSaid' is the law's where the arguments, and the package variables that the reading takes, are together of bulk at most 1048576: NARROWER than '..Said'. Prove '..Said' where nothing that the law and all that it calls make is longer than what came in: it says more and counts as full. Else prove '..UptoSaid'. A law counts once. -/
mutual
def uptoBulk {H : Type} : DataW H → Nat
  | .lit (.string bytes) => bytes.length + 1
  | .lit _ => 1
  | .nil => 1
  | .ptr d => uptoBulk d + 1
  | .slice elems spare => uptoBulkAll elems + uptoBulkAll spare + 1
  | .agg parts => uptoBulkAll parts + 1
  | .iface _ d => uptoBulk d + 1
  | .map entries => uptoBulkEntries entries + 1
  | .held _ => 1
def uptoBulkAll {H : Type} : List (DataW H) → Nat
  | [] => 0
  | d :: r => uptoBulk d + uptoBulkAll r
def uptoBulkEntries {H : Type} : List (Lit × DataW H) → Nat
  | [] => 0
  | x :: r => uptoBulkEntry x + uptoBulkEntries r
def uptoBulkEntry {H : Type} : Lit × DataW H → Nat
  | (.string bytes, d) => bytes.length + uptoBulk d + 1
  | (_, d) => uptoBulk d + 1
 end
def uptoSmall : (H : Type) → List (DataW H) → Bool := fun _ ds => decide (uptoBulkAll ds ≤ 1048576)
def OpenSpec.upto (s : _root_.Go.ChangeSpec) : _root_.Go.OpenSpec := { _root_.Go.OpenSpec.ofChange s with cond := some uptoSmall }

/-- 'laws.FnExactTranslateAt', WHERE WHAT IT READS IS OF BULK AT MOST 1048576: true; the input reads as it did. -/
def fnExactTranslateAtUptoRow : OpenClaim := { program := "ytbppfbkkphhjnaagreat", sum := "ad70ef69b2d2c38607b2a14e192da2182b6021857dade67f2776b46ddc1f6b78", func := "loop.example/g00389/laws.FnExactTranslateAt", spec := "fnExactTranslateAt", unfollowed := true, recurses := true, apart := false, narrowed := true }
def FnExactTranslateAtUptoSaid : Prop := fnExactTranslateAtUptoRow.holds Tryz.pinned (OpenSpec.upto fnExactTranslateAtSpec)

/-- 'laws.FnExactIsFresh', WHERE WHAT IT READS IS OF BULK AT MOST 1048576: true; the input reads as it did. -/
def fnExactIsFreshUptoRow : OpenClaim := { program := "ytbppfbkkphhjnaagreat", sum := "ad70ef69b2d2c38607b2a14e192da2182b6021857dade67f2776b46ddc1f6b78", func := "loop.example/g00389/laws.FnExactIsFresh", spec := "fnExactIsFresh", unfollowed := true, recurses := true, apart := false, narrowed := true }
def FnExactIsFreshUptoSaid : Prop := fnExactIsFreshUptoRow.holds Tryz.pinned (OpenSpec.upto fnExactIsFreshSpec)

/-- 'laws.FnExactWordsOf', WHERE WHAT IT READS IS OF BULK AT MOST 1048576: true; the input reads as it did. -/
def fnExactWordsOfUptoRow : OpenClaim := { program := "ytbppfbkkphhjnaagreat", sum := "ad70ef69b2d2c38607b2a14e192da2182b6021857dade67f2776b46ddc1f6b78", func := "loop.example/g00389/laws.FnExactWordsOf", spec := "fnExactWordsOf", unfollowed := true, recurses := true, apart := false, narrowed := true }
def FnExactWordsOfUptoSaid : Prop := fnExactWordsOfUptoRow.holds Tryz.pinned (OpenSpec.upto fnExactWordsOfSpec)

/-- 'laws.FnExactCanRun', WHERE WHAT IT READS IS OF BULK AT MOST 1048576: true; the input reads as it did. -/
def fnExactCanRunUptoRow : OpenClaim := { program := "ytbppfbkkphhjnaagreat", sum := "ad70ef69b2d2c38607b2a14e192da2182b6021857dade67f2776b46ddc1f6b78", func := "loop.example/g00389/laws.FnExactCanRun", spec := "fnExactCanRun", unfollowed := true, recurses := true, apart := false, narrowed := true }
def FnExactCanRunUptoSaid : Prop := fnExactCanRunUptoRow.holds Tryz.pinned (OpenSpec.upto fnExactCanRunSpec)

end Rows
end Go.Proofs.YtbppfbkkphhjnaaGreat
