/-
  No cell of these rows narrows 'for every input' (looked for: loops, veiled, ifaces, maps, wideKeys, modest, calm, conditions, laid).
  DERIVED. THE GIVEN ROWS OF THIS SEAT. 9 by the template 'for every input the law returns true; each argument reads behind the call as it read before'; 0 by the template 'total and deterministic' (their statements: YtjgcadighogmkaaTotals.lean).
  GIVEN WITH THE SEED: the statements are not yours to turn. If you find one false, say at which input.
  Laid BY PROGRAM, IN A SANDBOX (cutbox-rows.mjs): the forced cells as the released guide's own fill.sh prints them over the translation 0412bd18424f4669… (all of the seat's roots in one cut). By AI agents, Wed Nov 11 2026. No macro, syntax, notation, axiom, sorry.
-/
import Derived.Test.YtjgcadighogmkaaChecked
import GoSem.Claim
import GoSem.ClaimJoined
import GoSem.ClaimMapViews
import Derived.JoinedTies
import Derived.KernelRfl
namespace Go.Proofs.Ytjgcadighogmkaa
/- THE CELL 'sum', in the pinned program and in every row, IS THE sha256 OF THE DUMP (.gsa) THAT YtjgcadighogmkaaProg.lean LOADS. Nothing in Lean hashes anything: it is a label: what it is worth is what the hold of that sum in a sandbox is worth. -/
noncomputable def Try.pinned : Pinned := { name := "ytjgcadighogmkaa", sum := "0412bd18424f466995f85b1ab2517914563ee19b012bb870b58de4b464ab8a4b", checked := Try.checked }
namespace Rows
def none {H : Type} : Left H := { results := [], args := [] }

/-- 'laws.FnProducts': WHATEVER THE INPUT: true; the input reads as it did. -/
def fnProductsSpec : ChangeSpec := { name := "fnProducts", fn := fun _ => fun
  | [d1, d2] => { results := [.lit (.bool true)], args := [d1, d2] }
  | _ => none }
def fnProductsRow : OpenClaim := { program := "ytjgcadighogmkaa", sum := "0412bd18424f466995f85b1ab2517914563ee19b012bb870b58de4b464ab8a4b", func := "loop.example/g00389/laws.FnProducts", spec := "fnProducts", unfollowed := true, recurses := true, apart := false }
def FnProductsSaid : Prop := fnProductsRow.holds Try.pinned (OpenSpec.ofChange fnProductsSpec)

/-- ITS FALSE NEIGHBOUR: 'it returns false'. Refute it at one input. -/
def fnProductsWrong : ChangeSpec := { name := "fnProducts", fn := fun _ => fun
  | [d1, d2] => { results := [.lit (.bool false)], args := [d1, d2] }
  | _ => none }
def FnProductsWrongFalsely : Prop := fnProductsRow.holds Try.pinned (OpenSpec.ofChange fnProductsWrong)

/-- 'laws.FnQuotients': WHATEVER THE INPUT: true; the input reads as it did. -/
def fnQuotientsSpec : ChangeSpec := { name := "fnQuotients", fn := fun _ => fun
  | [d1, d2] => { results := [.lit (.bool true)], args := [d1, d2] }
  | _ => none }
def fnQuotientsRow : OpenClaim := { program := "ytjgcadighogmkaa", sum := "0412bd18424f466995f85b1ab2517914563ee19b012bb870b58de4b464ab8a4b", func := "loop.example/g00389/laws.FnQuotients", spec := "fnQuotients", unfollowed := true, recurses := true, apart := false }
def FnQuotientsSaid : Prop := fnQuotientsRow.holds Try.pinned (OpenSpec.ofChange fnQuotientsSpec)

/-- ITS FALSE NEIGHBOUR: 'it returns false'. Refute it at one input. -/
def fnQuotientsWrong : ChangeSpec := { name := "fnQuotients", fn := fun _ => fun
  | [d1, d2] => { results := [.lit (.bool false)], args := [d1, d2] }
  | _ => none }
def FnQuotientsWrongFalsely : Prop := fnQuotientsRow.holds Try.pinned (OpenSpec.ofChange fnQuotientsWrong)

/-- 'laws.FnExactMulWords': WHATEVER THE INPUT: true; the input reads as it did. -/
def fnExactMulWordsSpec : ChangeSpec := { name := "fnExactMulWords", fn := fun _ => fun
  | [d1, d2] => { results := [.lit (.bool true)], args := [d1, d2] }
  | _ => none }
def fnExactMulWordsRow : OpenClaim := { program := "ytjgcadighogmkaa", sum := "0412bd18424f466995f85b1ab2517914563ee19b012bb870b58de4b464ab8a4b", func := "loop.example/g00389/laws.FnExactMulWords", spec := "fnExactMulWords", unfollowed := true, recurses := true, apart := false }
def FnExactMulWordsSaid : Prop := fnExactMulWordsRow.holds Try.pinned (OpenSpec.ofChange fnExactMulWordsSpec)

/-- ITS FALSE NEIGHBOUR: 'it returns false'. Refute it at one input. -/
def fnExactMulWordsWrong : ChangeSpec := { name := "fnExactMulWords", fn := fun _ => fun
  | [d1, d2] => { results := [.lit (.bool false)], args := [d1, d2] }
  | _ => none }
def FnExactMulWordsWrongFalsely : Prop := fnExactMulWordsRow.holds Try.pinned (OpenSpec.ofChange fnExactMulWordsWrong)

/-- 'laws.FnExactBoothDigits': WHATEVER THE INPUT: true; the input reads as it did. -/
def fnExactBoothDigitsSpec : ChangeSpec := { name := "fnExactBoothDigits", fn := fun _ => fun
  | [d] => { results := [.lit (.bool true)], args := [d] }
  | _ => none }
def fnExactBoothDigitsRow : OpenClaim := { program := "ytjgcadighogmkaa", sum := "0412bd18424f466995f85b1ab2517914563ee19b012bb870b58de4b464ab8a4b", func := "loop.example/g00389/laws.FnExactBoothDigits", spec := "fnExactBoothDigits", unfollowed := true, recurses := true, apart := false }
def FnExactBoothDigitsSaid : Prop := fnExactBoothDigitsRow.holds Try.pinned (OpenSpec.ofChange fnExactBoothDigitsSpec)

/-- ITS FALSE NEIGHBOUR: 'it returns false'. Refute it at one input. -/
def fnExactBoothDigitsWrong : ChangeSpec := { name := "fnExactBoothDigits", fn := fun _ => fun
  | [d] => { results := [.lit (.bool false)], args := [d] }
  | _ => none }
def FnExactBoothDigitsWrongFalsely : Prop := fnExactBoothDigitsRow.holds Try.pinned (OpenSpec.ofChange fnExactBoothDigitsWrong)

/-- 'laws.FnExactMulBooth': WHATEVER THE INPUT: true; the input reads as it did. -/
def fnExactMulBoothSpec : ChangeSpec := { name := "fnExactMulBooth", fn := fun _ => fun
  | [d1, d2] => { results := [.lit (.bool true)], args := [d1, d2] }
  | _ => none }
def fnExactMulBoothRow : OpenClaim := { program := "ytjgcadighogmkaa", sum := "0412bd18424f466995f85b1ab2517914563ee19b012bb870b58de4b464ab8a4b", func := "loop.example/g00389/laws.FnExactMulBooth", spec := "fnExactMulBooth", unfollowed := true, recurses := true, apart := false }
def FnExactMulBoothSaid : Prop := fnExactMulBoothRow.holds Try.pinned (OpenSpec.ofChange fnExactMulBoothSpec)

/-- ITS FALSE NEIGHBOUR: 'it returns false'. Refute it at one input. -/
def fnExactMulBoothWrong : ChangeSpec := { name := "fnExactMulBooth", fn := fun _ => fun
  | [d1, d2] => { results := [.lit (.bool false)], args := [d1, d2] }
  | _ => none }
def FnExactMulBoothWrongFalsely : Prop := fnExactMulBoothRow.holds Try.pinned (OpenSpec.ofChange fnExactMulBoothWrong)

/-- 'laws.FnExactDivWords': WHATEVER THE INPUT: true; the input reads as it did. -/
def fnExactDivWordsSpec : ChangeSpec := { name := "fnExactDivWords", fn := fun _ => fun
  | [d1, d2, d3] => { results := [.lit (.bool true)], args := [d1, d2, d3] }
  | _ => none }
def fnExactDivWordsRow : OpenClaim := { program := "ytjgcadighogmkaa", sum := "0412bd18424f466995f85b1ab2517914563ee19b012bb870b58de4b464ab8a4b", func := "loop.example/g00389/laws.FnExactDivWords", spec := "fnExactDivWords", unfollowed := true, recurses := true, apart := false }
def FnExactDivWordsSaid : Prop := fnExactDivWordsRow.holds Try.pinned (OpenSpec.ofChange fnExactDivWordsSpec)

/-- ITS FALSE NEIGHBOUR: 'it returns false'. Refute it at one input. -/
def fnExactDivWordsWrong : ChangeSpec := { name := "fnExactDivWords", fn := fun _ => fun
  | [d1, d2, d3] => { results := [.lit (.bool false)], args := [d1, d2, d3] }
  | _ => none }
def FnExactDivWordsWrongFalsely : Prop := fnExactDivWordsRow.holds Try.pinned (OpenSpec.ofChange fnExactDivWordsWrong)

/-- 'laws.FnExactDivSteps': WHATEVER THE INPUT: true; the input reads as it did. -/
def fnExactDivStepsSpec : ChangeSpec := { name := "fnExactDivSteps", fn := fun _ => fun
  | [d1, d2] => { results := [.lit (.bool true)], args := [d1, d2] }
  | _ => none }
def fnExactDivStepsRow : OpenClaim := { program := "ytjgcadighogmkaa", sum := "0412bd18424f466995f85b1ab2517914563ee19b012bb870b58de4b464ab8a4b", func := "loop.example/g00389/laws.FnExactDivSteps", spec := "fnExactDivSteps", unfollowed := true, recurses := true, apart := false }
def FnExactDivStepsSaid : Prop := fnExactDivStepsRow.holds Try.pinned (OpenSpec.ofChange fnExactDivStepsSpec)

/-- ITS FALSE NEIGHBOUR: 'it returns false'. Refute it at one input. -/
def fnExactDivStepsWrong : ChangeSpec := { name := "fnExactDivSteps", fn := fun _ => fun
  | [d1, d2] => { results := [.lit (.bool false)], args := [d1, d2] }
  | _ => none }
def FnExactDivStepsWrongFalsely : Prop := fnExactDivStepsRow.holds Try.pinned (OpenSpec.ofChange fnExactDivStepsWrong)

/-- 'laws.FnExactMulSigned': WHATEVER THE INPUT: true; the input reads as it did. -/
def fnExactMulSignedSpec : ChangeSpec := { name := "fnExactMulSigned", fn := fun _ => fun
  | [d1, d2] => { results := [.lit (.bool true)], args := [d1, d2] }
  | _ => none }
def fnExactMulSignedRow : OpenClaim := { program := "ytjgcadighogmkaa", sum := "0412bd18424f466995f85b1ab2517914563ee19b012bb870b58de4b464ab8a4b", func := "loop.example/g00389/laws.FnExactMulSigned", spec := "fnExactMulSigned", unfollowed := true, recurses := true, apart := false }
def FnExactMulSignedSaid : Prop := fnExactMulSignedRow.holds Try.pinned (OpenSpec.ofChange fnExactMulSignedSpec)

/-- ITS FALSE NEIGHBOUR: 'it returns false'. Refute it at one input. -/
def fnExactMulSignedWrong : ChangeSpec := { name := "fnExactMulSigned", fn := fun _ => fun
  | [d1, d2] => { results := [.lit (.bool false)], args := [d1, d2] }
  | _ => none }
def FnExactMulSignedWrongFalsely : Prop := fnExactMulSignedRow.holds Try.pinned (OpenSpec.ofChange fnExactMulSignedWrong)

/-- 'laws.FnExactRootOf': WHATEVER THE INPUT: true; the input reads as it did. -/
def fnExactRootOfSpec : ChangeSpec := { name := "fnExactRootOf", fn := fun _ => fun
  | [d] => { results := [.lit (.bool true)], args := [d] }
  | _ => none }
def fnExactRootOfRow : OpenClaim := { program := "ytjgcadighogmkaa", sum := "0412bd18424f466995f85b1ab2517914563ee19b012bb870b58de4b464ab8a4b", func := "loop.example/g00389/laws.FnExactRootOf", spec := "fnExactRootOf", apart := false }
def FnExactRootOfSaid : Prop := fnExactRootOfRow.holds Try.pinned (OpenSpec.ofChange fnExactRootOfSpec)

/-- ITS FALSE NEIGHBOUR: 'it returns false'. Refute it at one input. -/
def fnExactRootOfWrong : ChangeSpec := { name := "fnExactRootOf", fn := fun _ => fun
  | [d] => { results := [.lit (.bool false)], args := [d] }
  | _ => none }
def FnExactRootOfWrongFalsely : Prop := fnExactRootOfRow.holds Try.pinned (OpenSpec.ofChange fnExactRootOfWrong)

/- THE SECOND FORM. 'bulk': how many values and letters a reading holds, each counted each time it is reached (what is shared counts as often as it is met; a slice's spare places count too). A statement '..UptoSaid' is the law's where the arguments, and the package variables that the reading takes, are together of bulk at most 1048576: NARROWER than '..Said'. Prove '..Said' where nothing that the law and all that it calls make is longer than what came in: it says more and counts as full. Else prove '..UptoSaid'. A law counts once. -/
mutual
def uptoBulk {H : Type} : DataW H → Nat
  | .lit (.string bytes) => bytes.length + 1
  | .lit _ => 1
  | .nil => 1
  | .ptr d => uptoBulk d + 1
  | .slice elems spare => uptoBulkAll elems + uptoBulkAll spare + 1
  | .agg parts => uptoBulkAll parts + 1
  | .iface _ d => uptoBulk d + 1
  | .map entries => uptoBulkEntries entries + 1
  | .held _ => 1
def uptoBulkAll {H : Type} : List (DataW H) → Nat
  | [] => 0
  | d :: r => uptoBulk d + uptoBulkAll r
def uptoBulkEntries {H : Type} : List (Lit × DataW H) → Nat
  | [] => 0
  | x :: r => uptoBulkEntry x + uptoBulkEntries r
def uptoBulkEntry {H : Type} : Lit × DataW H → Nat
  | (.string bytes, d) => bytes.length + uptoBulk d + 1
  | (_, d) => uptoBulk d + 1
 end
def uptoSmall : (H : Type) → List (DataW H) → Bool := fun _ ds => decide (uptoBulkAll ds ≤ 1048576)
def OpenSpec.upto (s : _root_.Go.ChangeSpec) : _root_.Go.OpenSpec := { _root_.Go.OpenSpec.ofChange s with cond := some uptoSmall }

/-- 'laws.FnProducts', WHERE WHAT IT READS IS OF BULK AT MOST 1048576: true; the input reads as it did. -/
def fnProductsUptoRow : OpenClaim := { program := "ytjgcadighogmkaa", sum := "0412bd18424f466995f85b1ab2517914563ee19b012bb870b58de4b464ab8a4b", func := "loop.example/g00389/laws.FnProducts", spec := "fnProducts", unfollowed := true, recurses := true, apart := false, narrowed := true }
def FnProductsUptoSaid : Prop := fnProductsUptoRow.holds Try.pinned (OpenSpec.upto fnProductsSpec)

/-- 'laws.FnQuotients', WHERE WHAT IT READS IS OF BULK AT MOST 1048576: true; the input reads as it did. -/
def fnQuotientsUptoRow : OpenClaim := { program := "ytjgcadighogmkaa", sum := "0412bd18424f466995f85b1ab2517914563ee19b012bb870b58de4b464ab8a4b", func := "loop.example/g00389/laws.FnQuotients", spec := "fnQuotients", unfollowed := true, recurses := true, apart := false, narrowed := true }
def FnQuotientsUptoSaid : Prop := fnQuotientsUptoRow.holds Try.pinned (OpenSpec.upto fnQuotientsSpec)

/-- 'laws.FnExactMulWords', WHERE WHAT IT READS IS OF BULK AT MOST 1048576: true; the input reads as it did. -/
def fnExactMulWordsUptoRow : OpenClaim := { program := "ytjgcadighogmkaa", sum := "0412bd18424f466995f85b1ab2517914563ee19b012bb870b58de4b464ab8a4b", func := "loop.example/g00389/laws.FnExactMulWords", spec := "fnExactMulWords", unfollowed := true, recurses := true, apart := false, narrowed := true }
def FnExactMulWordsUptoSaid : Prop := fnExactMulWordsUptoRow.holds Try.pinned (OpenSpec.upto fnExactMulWordsSpec)

/-- 'laws.FnExactBoothDigits', WHERE WHAT IT READS IS OF BULK AT MOST 1048576: true; the input reads as it did. -/
def fnExactBoothDigitsUptoRow : OpenClaim := { program := "ytjgcadighogmkaa", sum := "0412bd18424f466995f85b1ab2517914563ee19b012bb870b58de4b464ab8a4b", func := "loop.example/g00389/laws.FnExactBoothDigits", spec := "fnExactBoothDigits", unfollowed := true, recurses := true, apart := false, narrowed := true }
def FnExactBoothDigitsUptoSaid : Prop := fnExactBoothDigitsUptoRow.holds Try.pinned (OpenSpec.upto fnExactBoothDigitsSpec)

/-- 'laws.FnExactMulBooth', WHERE WHAT IT READS IS OF BULK AT MOST 1048576: true; the input reads as it did. -/
def fnExactMulBoothUptoRow : OpenClaim := { program := "ytjgcadighogmkaa", sum := "0412bd18424f466995f85b1ab2517914563ee19b012bb870b58de4b464ab8a4b", func := "loop.example/g00389/laws.FnExactMulBooth", spec := "fnExactMulBooth", unfollowed := true, recurses := true, apart := false, narrowed := true }
def FnExactMulBoothUptoSaid : Prop := fnExactMulBoothUptoRow.holds Try.pinned (OpenSpec.upto fnExactMulBoothSpec)

/-- 'laws.FnExactDivWords', WHERE WHAT IT READS IS OF BULK AT MOST 1048576: true; the input reads as it did. -/
def fnExactDivWordsUptoRow : OpenClaim := { program := "ytjgcadighogmkaa", sum := "0412bd18424f466995f85b1ab2517914563ee19b012bb870b58de4b464ab8a4b", func := "loop.example/g00389/laws.FnExactDivWords", spec := "fnExactDivWords", unfollowed := true, recurses := true, apart := false, narrowed := true }
def FnExactDivWordsUptoSaid : Prop := fnExactDivWordsUptoRow.holds Try.pinned (OpenSpec.upto fnExactDivWordsSpec)

/-- 'laws.FnExactDivSteps', WHERE WHAT IT READS IS OF BULK AT MOST 1048576: true; the input reads as it did. -/
def fnExactDivStepsUptoRow : OpenClaim := { program := "ytjgcadighogmkaa", sum := "0412bd18424f466995f85b1ab2517914563ee19b012bb870b58de4b464ab8a4b", func := "loop.example/g00389/laws.FnExactDivSteps", spec := "fnExactDivSteps", unfollowed := true, recurses := true, apart := false, narrowed := true }
def FnExactDivStepsUptoSaid : Prop := fnExactDivStepsUptoRow.holds Try.pinned (OpenSpec.upto fnExactDivStepsSpec)

/-- 'laws.FnExactMulSigned', WHERE WHAT IT READS IS OF BULK AT MOST 1048576: true; the input reads as it did. -/
def fnExactMulSignedUptoRow : OpenClaim := { program := "ytjgcadighogmkaa", sum := "0412bd18424f466995f85b1ab2517914563ee19b012bb870b58de4b464ab8a4b", func := "loop.example/g00389/laws.FnExactMulSigned", spec := "fnExactMulSigned", unfollowed := true, recurses := true, apart := false, narrowed := true }
def FnExactMulSignedUptoSaid : Prop := fnExactMulSignedUptoRow.holds Try.pinned (OpenSpec.upto fnExactMulSignedSpec)

/-- 'laws.FnExactRootOf', WHERE WHAT IT READS IS OF BULK AT MOST 1048576: true; the input reads as it did. -/
def fnExactRootOfUptoRow : OpenClaim := { program := "ytjgcadighogmkaa", sum := "0412bd18424f466995f85b1ab2517914563ee19b012bb870b58de4b464ab8a4b", func := "loop.example/g00389/laws.FnExactRootOf", spec := "fnExactRootOf", apart := false, narrowed := true }
def FnExactRootOfUptoSaid : Prop := fnExactRootOfUptoRow.holds Try.pinned (OpenSpec.upto fnExactRootOfSpec)

end Rows
end Go.Proofs.Ytjgcadighogmkaa
