/-
  DERIVED. GIVEN WITH THE SEED: THE CARDS: each row of YtgikibaajanjiaaGreatDoorRows.lean that lists a variable, with what it lists TIED to the program's text (the seventh form; the later family's looks); each row that meets fmt, with fmt's text TOLD by the authors' own Lean function (tested against real Go, not proved from fmt's source: count such statements apart). THE CARD IS WHAT COUNTS. Prove the row's statement (the work); the ties are given (YtgikibaajanjiaaGreatDoorTie.lean); close each card by the builder's one call (the guide's Derived/Test/ToyasCard.lean, 'card_holds'). Laid BY PROGRAM, IN A SANDBOX (cutbox-door.mjs). By AI agents, Wed Nov 11 2026. No macro, syntax, notation, axiom, sorry.
-/
import Derived.Test.YtgikibaajanjiaaGreatDoorRows
import GoSem.ClaimSeven
namespace Go.Proofs.YtgikibaajanjiaaGreatDoor
namespace Rows

/-- THE TIED CARD OF 'laws.FnExactDoIns'. -/
def fnExactDoInsCard : Claim7 := { stood := { row := fnExactDoInsRow, standIns := [], harness := (true, "94a10f11d31a9bc13cb7071dd8103d5c5b516ff51488b53718a89f376e377342"), looks := true }, kinds := [], alts := [], laidByText := true, laidKinds := [.data, .data], laidTests := true, laidLooks := .later }
def FnExactDoInsCardSaid : Prop := Claim7.holds Tryz.pinned (.plain (OpenSpec.ofChange fnExactDoInsSpec)) fnExactDoInsCard

/-- THE TIED CARD OF 'laws.FnExactRunRow'. -/
def fnExactRunRowCard : Claim7 := { stood := { row := fnExactRunRowRow, standIns := [], harness := (true, "94a10f11d31a9bc13cb7071dd8103d5c5b516ff51488b53718a89f376e377342"), looks := true }, kinds := [], alts := [], laidByText := true, laidKinds := [.data, .data], laidTests := true, laidLooks := .later }
def FnExactRunRowCardSaid : Prop := Claim7.holds Tryz.pinned (.plain (OpenSpec.ofChange fnExactRunRowSpec)) fnExactRunRowCard

/-- THE TIED CARD OF 'laws.FnExactStepCpu'. -/
def fnExactStepCpuCard : Claim7 := { stood := { row := fnExactStepCpuRow, standIns := [], harness := (true, "94a10f11d31a9bc13cb7071dd8103d5c5b516ff51488b53718a89f376e377342"), looks := true }, kinds := [], alts := [], laidByText := true, laidKinds := [.data, .data], laidTests := true, laidLooks := .later }
def FnExactStepCpuCardSaid : Prop := Claim7.holds Tryz.pinned (.plain (OpenSpec.ofChange fnExactStepCpuSpec)) fnExactStepCpuCard

/-- THE TIED CARD OF 'laws.FnExactStepsCpu'. -/
def fnExactStepsCpuCard : Claim7 := { stood := { row := fnExactStepsCpuRow, standIns := [], harness := (true, "94a10f11d31a9bc13cb7071dd8103d5c5b516ff51488b53718a89f376e377342"), looks := true }, kinds := [], alts := [], laidByText := true, laidKinds := [.data, .data], laidTests := true, laidLooks := .later }
def FnExactStepsCpuCardSaid : Prop := Claim7.holds Tryz.pinned (.plain (OpenSpec.ofChange fnExactStepsCpuSpec)) fnExactStepsCpuCard

/-- THE TIED CARD OF 'laws.FnExactStepWhole'. -/
def fnExactStepWholeCard : Claim7 := { stood := { row := fnExactStepWholeRow, standIns := [], harness := (true, "94a10f11d31a9bc13cb7071dd8103d5c5b516ff51488b53718a89f376e377342"), looks := true }, kinds := [], alts := [], laidByText := true, laidKinds := [.data, .data], laidTests := true, laidLooks := .later }
def FnExactStepWholeCardSaid : Prop := Claim7.holds Tryz.pinned (.plain (OpenSpec.ofChange fnExactStepWholeSpec)) fnExactStepWholeCard

/-- THE TIED CARD OF 'laws.FnExactRunWhole'. -/
def fnExactRunWholeCard : Claim7 := { stood := { row := fnExactRunWholeRow, standIns := [], harness := (true, "94a10f11d31a9bc13cb7071dd8103d5c5b516ff51488b53718a89f376e377342"), looks := true }, kinds := [], alts := [], laidByText := true, laidKinds := [.data, .data], laidTests := true, laidLooks := .later }
def FnExactRunWholeCardSaid : Prop := Claim7.holds Tryz.pinned (.plain (OpenSpec.ofChange fnExactRunWholeSpec)) fnExactRunWholeCard

/-- THE TIED CARD OF 'laws.FnExactBoundary'. -/
def fnExactBoundaryCard : Claim7 := { stood := { row := fnExactBoundaryRow, standIns := [], harness := (true, "94a10f11d31a9bc13cb7071dd8103d5c5b516ff51488b53718a89f376e377342"), looks := true }, kinds := [], alts := [], laidByText := true, laidKinds := [.data, .data], laidTests := true, laidLooks := .later }
def FnExactBoundaryCardSaid : Prop := Claim7.holds Tryz.pinned (.plain (OpenSpec.ofChange fnExactBoundarySpec)) fnExactBoundaryCard

/-- THE TIED CARD OF 'laws.FnExactRunIrq'. -/
def fnExactRunIrqCard : Claim7 := { stood := { row := fnExactRunIrqRow, standIns := [], harness := (true, "94a10f11d31a9bc13cb7071dd8103d5c5b516ff51488b53718a89f376e377342"), looks := true }, kinds := [], alts := [], laidByText := true, laidKinds := [.data, .data], laidTests := true, laidLooks := .later }
def FnExactRunIrqCardSaid : Prop := Claim7.holds Tryz.pinned (.plain (OpenSpec.ofChange fnExactRunIrqSpec)) fnExactRunIrqCard

/-- THE TIED CARD OF 'laws.FnExactPlayIrq'. -/
def fnExactPlayIrqCard : Claim7 := { stood := { row := fnExactPlayIrqRow, standIns := [], harness := (true, "94a10f11d31a9bc13cb7071dd8103d5c5b516ff51488b53718a89f376e377342"), looks := true }, kinds := [], alts := [], laidByText := true, laidKinds := [.data, .data], laidTests := true, laidLooks := .later }
def FnExactPlayIrqCardSaid : Prop := Claim7.holds Tryz.pinned (.plain (OpenSpec.ofChange fnExactPlayIrqSpec)) fnExactPlayIrqCard

/-- THE SECOND FORM's CARD OF 'laws.FnExactDoIns'. -/
def fnExactDoInsUptoCard : Claim7 := { stood := { row := fnExactDoInsUptoRow, standIns := [], harness := (true, "94a10f11d31a9bc13cb7071dd8103d5c5b516ff51488b53718a89f376e377342"), looks := true }, kinds := [], alts := [], laidByText := true, laidKinds := [.data, .data], laidTests := true, laidLooks := .later }
def FnExactDoInsUptoCardSaid : Prop := Claim7.holds Tryz.pinned (.plain (OpenSpec.upto fnExactDoInsSpec)) fnExactDoInsUptoCard

/-- THE SECOND FORM's CARD OF 'laws.FnExactRunRow'. -/
def fnExactRunRowUptoCard : Claim7 := { stood := { row := fnExactRunRowUptoRow, standIns := [], harness := (true, "94a10f11d31a9bc13cb7071dd8103d5c5b516ff51488b53718a89f376e377342"), looks := true }, kinds := [], alts := [], laidByText := true, laidKinds := [.data, .data], laidTests := true, laidLooks := .later }
def FnExactRunRowUptoCardSaid : Prop := Claim7.holds Tryz.pinned (.plain (OpenSpec.upto fnExactRunRowSpec)) fnExactRunRowUptoCard

/-- THE SECOND FORM's CARD OF 'laws.FnExactStepCpu'. -/
def fnExactStepCpuUptoCard : Claim7 := { stood := { row := fnExactStepCpuUptoRow, standIns := [], harness := (true, "94a10f11d31a9bc13cb7071dd8103d5c5b516ff51488b53718a89f376e377342"), looks := true }, kinds := [], alts := [], laidByText := true, laidKinds := [.data, .data], laidTests := true, laidLooks := .later }
def FnExactStepCpuUptoCardSaid : Prop := Claim7.holds Tryz.pinned (.plain (OpenSpec.upto fnExactStepCpuSpec)) fnExactStepCpuUptoCard

/-- THE SECOND FORM's CARD OF 'laws.FnExactStepsCpu'. -/
def fnExactStepsCpuUptoCard : Claim7 := { stood := { row := fnExactStepsCpuUptoRow, standIns := [], harness := (true, "94a10f11d31a9bc13cb7071dd8103d5c5b516ff51488b53718a89f376e377342"), looks := true }, kinds := [], alts := [], laidByText := true, laidKinds := [.data, .data], laidTests := true, laidLooks := .later }
def FnExactStepsCpuUptoCardSaid : Prop := Claim7.holds Tryz.pinned (.plain (OpenSpec.upto fnExactStepsCpuSpec)) fnExactStepsCpuUptoCard

/-- THE SECOND FORM's CARD OF 'laws.FnExactStepWhole'. -/
def fnExactStepWholeUptoCard : Claim7 := { stood := { row := fnExactStepWholeUptoRow, standIns := [], harness := (true, "94a10f11d31a9bc13cb7071dd8103d5c5b516ff51488b53718a89f376e377342"), looks := true }, kinds := [], alts := [], laidByText := true, laidKinds := [.data, .data], laidTests := true, laidLooks := .later }
def FnExactStepWholeUptoCardSaid : Prop := Claim7.holds Tryz.pinned (.plain (OpenSpec.upto fnExactStepWholeSpec)) fnExactStepWholeUptoCard

/-- THE SECOND FORM's CARD OF 'laws.FnExactRunWhole'. -/
def fnExactRunWholeUptoCard : Claim7 := { stood := { row := fnExactRunWholeUptoRow, standIns := [], harness := (true, "94a10f11d31a9bc13cb7071dd8103d5c5b516ff51488b53718a89f376e377342"), looks := true }, kinds := [], alts := [], laidByText := true, laidKinds := [.data, .data], laidTests := true, laidLooks := .later }
def FnExactRunWholeUptoCardSaid : Prop := Claim7.holds Tryz.pinned (.plain (OpenSpec.upto fnExactRunWholeSpec)) fnExactRunWholeUptoCard

/-- THE SECOND FORM's CARD OF 'laws.FnExactBoundary'. -/
def fnExactBoundaryUptoCard : Claim7 := { stood := { row := fnExactBoundaryUptoRow, standIns := [], harness := (true, "94a10f11d31a9bc13cb7071dd8103d5c5b516ff51488b53718a89f376e377342"), looks := true }, kinds := [], alts := [], laidByText := true, laidKinds := [.data, .data], laidTests := true, laidLooks := .later }
def FnExactBoundaryUptoCardSaid : Prop := Claim7.holds Tryz.pinned (.plain (OpenSpec.upto fnExactBoundarySpec)) fnExactBoundaryUptoCard

/-- THE SECOND FORM's CARD OF 'laws.FnExactRunIrq'. -/
def fnExactRunIrqUptoCard : Claim7 := { stood := { row := fnExactRunIrqUptoRow, standIns := [], harness := (true, "94a10f11d31a9bc13cb7071dd8103d5c5b516ff51488b53718a89f376e377342"), looks := true }, kinds := [], alts := [], laidByText := true, laidKinds := [.data, .data], laidTests := true, laidLooks := .later }
def FnExactRunIrqUptoCardSaid : Prop := Claim7.holds Tryz.pinned (.plain (OpenSpec.upto fnExactRunIrqSpec)) fnExactRunIrqUptoCard

/-- THE SECOND FORM's CARD OF 'laws.FnExactPlayIrq'. -/
def fnExactPlayIrqUptoCard : Claim7 := { stood := { row := fnExactPlayIrqUptoRow, standIns := [], harness := (true, "94a10f11d31a9bc13cb7071dd8103d5c5b516ff51488b53718a89f376e377342"), looks := true }, kinds := [], alts := [], laidByText := true, laidKinds := [.data, .data], laidTests := true, laidLooks := .later }
def FnExactPlayIrqUptoCardSaid : Prop := Claim7.holds Tryz.pinned (.plain (OpenSpec.upto fnExactPlayIrqSpec)) fnExactPlayIrqUptoCard
end Rows
end Go.Proofs.YtgikibaajanjiaaGreatDoor
