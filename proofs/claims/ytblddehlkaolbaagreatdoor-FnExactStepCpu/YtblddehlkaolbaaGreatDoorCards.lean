/-
  DERIVED. GIVEN WITH THE SEED: THE CARDS: each row of YtblddehlkaolbaaGreatDoorRows.lean that lists a variable, with what it lists TIED to the program's text (the seventh form; the later family's looks); each row that meets fmt, with fmt's text TOLD by the authors' own Lean function (tested against real Go, not proved from fmt's source: count such statements apart). THE CARD IS WHAT COUNTS. Prove the row's statement (the work); the ties are given (YtblddehlkaolbaaGreatDoorTie.lean); close each card by the builder's one call (the guide's Derived/Test/ToyasCard.lean, 'card_holds'). Laid BY PROGRAM, IN A SANDBOX (cutbox-door.mjs). By AI agents, Wed Nov 11 2026. No macro, syntax, notation, axiom, sorry.
-/
import Derived.Test.YtblddehlkaolbaaGreatDoorRows
import GoSem.ClaimSeven
namespace Go.Proofs.YtblddehlkaolbaaGreatDoor
namespace Rows

/-- THE TIED CARD OF 'laws.FnExactStepCpu'. -/
def fnExactStepCpuCard : Claim7 := { stood := { row := fnExactStepCpuRow, standIns := [], harness := (true, "00fca1570099b8201f6f53ac92c0a90b0e9581d6cf0785588969b86ffe1a5a16"), looks := true }, kinds := [], alts := [], laidByText := true, laidKinds := [.data, .data], laidTests := true, laidLooks := .later }
def FnExactStepCpuCardSaid : Prop := Claim7.holds Tryz.pinned (.plain (OpenSpec.ofChange fnExactStepCpuSpec)) fnExactStepCpuCard

/-- THE TIED CARD OF 'laws.FnExactStepsCpu'. -/
def fnExactStepsCpuCard : Claim7 := { stood := { row := fnExactStepsCpuRow, standIns := [], harness := (true, "00fca1570099b8201f6f53ac92c0a90b0e9581d6cf0785588969b86ffe1a5a16"), looks := true }, kinds := [], alts := [], laidByText := true, laidKinds := [.data, .data], laidTests := true, laidLooks := .later }
def FnExactStepsCpuCardSaid : Prop := Claim7.holds Tryz.pinned (.plain (OpenSpec.ofChange fnExactStepsCpuSpec)) fnExactStepsCpuCard

/-- THE SECOND FORM's CARD OF 'laws.FnExactStepCpu'. -/
def fnExactStepCpuUptoCard : Claim7 := { stood := { row := fnExactStepCpuUptoRow, standIns := [], harness := (true, "00fca1570099b8201f6f53ac92c0a90b0e9581d6cf0785588969b86ffe1a5a16"), looks := true }, kinds := [], alts := [], laidByText := true, laidKinds := [.data, .data], laidTests := true, laidLooks := .later }
def FnExactStepCpuUptoCardSaid : Prop := Claim7.holds Tryz.pinned (.plain (OpenSpec.upto fnExactStepCpuSpec)) fnExactStepCpuUptoCard

/-- THE SECOND FORM's CARD OF 'laws.FnExactStepsCpu'. -/
def fnExactStepsCpuUptoCard : Claim7 := { stood := { row := fnExactStepsCpuUptoRow, standIns := [], harness := (true, "00fca1570099b8201f6f53ac92c0a90b0e9581d6cf0785588969b86ffe1a5a16"), looks := true }, kinds := [], alts := [], laidByText := true, laidKinds := [.data, .data], laidTests := true, laidLooks := .later }
def FnExactStepsCpuUptoCardSaid : Prop := Claim7.holds Tryz.pinned (.plain (OpenSpec.upto fnExactStepsCpuSpec)) fnExactStepsCpuUptoCard
end Rows
end Go.Proofs.YtblddehlkaolbaaGreatDoor
