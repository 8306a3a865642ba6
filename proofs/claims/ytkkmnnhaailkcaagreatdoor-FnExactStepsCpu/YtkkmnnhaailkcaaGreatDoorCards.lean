/-
  DERIVED. GIVEN WITH THE SEED: THE CARDS: each row of YtkkmnnhaailkcaaGreatDoorRows.lean that lists a variable, with what it lists TIED to the program's text (the seventh form; the later family's looks); each row that meets fmt, with fmt's text TOLD by the authors' own Lean function (tested against real Go, not proved from fmt's source: count such statements apart). THE CARD IS WHAT COUNTS. Prove the row's statement (the work); the ties are given (YtkkmnnhaailkcaaGreatDoorTie.lean); close each card by the builder's one call (the guide's Derived/Test/ToyasCard.lean, 'card_holds'). Laid BY PROGRAM, IN A SANDBOX (cutbox-door.mjs). By AI agents, Wed Nov 11 2026. No macro, syntax, notation, axiom, sorry.
-/
import Derived.Test.YtkkmnnhaailkcaaGreatDoorRows
import GoSem.ClaimSeven
namespace Go.Proofs.YtkkmnnhaailkcaaGreatDoor
namespace Rows

/-- THE TIED CARD OF 'laws.FnExactStepWhole'. -/
def fnExactStepWholeCard : Claim7 := { stood := { row := fnExactStepWholeRow, standIns := [], harness := (true, "86b083da04bf92a3c99a73d2a1a0e2f35d1cfbae7c6706a3d895a1ba3f9f3f51"), looks := true }, kinds := [], alts := [], laidByText := true, laidKinds := [.data, .data], laidTests := true, laidLooks := .later }
def FnExactStepWholeCardSaid : Prop := Claim7.holds Tryz.pinned (.plain (OpenSpec.ofChange fnExactStepWholeSpec)) fnExactStepWholeCard

/-- THE TIED CARD OF 'laws.FnExactRunWhole'. -/
def fnExactRunWholeCard : Claim7 := { stood := { row := fnExactRunWholeRow, standIns := [], harness := (true, "86b083da04bf92a3c99a73d2a1a0e2f35d1cfbae7c6706a3d895a1ba3f9f3f51"), looks := true }, kinds := [], alts := [], laidByText := true, laidKinds := [.data, .data], laidTests := true, laidLooks := .later }
def FnExactRunWholeCardSaid : Prop := Claim7.holds Tryz.pinned (.plain (OpenSpec.ofChange fnExactRunWholeSpec)) fnExactRunWholeCard

/-- THE TIED CARD OF 'laws.FnExactStepCpu'. -/
def fnExactStepCpuCard : Claim7 := { stood := { row := fnExactStepCpuRow, standIns := [], harness := (true, "86b083da04bf92a3c99a73d2a1a0e2f35d1cfbae7c6706a3d895a1ba3f9f3f51"), looks := true }, kinds := [], alts := [], laidByText := true, laidKinds := [.data, .data], laidTests := true, laidLooks := .later }
def FnExactStepCpuCardSaid : Prop := Claim7.holds Tryz.pinned (.plain (OpenSpec.ofChange fnExactStepCpuSpec)) fnExactStepCpuCard

/-- THE TIED CARD OF 'laws.FnExactStepsCpu'. -/
def fnExactStepsCpuCard : Claim7 := { stood := { row := fnExactStepsCpuRow, standIns := [], harness := (true, "86b083da04bf92a3c99a73d2a1a0e2f35d1cfbae7c6706a3d895a1ba3f9f3f51"), looks := true }, kinds := [], alts := [], laidByText := true, laidKinds := [.data, .data], laidTests := true, laidLooks := .later }
def FnExactStepsCpuCardSaid : Prop := Claim7.holds Tryz.pinned (.plain (OpenSpec.ofChange fnExactStepsCpuSpec)) fnExactStepsCpuCard

/-- THE SECOND FORM's CARD OF 'laws.FnExactStepWhole'. -/
def fnExactStepWholeUptoCard : Claim7 := { stood := { row := fnExactStepWholeUptoRow, standIns := [], harness := (true, "86b083da04bf92a3c99a73d2a1a0e2f35d1cfbae7c6706a3d895a1ba3f9f3f51"), looks := true }, kinds := [], alts := [], laidByText := true, laidKinds := [.data, .data], laidTests := true, laidLooks := .later }
def FnExactStepWholeUptoCardSaid : Prop := Claim7.holds Tryz.pinned (.plain (OpenSpec.upto fnExactStepWholeSpec)) fnExactStepWholeUptoCard

/-- THE SECOND FORM's CARD OF 'laws.FnExactRunWhole'. -/
def fnExactRunWholeUptoCard : Claim7 := { stood := { row := fnExactRunWholeUptoRow, standIns := [], harness := (true, "86b083da04bf92a3c99a73d2a1a0e2f35d1cfbae7c6706a3d895a1ba3f9f3f51"), looks := true }, kinds := [], alts := [], laidByText := true, laidKinds := [.data, .data], laidTests := true, laidLooks := .later }
def FnExactRunWholeUptoCardSaid : Prop := Claim7.holds Tryz.pinned (.plain (OpenSpec.upto fnExactRunWholeSpec)) fnExactRunWholeUptoCard

/-- THE SECOND FORM's CARD OF 'laws.FnExactStepCpu'. -/
def fnExactStepCpuUptoCard : Claim7 := { stood := { row := fnExactStepCpuUptoRow, standIns := [], harness := (true, "86b083da04bf92a3c99a73d2a1a0e2f35d1cfbae7c6706a3d895a1ba3f9f3f51"), looks := true }, kinds := [], alts := [], laidByText := true, laidKinds := [.data, .data], laidTests := true, laidLooks := .later }
def FnExactStepCpuUptoCardSaid : Prop := Claim7.holds Tryz.pinned (.plain (OpenSpec.upto fnExactStepCpuSpec)) fnExactStepCpuUptoCard

/-- THE SECOND FORM's CARD OF 'laws.FnExactStepsCpu'. -/
def fnExactStepsCpuUptoCard : Claim7 := { stood := { row := fnExactStepsCpuUptoRow, standIns := [], harness := (true, "86b083da04bf92a3c99a73d2a1a0e2f35d1cfbae7c6706a3d895a1ba3f9f3f51"), looks := true }, kinds := [], alts := [], laidByText := true, laidKinds := [.data, .data], laidTests := true, laidLooks := .later }
def FnExactStepsCpuUptoCardSaid : Prop := Claim7.holds Tryz.pinned (.plain (OpenSpec.upto fnExactStepsCpuSpec)) fnExactStepsCpuUptoCard
end Rows
end Go.Proofs.YtkkmnnhaailkcaaGreatDoor
