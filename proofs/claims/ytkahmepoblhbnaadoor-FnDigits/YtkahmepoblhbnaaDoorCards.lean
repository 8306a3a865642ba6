/-
  DERIVED. GIVEN WITH THE SEED: THE CARDS: each row of YtkahmepoblhbnaaDoorRows.lean that lists a variable, with what it lists TIED to the program's text (the seventh form; the later family's looks); each row that meets fmt, with fmt's text TOLD by the authors' own Lean function (tested against real Go, not proved from fmt's source: count such statements apart). THE CARD IS WHAT COUNTS. Prove the row's statement (the work); the ties are given (YtkahmepoblhbnaaDoorTie.lean); close each card by the builder's one call (the guide's Derived/Test/ToyasCard.lean, 'card_holds'). Laid BY PROGRAM, IN A SANDBOX (cutbox-door.mjs). By AI agents, Wed Nov 11 2026. No macro, syntax, notation, axiom, sorry.
-/
import Derived.Test.YtkahmepoblhbnaaDoorRows
import GoSem.ClaimSeven
namespace Go.Proofs.YtkahmepoblhbnaaDoor
namespace Rows

/-- THE TIED CARD OF 'laws.FnBcd'. -/
def fnBcdCard : Claim7 := { stood := { row := fnBcdRow, standIns := [], harness := (true, "39b671c993e9dd5a99710b13f8489f044863d715891fa94aac45a268249aaa11"), looks := false }, kinds := [], alts := [], laidByText := true, laidKinds := [.data, .data], laidTests := true, laidLooks := .later }
def FnBcdCardSaid : Prop := Claim7.holds Tryd.pinned (.plain (OpenSpec.ofChange fnBcdSpec)) fnBcdCard

/-- THE TIED CARD OF 'laws.FnDigits'. -/
def fnDigitsCard : Claim7 := { stood := { row := fnDigitsRow, standIns := [], harness := (true, "39b671c993e9dd5a99710b13f8489f044863d715891fa94aac45a268249aaa11"), looks := false }, kinds := [], alts := [], laidByText := true, laidKinds := [.data, .data], laidTests := true, laidLooks := .later }
def FnDigitsCardSaid : Prop := Claim7.holds Tryd.pinned (.plain (OpenSpec.ofChange fnDigitsSpec)) fnDigitsCard

/-- THE TIED CARD OF 'laws.FnExactAddBcd'. -/
def fnExactAddBcdCard : Claim7 := { stood := { row := fnExactAddBcdRow, standIns := [], harness := (true, "39b671c993e9dd5a99710b13f8489f044863d715891fa94aac45a268249aaa11"), looks := false }, kinds := [], alts := [], laidByText := true, laidKinds := [.data], laidTests := true, laidLooks := .later }
def FnExactAddBcdCardSaid : Prop := Claim7.holds Tryd.pinned (.plain (OpenSpec.ofChange fnExactAddBcdSpec)) fnExactAddBcdCard

/-- THE TIED CARD OF 'laws.FnExactSubBcd'. -/
def fnExactSubBcdCard : Claim7 := { stood := { row := fnExactSubBcdRow, standIns := [], harness := (true, "39b671c993e9dd5a99710b13f8489f044863d715891fa94aac45a268249aaa11"), looks := false }, kinds := [], alts := [], laidByText := true, laidKinds := [.data, .data], laidTests := true, laidLooks := .later }
def FnExactSubBcdCardSaid : Prop := Claim7.holds Tryd.pinned (.plain (OpenSpec.ofChange fnExactSubBcdSpec)) fnExactSubBcdCard

/-- THE TIED CARD OF 'laws.FnExactNegBcd'. -/
def fnExactNegBcdCard : Claim7 := { stood := { row := fnExactNegBcdRow, standIns := [], harness := (true, "39b671c993e9dd5a99710b13f8489f044863d715891fa94aac45a268249aaa11"), looks := false }, kinds := [], alts := [], laidByText := true, laidKinds := [.data, .data], laidTests := true, laidLooks := .later }
def FnExactNegBcdCardSaid : Prop := Claim7.holds Tryd.pinned (.plain (OpenSpec.ofChange fnExactNegBcdSpec)) fnExactNegBcdCard

/-- THE TIED CARD OF 'laws.FnExactAddDigits'. -/
def fnExactAddDigitsCard : Claim7 := { stood := { row := fnExactAddDigitsRow, standIns := [], harness := (true, "39b671c993e9dd5a99710b13f8489f044863d715891fa94aac45a268249aaa11"), looks := false }, kinds := [], alts := [], laidByText := true, laidKinds := [.data], laidTests := true, laidLooks := .later }
def FnExactAddDigitsCardSaid : Prop := Claim7.holds Tryd.pinned (.plain (OpenSpec.ofChange fnExactAddDigitsSpec)) fnExactAddDigitsCard

/-- THE TIED CARD OF 'laws.FnExactComplementBcd'. -/
def fnExactComplementBcdCard : Claim7 := { stood := { row := fnExactComplementBcdRow, standIns := [], harness := (true, "39b671c993e9dd5a99710b13f8489f044863d715891fa94aac45a268249aaa11"), looks := false }, kinds := [], alts := [], laidByText := true, laidKinds := [.data], laidTests := true, laidLooks := .later }
def FnExactComplementBcdCardSaid : Prop := Claim7.holds Tryd.pinned (.plain (OpenSpec.ofChange fnExactComplementBcdSpec)) fnExactComplementBcdCard

/-- THE SECOND FORM's CARD OF 'laws.FnBcd'. -/
def fnBcdUptoCard : Claim7 := { stood := { row := fnBcdUptoRow, standIns := [], harness := (true, "39b671c993e9dd5a99710b13f8489f044863d715891fa94aac45a268249aaa11"), looks := false }, kinds := [], alts := [], laidByText := true, laidKinds := [.data, .data], laidTests := true, laidLooks := .later }
def FnBcdUptoCardSaid : Prop := Claim7.holds Tryd.pinned (.plain (OpenSpec.upto fnBcdSpec)) fnBcdUptoCard

/-- THE SECOND FORM's CARD OF 'laws.FnDigits'. -/
def fnDigitsUptoCard : Claim7 := { stood := { row := fnDigitsUptoRow, standIns := [], harness := (true, "39b671c993e9dd5a99710b13f8489f044863d715891fa94aac45a268249aaa11"), looks := false }, kinds := [], alts := [], laidByText := true, laidKinds := [.data, .data], laidTests := true, laidLooks := .later }
def FnDigitsUptoCardSaid : Prop := Claim7.holds Tryd.pinned (.plain (OpenSpec.upto fnDigitsSpec)) fnDigitsUptoCard

/-- THE SECOND FORM's CARD OF 'laws.FnExactAddBcd'. -/
def fnExactAddBcdUptoCard : Claim7 := { stood := { row := fnExactAddBcdUptoRow, standIns := [], harness := (true, "39b671c993e9dd5a99710b13f8489f044863d715891fa94aac45a268249aaa11"), looks := false }, kinds := [], alts := [], laidByText := true, laidKinds := [.data], laidTests := true, laidLooks := .later }
def FnExactAddBcdUptoCardSaid : Prop := Claim7.holds Tryd.pinned (.plain (OpenSpec.upto fnExactAddBcdSpec)) fnExactAddBcdUptoCard

/-- THE SECOND FORM's CARD OF 'laws.FnExactSubBcd'. -/
def fnExactSubBcdUptoCard : Claim7 := { stood := { row := fnExactSubBcdUptoRow, standIns := [], harness := (true, "39b671c993e9dd5a99710b13f8489f044863d715891fa94aac45a268249aaa11"), looks := false }, kinds := [], alts := [], laidByText := true, laidKinds := [.data, .data], laidTests := true, laidLooks := .later }
def FnExactSubBcdUptoCardSaid : Prop := Claim7.holds Tryd.pinned (.plain (OpenSpec.upto fnExactSubBcdSpec)) fnExactSubBcdUptoCard

/-- THE SECOND FORM's CARD OF 'laws.FnExactNegBcd'. -/
def fnExactNegBcdUptoCard : Claim7 := { stood := { row := fnExactNegBcdUptoRow, standIns := [], harness := (true, "39b671c993e9dd5a99710b13f8489f044863d715891fa94aac45a268249aaa11"), looks := false }, kinds := [], alts := [], laidByText := true, laidKinds := [.data, .data], laidTests := true, laidLooks := .later }
def FnExactNegBcdUptoCardSaid : Prop := Claim7.holds Tryd.pinned (.plain (OpenSpec.upto fnExactNegBcdSpec)) fnExactNegBcdUptoCard

/-- THE SECOND FORM's CARD OF 'laws.FnExactAddDigits'. -/
def fnExactAddDigitsUptoCard : Claim7 := { stood := { row := fnExactAddDigitsUptoRow, standIns := [], harness := (true, "39b671c993e9dd5a99710b13f8489f044863d715891fa94aac45a268249aaa11"), looks := false }, kinds := [], alts := [], laidByText := true, laidKinds := [.data], laidTests := true, laidLooks := .later }
def FnExactAddDigitsUptoCardSaid : Prop := Claim7.holds Tryd.pinned (.plain (OpenSpec.upto fnExactAddDigitsSpec)) fnExactAddDigitsUptoCard

/-- THE SECOND FORM's CARD OF 'laws.FnExactComplementBcd'. -/
def fnExactComplementBcdUptoCard : Claim7 := { stood := { row := fnExactComplementBcdUptoRow, standIns := [], harness := (true, "39b671c993e9dd5a99710b13f8489f044863d715891fa94aac45a268249aaa11"), looks := false }, kinds := [], alts := [], laidByText := true, laidKinds := [.data], laidTests := true, laidLooks := .later }
def FnExactComplementBcdUptoCardSaid : Prop := Claim7.holds Tryd.pinned (.plain (OpenSpec.upto fnExactComplementBcdSpec)) fnExactComplementBcdUptoCard
end Rows
end Go.Proofs.YtkahmepoblhbnaaDoor
