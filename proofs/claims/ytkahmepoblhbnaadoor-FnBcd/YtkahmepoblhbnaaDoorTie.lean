/-
  DERIVED. GIVEN WITH THE SEED: THE PROGRAM's TIES (one call each: nine closed facts by the kernel) AND EACH ROW's TIE, after the 31st guide's Derived/Test/Toyas{Tie, Card}.lean. No idea stands in it: it is a product of the set-up. Laid BY PROGRAM, IN A SANDBOX (cutbox-door.mjs). By AI agents, Wed Nov 11 2026. No macro, syntax, notation, axiom, sorry.
-/
import Derived.Test.YtkahmepoblhbnaaDoorRows
import Derived.LaidByTextLater
import Derived.SevenTiedAt
import Derived.LaidSub
import Derived.LaidOnce
namespace Go.Proofs.YtkahmepoblhbnaaDoor
open Go
set_option maxRecDepth 100000
theorem seatTie1 : Tryd.prog.laidByTextLater [("loop.example/g00389/impl.digitSums", Rows.laid_loop_example_g00389_impl_digitSums), ("loop.example/g00389/impl.ninesLess", Rows.laid_loop_example_g00389_impl_ninesLess)] [.data, .data] true :=
  Program.laidByTextLater_by_one 19 8 21 (by kernel_rfl) (by kernel_rfl) (by kernel_rfl) (by kernel_rfl) (by kernel_rfl) (by kernel_rfl) (fun _ _ => by kernel_rfl)
theorem noOwnUnsafe : Tryd.pinned.checked.prog.headLifts.contains "ownunsafe" = false := by kernel_rfl
theorem tie : Tryd.prog.laidByTextLater [("loop.example/g00389/impl.digitSums", Rows.laid_loop_example_g00389_impl_digitSums), ("loop.example/g00389/impl.ninesLess", Rows.laid_loop_example_g00389_impl_ninesLess)] [.data, .data] true :=
  Program.laidByTextLater.sub seatTie1 ["loop.example/g00389/impl.digitSums", "loop.example/g00389/impl.ninesLess"] (by kernel_rfl) (by kernel_rfl)
theorem fnBcd_row_tie : Rows.fnBcdRow.laidByTextAt .later Tryd.pinned [.data, .data] true :=
  OpenClaim.laidByTextAt_later rfl rfl tie noOwnUnsafe
theorem fnDigits_row_tie : Rows.fnDigitsRow.laidByTextAt .later Tryd.pinned [.data, .data] true :=
  OpenClaim.laidByTextAt_later rfl rfl tie noOwnUnsafe
theorem fnExactSubBcd_row_tie : Rows.fnExactSubBcdRow.laidByTextAt .later Tryd.pinned [.data, .data] true :=
  OpenClaim.laidByTextAt_later rfl rfl tie noOwnUnsafe
theorem fnExactNegBcd_row_tie : Rows.fnExactNegBcdRow.laidByTextAt .later Tryd.pinned [.data, .data] true :=
  OpenClaim.laidByTextAt_later rfl rfl tie noOwnUnsafe
theorem tie2 : Tryd.prog.laidByTextLater [("loop.example/g00389/impl.digitSums", Rows.laid_loop_example_g00389_impl_digitSums)] [.data] true :=
  Program.laidByTextLater.sub seatTie1 ["loop.example/g00389/impl.digitSums"] (by kernel_rfl) (by kernel_rfl)
theorem fnExactAddBcd_row_tie : Rows.fnExactAddBcdRow.laidByTextAt .later Tryd.pinned [.data] true :=
  OpenClaim.laidByTextAt_later rfl rfl tie2 noOwnUnsafe
theorem fnExactAddDigits_row_tie : Rows.fnExactAddDigitsRow.laidByTextAt .later Tryd.pinned [.data] true :=
  OpenClaim.laidByTextAt_later rfl rfl tie2 noOwnUnsafe
theorem tie3 : Tryd.prog.laidByTextLater [("loop.example/g00389/impl.ninesLess", Rows.laid_loop_example_g00389_impl_ninesLess)] [.data] true :=
  Program.laidByTextLater.sub seatTie1 ["loop.example/g00389/impl.ninesLess"] (by kernel_rfl) (by kernel_rfl)
theorem fnExactComplementBcd_row_tie : Rows.fnExactComplementBcdRow.laidByTextAt .later Tryd.pinned [.data] true :=
  OpenClaim.laidByTextAt_later rfl rfl tie3 noOwnUnsafe
theorem fnBcdUpto_row_tie : Rows.fnBcdUptoRow.laidByTextAt .later Tryd.pinned [.data, .data] true :=
  OpenClaim.laidByTextAt_later rfl rfl tie noOwnUnsafe
theorem fnDigitsUpto_row_tie : Rows.fnDigitsUptoRow.laidByTextAt .later Tryd.pinned [.data, .data] true :=
  OpenClaim.laidByTextAt_later rfl rfl tie noOwnUnsafe
theorem fnExactAddBcdUpto_row_tie : Rows.fnExactAddBcdUptoRow.laidByTextAt .later Tryd.pinned [.data] true :=
  OpenClaim.laidByTextAt_later rfl rfl tie2 noOwnUnsafe
theorem fnExactSubBcdUpto_row_tie : Rows.fnExactSubBcdUptoRow.laidByTextAt .later Tryd.pinned [.data, .data] true :=
  OpenClaim.laidByTextAt_later rfl rfl tie noOwnUnsafe
theorem fnExactNegBcdUpto_row_tie : Rows.fnExactNegBcdUptoRow.laidByTextAt .later Tryd.pinned [.data, .data] true :=
  OpenClaim.laidByTextAt_later rfl rfl tie noOwnUnsafe
theorem fnExactAddDigitsUpto_row_tie : Rows.fnExactAddDigitsUptoRow.laidByTextAt .later Tryd.pinned [.data] true :=
  OpenClaim.laidByTextAt_later rfl rfl tie2 noOwnUnsafe
theorem fnExactComplementBcdUpto_row_tie : Rows.fnExactComplementBcdUptoRow.laidByTextAt .later Tryd.pinned [.data] true :=
  OpenClaim.laidByTextAt_later rfl rfl tie3 noOwnUnsafe
end Go.Proofs.YtkahmepoblhbnaaDoor
