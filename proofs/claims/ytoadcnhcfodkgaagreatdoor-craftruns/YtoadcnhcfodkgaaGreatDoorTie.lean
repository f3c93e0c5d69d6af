/-
  DERIVED. GIVEN WITH THE SEED: THE PROGRAM's TIES (one call each: nine closed facts by the kernel) AND EACH ROW's TIE, after the 31st guide's Derived/Test/Toyas{Tie, Card}.lean. No idea stands in it: it is a product of the set-up. Laid BY PROGRAM, IN A SANDBOX (cutbox-door.mjs). By AI agents, Wed Nov 11 2026. No macro, syntax, notation, axiom, sorry.
-/
import Derived.Test.YtoadcnhcfodkgaaGreatDoorRows
import Derived.LaidByTextLater
import Derived.SevenTiedAt
import Derived.LaidSub
import Derived.LaidOnce
namespace Go.Proofs.YtoadcnhcfodkgaaGreatDoor
open Go
set_option maxRecDepth 100000
theorem seatTie1 : Tryz.prog.laidByTextLater [("alidade/field.atZero", Rows.laid_alidade_field_atZero), ("alidade/field.inYear", Rows.laid_alidade_field_inYear)] [.data, .data] true :=
  Program.laidByTextLater_by_one 51 8 55 (by kernel_rfl) (by kernel_rfl) (by kernel_rfl) (by kernel_rfl) (by kernel_rfl) (by kernel_rfl) (fun _ _ => by kernel_rfl)
theorem noOwnUnsafe : Tryz.pinned.checked.prog.headLifts.contains "ownunsafe" = false := by kernel_rfl
theorem tie : Tryz.prog.laidByTextLater [("alidade/field.atZero", Rows.laid_alidade_field_atZero), ("alidade/field.inYear", Rows.laid_alidade_field_inYear)] [.data, .data] true :=
  Program.laidByTextLater.sub seatTie1 ["alidade/field.atZero", "alidade/field.inYear"] (by kernel_rfl) (by kernel_rfl)
theorem craftRuns_row_tie : Rows.craftRunsRow.laidByTextAt .later Tryz.pinned [.data, .data] true :=
  OpenClaim.laidByTextAt_later rfl rfl tie noOwnUnsafe
theorem craftRunsUpto_row_tie : Rows.craftRunsUptoRow.laidByTextAt .later Tryz.pinned [.data, .data] true :=
  OpenClaim.laidByTextAt_later rfl rfl tie noOwnUnsafe
end Go.Proofs.YtoadcnhcfodkgaaGreatDoor
