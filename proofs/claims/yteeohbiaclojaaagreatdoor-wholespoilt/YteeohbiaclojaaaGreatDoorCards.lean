/-
  DERIVED. GIVEN WITH THE SEED: THE CARDS: each row of YteeohbiaclojaaaGreatDoorRows.lean that lists a variable, with what it lists TIED to the program's text (the seventh form; the later family's looks); each row that meets fmt, with fmt's text TOLD by the authors' own Lean function (tested against real Go, not proved from fmt's source: count such statements apart). THE CARD IS WHAT COUNTS. Prove the row's statement (the work); the ties are given (YteeohbiaclojaaaGreatDoorTie.lean); close each card by the builder's one call (the guide's Derived/Test/ToyasCard.lean, 'card_holds'). Laid BY PROGRAM, IN A SANDBOX (cutbox-door.mjs). By AI agents, Wed Nov 11 2026. No macro, syntax, notation, axiom, sorry.
-/
import Derived.Test.YteeohbiaclojaaaGreatDoorRows
import GoSem.ClaimSeven
namespace Go.Proofs.YteeohbiaclojaaaGreatDoor
namespace Rows

/-- THE TIED CARD OF 'alidadetop.WholeSpoilt'. -/
def wholeSpoiltCard : Claim7 := { stood := { row := wholeSpoiltRow, standIns := [], harness := (true, "35abad23bb2d86173341915d0918199faa8b8316619f1188006be32834efc259"), looks := false }, kinds := [], alts := [], laidByText := true, laidKinds := [.data, .data], laidTests := true, laidLooks := .later }
def WholeSpoiltCardSaid : Prop := Claim7.holds Tryz.pinned (.plain (OpenSpec.ofChange wholeSpoiltSpec)) wholeSpoiltCard

/-- THE SECOND FORM's CARD OF 'alidadetop.WholeSpoilt'. -/
def wholeSpoiltUptoCard : Claim7 := { stood := { row := wholeSpoiltUptoRow, standIns := [], harness := (true, "35abad23bb2d86173341915d0918199faa8b8316619f1188006be32834efc259"), looks := false }, kinds := [], alts := [], laidByText := true, laidKinds := [.data, .data], laidTests := true, laidLooks := .later }
def WholeSpoiltUptoCardSaid : Prop := Claim7.holds Tryz.pinned (.plain (OpenSpec.upto wholeSpoiltSpec)) wholeSpoiltUptoCard
end Rows
end Go.Proofs.YteeohbiaclojaaaGreatDoor
