/-
  DERIVED. GIVEN WITH THE SEED: THE CARDS: each row of YtgmpfeaanjnhaaaGreatDoorRows.lean that lists a variable, with what it lists TIED to the program's text (the seventh form; the later family's looks); each row that meets fmt, with fmt's text TOLD by the authors' own Lean function (tested against real Go, not proved from fmt's source: count such statements apart). THE CARD IS WHAT COUNTS. Prove the row's statement (the work); the ties are given (YtgmpfeaanjnhaaaGreatDoorTie.lean); close each card by the builder's one call (the guide's Derived/Test/ToyasCard.lean, 'card_holds'). Laid BY PROGRAM, IN A SANDBOX (cutbox-door.mjs). By AI agents, Wed Nov 11 2026. No macro, syntax, notation, axiom, sorry.
-/
import Derived.Test.YtgmpfeaanjnhaaaGreatDoorRows
import GoSem.ClaimSeven
namespace Go.Proofs.YtgmpfeaanjnhaaaGreatDoor
namespace Rows

/-- THE TIED CARD OF 'alidadelaw19.ScriptBegins'. -/
def scriptBeginsCard : Claim7 := { stood := { row := scriptBeginsRow, standIns := [], harness := (true, "0d1dd6a9c2439e7bc9a880e24c213160eb1a11ae6a2a2a2de76fc2f6b484416c"), looks := true }, kinds := [], alts := [], laidByText := true, laidKinds := [.data, .data, .data, .data, .data, .data, .sentinel, .sentinel, .pinned], laidTests := true, laidLooks := .later }
def ScriptBeginsCardSaid : Prop := Claim7.holds Tryz.pinned (.plain (OpenSpec.ofChange scriptBeginsSpec)) scriptBeginsCard

/-- THE SECOND FORM's CARD OF 'alidadelaw19.ScriptBegins'. -/
def scriptBeginsUptoCard : Claim7 := { stood := { row := scriptBeginsUptoRow, standIns := [], harness := (true, "0d1dd6a9c2439e7bc9a880e24c213160eb1a11ae6a2a2a2de76fc2f6b484416c"), looks := true }, kinds := [], alts := [], laidByText := true, laidKinds := [.data, .data, .data, .data, .data, .data, .sentinel, .sentinel, .pinned], laidTests := true, laidLooks := .later }
def ScriptBeginsUptoCardSaid : Prop := Claim7.holds Tryz.pinned (.plain (OpenSpec.upto scriptBeginsSpec)) scriptBeginsUptoCard
end Rows
end Go.Proofs.YtgmpfeaanjnhaaaGreatDoor
