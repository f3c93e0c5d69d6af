/-
  DERIVED. GIVEN WITH THE SEED: THE CARDS: each row of YtoadcnhcfodkgaaGreatDoorRows.lean that lists a variable, with what it lists TIED to the program's text (the seventh form; the later family's looks); each row that meets fmt, with fmt's text TOLD by the authors' own Lean function (tested against real Go, not proved from fmt's source: count such statements apart). THE CARD IS WHAT COUNTS. Prove the row's statement (the work); the ties are given (YtoadcnhcfodkgaaGreatDoorTie.lean); close each card by the builder's one call (the guide's Derived/Test/ToyasCard.lean, 'card_holds'). Laid BY PROGRAM, IN A SANDBOX (cutbox-door.mjs). By AI agents, Wed Nov 11 2026. No macro, syntax, notation, axiom, sorry.
-/
import Derived.Test.YtoadcnhcfodkgaaGreatDoorRows
import GoSem.ClaimSeven
namespace Go.Proofs.YtoadcnhcfodkgaaGreatDoor
namespace Rows

/-- THE TIED CARD OF 'alidadelaw18.CraftRuns'. -/
def craftRunsCard : Claim7 := { stood := { row := craftRunsRow, standIns := [], harness := (true, "e64f0d28682fedf4a448c05537d0799ce6a6c035c264a9b8905713586bb7afc5"), looks := false }, kinds := [], alts := [], laidByText := true, laidKinds := [.data, .data], laidTests := true, laidLooks := .later }
def CraftRunsCardSaid : Prop := Claim7.holds Tryz.pinned (.plain (OpenSpec.ofChange craftRunsSpec)) craftRunsCard

/-- THE SECOND FORM's CARD OF 'alidadelaw18.CraftRuns'. -/
def craftRunsUptoCard : Claim7 := { stood := { row := craftRunsUptoRow, standIns := [], harness := (true, "e64f0d28682fedf4a448c05537d0799ce6a6c035c264a9b8905713586bb7afc5"), looks := false }, kinds := [], alts := [], laidByText := true, laidKinds := [.data, .data], laidTests := true, laidLooks := .later }
def CraftRunsUptoCardSaid : Prop := Claim7.holds Tryz.pinned (.plain (OpenSpec.upto craftRunsSpec)) craftRunsUptoCard
end Rows
end Go.Proofs.YtoadcnhcfodkgaaGreatDoor
