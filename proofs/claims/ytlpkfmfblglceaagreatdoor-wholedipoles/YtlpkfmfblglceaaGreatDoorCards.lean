/-
  DERIVED. GIVEN WITH THE SEED: THE CARDS: each row of YtlpkfmfblglceaaGreatDoorRows.lean that lists a variable, with what it lists TIED to the program's text (the seventh form; the later family's looks); each row that meets fmt, with fmt's text TOLD by the authors' own Lean function (tested against real Go, not proved from fmt's source: count such statements apart). THE CARD IS WHAT COUNTS. Prove the row's statement (the work); the ties are given (YtlpkfmfblglceaaGreatDoorTie.lean); close each card by the builder's one call (the guide's Derived/Test/ToyasCard.lean, 'card_holds'). Laid BY PROGRAM, IN A SANDBOX (cutbox-door.mjs). By AI agents, Wed Nov 11 2026. No macro, syntax, notation, axiom, sorry.
-/
import Derived.Test.YtlpkfmfblglceaaGreatDoorRows
import GoSem.ClaimSeven
namespace Go.Proofs.YtlpkfmfblglceaaGreatDoor
namespace Rows

/-- THE TIED CARD OF 'alidadetop.WholeGaps'. -/
def wholeGapsCard : Claim7 := { stood := { row := wholeGapsRow, standIns := [], harness := (true, "24e0e4fe8dbe478c067f466e67dfcaf74e63fa5e192beb544296393d6b136585"), looks := false }, kinds := [], alts := [], laidByText := true, laidKinds := [.data, .data], laidTests := true, laidLooks := .later }
def WholeGapsCardSaid : Prop := Claim7.holds Tryz.pinned (.plain (OpenSpec.ofChange wholeGapsSpec)) wholeGapsCard

/-- THE TIED CARD OF 'alidadetop.WholeDipoles'. -/
def wholeDipolesCard : Claim7 := { stood := { row := wholeDipolesRow, standIns := [], harness := (true, "24e0e4fe8dbe478c067f466e67dfcaf74e63fa5e192beb544296393d6b136585"), looks := false }, kinds := [], alts := [], laidByText := true, laidKinds := [.data, .data], laidTests := true, laidLooks := .later }
def WholeDipolesCardSaid : Prop := Claim7.holds Tryz.pinned (.plain (OpenSpec.ofChange wholeDipolesSpec)) wholeDipolesCard

/-- THE TIED CARD OF 'alidadetop.WholeModes'. -/
def wholeModesCard : Claim7 := { stood := { row := wholeModesRow, standIns := [], harness := (true, "24e0e4fe8dbe478c067f466e67dfcaf74e63fa5e192beb544296393d6b136585"), looks := false }, kinds := [], alts := [], laidByText := true, laidKinds := [.data, .data], laidTests := true, laidLooks := .later }
def WholeModesCardSaid : Prop := Claim7.holds Tryz.pinned (.plain (OpenSpec.ofChange wholeModesSpec)) wholeModesCard

/-- THE TIED CARD OF 'alidadetop.WholeOrders'. -/
def wholeOrdersCard : Claim7 := { stood := { row := wholeOrdersRow, standIns := [], harness := (true, "24e0e4fe8dbe478c067f466e67dfcaf74e63fa5e192beb544296393d6b136585"), looks := false }, kinds := [], alts := [], laidByText := true, laidKinds := [.data, .data], laidTests := true, laidLooks := .later }
def WholeOrdersCardSaid : Prop := Claim7.holds Tryz.pinned (.plain (OpenSpec.ofChange wholeOrdersSpec)) wholeOrdersCard

/-- THE SECOND FORM's CARD OF 'alidadetop.WholeGaps'. -/
def wholeGapsUptoCard : Claim7 := { stood := { row := wholeGapsUptoRow, standIns := [], harness := (true, "24e0e4fe8dbe478c067f466e67dfcaf74e63fa5e192beb544296393d6b136585"), looks := false }, kinds := [], alts := [], laidByText := true, laidKinds := [.data, .data], laidTests := true, laidLooks := .later }
def WholeGapsUptoCardSaid : Prop := Claim7.holds Tryz.pinned (.plain (OpenSpec.upto wholeGapsSpec)) wholeGapsUptoCard

/-- THE SECOND FORM's CARD OF 'alidadetop.WholeDipoles'. -/
def wholeDipolesUptoCard : Claim7 := { stood := { row := wholeDipolesUptoRow, standIns := [], harness := (true, "24e0e4fe8dbe478c067f466e67dfcaf74e63fa5e192beb544296393d6b136585"), looks := false }, kinds := [], alts := [], laidByText := true, laidKinds := [.data, .data], laidTests := true, laidLooks := .later }
def WholeDipolesUptoCardSaid : Prop := Claim7.holds Tryz.pinned (.plain (OpenSpec.upto wholeDipolesSpec)) wholeDipolesUptoCard

/-- THE SECOND FORM's CARD OF 'alidadetop.WholeModes'. -/
def wholeModesUptoCard : Claim7 := { stood := { row := wholeModesUptoRow, standIns := [], harness := (true, "24e0e4fe8dbe478c067f466e67dfcaf74e63fa5e192beb544296393d6b136585"), looks := false }, kinds := [], alts := [], laidByText := true, laidKinds := [.data, .data], laidTests := true, laidLooks := .later }
def WholeModesUptoCardSaid : Prop := Claim7.holds Tryz.pinned (.plain (OpenSpec.upto wholeModesSpec)) wholeModesUptoCard

/-- THE SECOND FORM's CARD OF 'alidadetop.WholeOrders'. -/
def wholeOrdersUptoCard : Claim7 := { stood := { row := wholeOrdersUptoRow, standIns := [], harness := (true, "24e0e4fe8dbe478c067f466e67dfcaf74e63fa5e192beb544296393d6b136585"), looks := false }, kinds := [], alts := [], laidByText := true, laidKinds := [.data, .data], laidTests := true, laidLooks := .later }
def WholeOrdersUptoCardSaid : Prop := Claim7.holds Tryz.pinned (.plain (OpenSpec.upto wholeOrdersSpec)) wholeOrdersUptoCard
end Rows
end Go.Proofs.YtlpkfmfblglceaaGreatDoor
