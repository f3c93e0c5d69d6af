/-
  DERIVED. GIVEN WITH THE SEED: THE CARDS: each row of YtbophanlmkbfeaaGreatDoorRows.lean that lists a variable, with what it lists TIED to the program's text (the seventh form; the later family's looks); each row that meets fmt, with fmt's text TOLD by the authors' own Lean function (tested against real Go, not proved from fmt's source: count such statements apart). THE CARD IS WHAT COUNTS. Prove the row's statement (the work); the ties are given (YtbophanlmkbfeaaGreatDoorTie.lean); close each card by the builder's one call (the guide's Derived/Test/ToyasCard.lean, 'card_holds'). Laid BY PROGRAM, IN A SANDBOX (cutbox-door.mjs). By AI agents, Wed Nov 11 2026. No macro, syntax, notation, axiom, sorry.
-/
import Derived.Test.YtbophanlmkbfeaaGreatDoorRows
import GoSem.ClaimSeven
namespace Go.Proofs.YtbophanlmkbfeaaGreatDoor
namespace Rows

/-- THE TIED CARD OF 'alidadelaw18.CraftHolds'. -/
def craftHoldsCard : Claim7 := { stood := { row := craftHoldsRow, standIns := [], harness := (true, "cbce9cd55c06e6b1812f162d135bc7db2a5b163b20d180ac13a297399d80d38a"), looks := false }, kinds := [], alts := [], laidByText := true, laidKinds := [.data, .data], laidTests := true, laidLooks := .later }
def CraftHoldsCardSaid : Prop := Claim7.holds Tryz.pinned (.plain (OpenSpec.ofChange craftHoldsSpec)) craftHoldsCard

/-- THE TIED CARD OF 'alidadetop.WholeEnters'. -/
def wholeEntersCard : Claim7 := { stood := { row := wholeEntersRow, standIns := [], harness := (true, "cbce9cd55c06e6b1812f162d135bc7db2a5b163b20d180ac13a297399d80d38a"), looks := false }, kinds := [], alts := [], laidByText := true, laidKinds := [.data, .data], laidTests := true, laidLooks := .later }
def WholeEntersCardSaid : Prop := Claim7.holds Tryz.pinned (.plain (OpenSpec.ofChange wholeEntersSpec)) wholeEntersCard

/-- THE TIED CARD OF 'alidadetop.WholeOrders'. -/
def wholeOrdersCard : Claim7 := { stood := { row := wholeOrdersRow, standIns := [], harness := (true, "cbce9cd55c06e6b1812f162d135bc7db2a5b163b20d180ac13a297399d80d38a"), looks := false }, kinds := [], alts := [], laidByText := true, laidKinds := [.data, .data], laidTests := true, laidLooks := .later }
def WholeOrdersCardSaid : Prop := Claim7.holds Tryz.pinned (.plain (OpenSpec.ofChange wholeOrdersSpec)) wholeOrdersCard

/-- THE SECOND FORM's CARD OF 'alidadelaw18.CraftHolds'. -/
def craftHoldsUptoCard : Claim7 := { stood := { row := craftHoldsUptoRow, standIns := [], harness := (true, "cbce9cd55c06e6b1812f162d135bc7db2a5b163b20d180ac13a297399d80d38a"), looks := false }, kinds := [], alts := [], laidByText := true, laidKinds := [.data, .data], laidTests := true, laidLooks := .later }
def CraftHoldsUptoCardSaid : Prop := Claim7.holds Tryz.pinned (.plain (OpenSpec.upto craftHoldsSpec)) craftHoldsUptoCard

/-- THE SECOND FORM's CARD OF 'alidadetop.WholeEnters'. -/
def wholeEntersUptoCard : Claim7 := { stood := { row := wholeEntersUptoRow, standIns := [], harness := (true, "cbce9cd55c06e6b1812f162d135bc7db2a5b163b20d180ac13a297399d80d38a"), looks := false }, kinds := [], alts := [], laidByText := true, laidKinds := [.data, .data], laidTests := true, laidLooks := .later }
def WholeEntersUptoCardSaid : Prop := Claim7.holds Tryz.pinned (.plain (OpenSpec.upto wholeEntersSpec)) wholeEntersUptoCard

/-- THE SECOND FORM's CARD OF 'alidadetop.WholeOrders'. -/
def wholeOrdersUptoCard : Claim7 := { stood := { row := wholeOrdersUptoRow, standIns := [], harness := (true, "cbce9cd55c06e6b1812f162d135bc7db2a5b163b20d180ac13a297399d80d38a"), looks := false }, kinds := [], alts := [], laidByText := true, laidKinds := [.data, .data], laidTests := true, laidLooks := .later }
def WholeOrdersUptoCardSaid : Prop := Claim7.holds Tryz.pinned (.plain (OpenSpec.upto wholeOrdersSpec)) wholeOrdersUptoCard
end Rows
end Go.Proofs.YtbophanlmkbfeaaGreatDoor
