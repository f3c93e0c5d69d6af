/-
  DERIVED. GIVEN WITH THE SEED: THE CARDS: each row of YtmhcfkcpoecokaaDoorRows.lean that lists a variable, with what it lists TIED to the program's text (the seventh form; the later family's looks); each row that meets fmt, with fmt's text TOLD by the authors' own Lean function (tested against real Go, not proved from fmt's source: count such statements apart). THE CARD IS WHAT COUNTS. Prove the row's statement (the work); the ties are given (YtmhcfkcpoecokaaDoorTie.lean); close each card by the builder's one call (the guide's Derived/Test/ToyasCard.lean, 'card_holds'). Laid BY PROGRAM, IN A SANDBOX (cutbox-door.mjs). By AI agents, Wed Nov 11 2026. No macro, syntax, notation, axiom, sorry.
-/
import Derived.Test.YtmhcfkcpoecokaaDoorRows
import GoSem.ClaimSeven
namespace Go.Proofs.YtmhcfkcpoecokaaDoor
namespace Rows

/-- THE TIED CARD OF 'alidadelaw10.FieldNumbers'. -/
def fieldNumbersCard : Claim7 := { stood := { row := fieldNumbersRow, standIns := [], harness := (true, "118c6152d63dbe7b97955535cf7ad78ed81b927fc94420a1c9f20930de370d81"), looks := false }, kinds := [], alts := [], laidByText := true, laidKinds := [.data, .data], laidTests := true, laidLooks := .later }
def FieldNumbersCardSaid : Prop := Claim7.holds Tryd.pinned (.plain (OpenSpec.ofChange fieldNumbersSpec)) fieldNumbersCard

/-- THE TIED CARD OF 'alidadelaw10.FieldEarth'. -/
def fieldEarthCard : Claim7 := { stood := { row := fieldEarthRow, standIns := [], harness := (true, "118c6152d63dbe7b97955535cf7ad78ed81b927fc94420a1c9f20930de370d81"), looks := false }, kinds := [], alts := [], laidByText := true, laidKinds := [.data, .data], laidTests := true, laidLooks := .later }
def FieldEarthCardSaid : Prop := Claim7.holds Tryd.pinned (.plain (OpenSpec.ofChange fieldEarthSpec)) fieldEarthCard

/-- THE TIED CARD OF 'alidadelaw10.FieldSky'. -/
def fieldSkyCard : Claim7 := { stood := { row := fieldSkyRow, standIns := [], harness := (true, "118c6152d63dbe7b97955535cf7ad78ed81b927fc94420a1c9f20930de370d81"), looks := false }, kinds := [], alts := [], laidByText := true, laidKinds := [.data, .data], laidTests := true, laidLooks := .later }
def FieldSkyCardSaid : Prop := Claim7.holds Tryd.pinned (.plain (OpenSpec.ofChange fieldSkySpec)) fieldSkyCard

/-- THE TIED CARD OF 'alidadelaw10.FieldThere'. -/
def fieldThereCard : Claim7 := { stood := { row := fieldThereRow, standIns := [], harness := (true, "118c6152d63dbe7b97955535cf7ad78ed81b927fc94420a1c9f20930de370d81"), looks := false }, kinds := [], alts := [], laidByText := true, laidKinds := [.data, .data], laidTests := true, laidLooks := .later }
def FieldThereCardSaid : Prop := Claim7.holds Tryd.pinned (.plain (OpenSpec.ofChange fieldThereSpec)) fieldThereCard

/-- THE TIED CARD OF 'alidadelaw10.FieldPole'. -/
def fieldPoleCard : Claim7 := { stood := { row := fieldPoleRow, standIns := [], harness := (true, "118c6152d63dbe7b97955535cf7ad78ed81b927fc94420a1c9f20930de370d81"), looks := false }, kinds := [], alts := [], laidByText := true, laidKinds := [.data, .data], laidTests := true, laidLooks := .later }
def FieldPoleCardSaid : Prop := Claim7.holds Tryd.pinned (.plain (OpenSpec.ofChange fieldPoleSpec)) fieldPoleCard

/-- THE SECOND FORM's CARD OF 'alidadelaw10.FieldNumbers'. -/
def fieldNumbersUptoCard : Claim7 := { stood := { row := fieldNumbersUptoRow, standIns := [], harness := (true, "118c6152d63dbe7b97955535cf7ad78ed81b927fc94420a1c9f20930de370d81"), looks := false }, kinds := [], alts := [], laidByText := true, laidKinds := [.data, .data], laidTests := true, laidLooks := .later }
def FieldNumbersUptoCardSaid : Prop := Claim7.holds Tryd.pinned (.plain (OpenSpec.upto fieldNumbersSpec)) fieldNumbersUptoCard

/-- THE SECOND FORM's CARD OF 'alidadelaw10.FieldEarth'. -/
def fieldEarthUptoCard : Claim7 := { stood := { row := fieldEarthUptoRow, standIns := [], harness := (true, "118c6152d63dbe7b97955535cf7ad78ed81b927fc94420a1c9f20930de370d81"), looks := false }, kinds := [], alts := [], laidByText := true, laidKinds := [.data, .data], laidTests := true, laidLooks := .later }
def FieldEarthUptoCardSaid : Prop := Claim7.holds Tryd.pinned (.plain (OpenSpec.upto fieldEarthSpec)) fieldEarthUptoCard

/-- THE SECOND FORM's CARD OF 'alidadelaw10.FieldSky'. -/
def fieldSkyUptoCard : Claim7 := { stood := { row := fieldSkyUptoRow, standIns := [], harness := (true, "118c6152d63dbe7b97955535cf7ad78ed81b927fc94420a1c9f20930de370d81"), looks := false }, kinds := [], alts := [], laidByText := true, laidKinds := [.data, .data], laidTests := true, laidLooks := .later }
def FieldSkyUptoCardSaid : Prop := Claim7.holds Tryd.pinned (.plain (OpenSpec.upto fieldSkySpec)) fieldSkyUptoCard

/-- THE SECOND FORM's CARD OF 'alidadelaw10.FieldThere'. -/
def fieldThereUptoCard : Claim7 := { stood := { row := fieldThereUptoRow, standIns := [], harness := (true, "118c6152d63dbe7b97955535cf7ad78ed81b927fc94420a1c9f20930de370d81"), looks := false }, kinds := [], alts := [], laidByText := true, laidKinds := [.data, .data], laidTests := true, laidLooks := .later }
def FieldThereUptoCardSaid : Prop := Claim7.holds Tryd.pinned (.plain (OpenSpec.upto fieldThereSpec)) fieldThereUptoCard

/-- THE SECOND FORM's CARD OF 'alidadelaw10.FieldPole'. -/
def fieldPoleUptoCard : Claim7 := { stood := { row := fieldPoleUptoRow, standIns := [], harness := (true, "118c6152d63dbe7b97955535cf7ad78ed81b927fc94420a1c9f20930de370d81"), looks := false }, kinds := [], alts := [], laidByText := true, laidKinds := [.data, .data], laidTests := true, laidLooks := .later }
def FieldPoleUptoCardSaid : Prop := Claim7.holds Tryd.pinned (.plain (OpenSpec.upto fieldPoleSpec)) fieldPoleUptoCard
end Rows
end Go.Proofs.YtmhcfkcpoecokaaDoor
