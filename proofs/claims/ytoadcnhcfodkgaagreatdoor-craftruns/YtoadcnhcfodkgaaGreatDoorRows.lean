/-
  NARROWER THAN 'FOR EVERY INPUT', by the rows' own cells (each row's printed sentence says how): CraftRuns: laid.
  DERIVED. THE GIVEN ROWS OF THIS SEAT. 1 by the template 'for every input the law returns true; each argument reads behind the call as it read before'; 0 by the template 'total and deterministic' (their statements: YtoadcnhcfodkgaaGreatDoorTotals.lean).
  GIVEN WITH THE SEED: the statements are not yours to turn. If you find one false, say at which input.
  Laid BY PROGRAM, IN A SANDBOX (cutbox-rows.mjs): the forced cells as the released guide's own fill.sh prints them over the translation e7fc23519b1196e3… (all of the seat's roots in one cut). By AI agents, Wed Nov 11 2026. No macro, syntax, notation, axiom, sorry.
-/
import Derived.Test.YtoadcnhcfodkgaaGreatDoorChecked
import GoSem.Claim
import GoSem.ClaimJoined
import GoSem.ClaimMapViews
import Derived.JoinedTies
import Derived.KernelRfl
namespace Go.Proofs.YtoadcnhcfodkgaaGreatDoor
/- THE CELL 'sum', in the pinned program and in every row, IS THE sha256 OF THE DUMP (.gsa) THAT YtoadcnhcfodkgaaGreatDoorProg.lean LOADS. Nothing in Lean hashes anything: it is a label: what it is worth is what the hold of that sum in a sandbox is worth. -/
noncomputable def Tryz.pinned : Pinned := { name := "ytoadcnhcfodkgaagreatdoor", sum := "e7fc23519b1196e334ce4b69eb557f38353f3f526471ab10e71a2f9564588627", checked := Tryz.checked }
namespace Rows
def none {H : Type} : Left H := { results := [], args := [] }

/- WHAT THE LISTED PACKAGE-LEVEL VARIABLES READ AS WHEN THE CALL BEGINS. Each datum BY PROGRAM (the guide's laid-datum.mjs) off the statement by which the dump's own 'gosem.cut.vars' lays the variable. In a bare row this is a premise. The card (YtoadcnhcfodkgaaGreatDoorCards.lean) ties it to the program's text. -/
def laid_alidade_field_atZero {H : Type} : DataW H := .agg [.agg [.lit (.int .i64 (-293500)), .lit (.int .i64 0)], .agg [.lit (.int .i64 (-14103)), .lit (.int .i64 45455)], .agg [.lit (.int .i64 (-25562)), .lit (.int .i64 0)], .agg [.lit (.int .i64 29509), .lit (.int .i64 (-31336))], .agg [.lit (.int .i64 16487), .lit (.int .i64 (-8142))], .agg [.lit (.int .i64 13609), .lit (.int .i64 0)], .agg [.lit (.int .i64 (-24042)), .lit (.int .i64 (-569))], .agg [.lit (.int .i64 12438), .lit (.int .i64 2376)], .agg [.lit (.int .i64 4534), .lit (.int .i64 (-5496))], .agg [.lit (.int .i64 8947), .lit (.int .i64 0)], .agg [.lit (.int .i64 7996), .lit (.int .i64 2786)], .agg [.lit (.int .i64 558), .lit (.int .i64 (-1340))], .agg [.lit (.int .i64 (-2811)), .lit (.int .i64 2120)], .agg [.lit (.int .i64 120), .lit (.int .i64 (-3754))], .agg [.lit (.int .i64 (-2329)), .lit (.int .i64 0)], .agg [.lit (.int .i64 3690), .lit (.int .i64 453)], .agg [.lit (.int .i64 1872), .lit (.int .i64 2200)], .agg [.lit (.int .i64 (-1387)), .lit (.int .i64 (-1229))], .agg [.lit (.int .i64 (-1419)), .lit (.int .i64 429)], .agg [.lit (.int .i64 209), .lit (.int .i64 1062)], .agg [.lit (.int .i64 643), .lit (.int .i64 0)], .agg [.lit (.int .i64 638), .lit (.int .i64 (-184))], .agg [.lit (.int .i64 767), .lit (.int .i64 168)], .agg [.lit (.int .i64 (-1157)), .lit (.int .i64 489)], .agg [.lit (.int .i64 (-409)), .lit (.int .i64 (-598))], .agg [.lit (.int .i64 149), .lit (.int .i64 109)], .agg [.lit (.int .i64 (-608)), .lit (.int .i64 728)]]
def laid_alidade_field_inYear {H : Type} : DataW H := .agg [.agg [.lit (.int .i64 126), .lit (.int .i64 0)], .agg [.lit (.int .i64 100), .lit (.int .i64 (-215))], .agg [.lit (.int .i64 (-112)), .lit (.int .i64 0)], .agg [.lit (.int .i64 (-53)), .lit (.int .i64 (-273))], .agg [.lit (.int .i64 (-83)), .lit (.int .i64 (-111))]]

/-- 'alidadelaw18.CraftRuns': WHATEVER THE INPUT: true; the input reads as it did. -/
def craftRunsSpec : ChangeSpec := { name := "craftRuns", fn := fun _ => fun
  | [d1, d2] => { results := [.lit (.bool true)], args := [d1, d2] }
  | _ => none }
def craftRunsRow : OpenClaim := { program := "ytoadcnhcfodkgaagreatdoor", sum := "e7fc23519b1196e334ce4b69eb557f38353f3f526471ab10e71a2f9564588627", func := "alidade/alidadelaw18.CraftRuns", spec := "craftRuns", unfollowed := true, recurses := true, named := ["alidade/field.atZero", "alidade/field.inYear"], plainKeys := false, apart := false, laid := [("alidade/field.atZero", laid_alidade_field_atZero), ("alidade/field.inYear", laid_alidade_field_inYear)] }
def CraftRunsSaid : Prop := craftRunsRow.holds Tryz.pinned (OpenSpec.ofChange craftRunsSpec)

/-- ITS FALSE NEIGHBOUR: 'it returns false'. Refute it at one input. -/
def craftRunsWrong : ChangeSpec := { name := "craftRuns", fn := fun _ => fun
  | [d1, d2] => { results := [.lit (.bool false)], args := [d1, d2] }
  | _ => none }
def CraftRunsWrongFalsely : Prop := craftRunsRow.holds Tryz.pinned (OpenSpec.ofChange craftRunsWrong)

/- THE SECOND FORM. 'bulk': how many values and letters a reading holds, each counted each time it is reached (what is shared counts as often as it is met; a slice's spare places count too). A statement '..UptoSaid' is the law's where the arguments, and the package variables that the reading takes, are together of bulk at most 1048576: NARROWER than '..Said'. Prove '..Said' where nothing that the law and all that it calls make is longer than what came in: it says more and counts as full. Else prove '..UptoSaid'. A law counts once. -/
mutual
def uptoBulk {H : Type} : DataW H → Nat
  | .lit (.string bytes) => bytes.length + 1
  | .lit _ => 1
  | .nil => 1
  | .ptr d => uptoBulk d + 1
  | .slice elems spare => uptoBulkAll elems + uptoBulkAll spare + 1
  | .agg parts => uptoBulkAll parts + 1
  | .iface _ d => uptoBulk d + 1
  | .map entries => uptoBulkEntries entries + 1
  | .held _ => 1
def uptoBulkAll {H : Type} : List (DataW H) → Nat
  | [] => 0
  | d :: r => uptoBulk d + uptoBulkAll r
def uptoBulkEntries {H : Type} : List (Lit × DataW H) → Nat
  | [] => 0
  | x :: r => uptoBulkEntry x + uptoBulkEntries r
def uptoBulkEntry {H : Type} : Lit × DataW H → Nat
  | (.string bytes, d) => bytes.length + uptoBulk d + 1
  | (_, d) => uptoBulk d + 1
 end
def uptoSmall : (H : Type) → List (DataW H) → Bool := fun _ ds => decide (uptoBulkAll ds ≤ 1048576)
def OpenSpec.upto (s : _root_.Go.ChangeSpec) : _root_.Go.OpenSpec := { _root_.Go.OpenSpec.ofChange s with cond := some uptoSmall }

/-- 'alidadelaw18.CraftRuns', WHERE WHAT IT READS IS OF BULK AT MOST 1048576: true; the input reads as it did. -/
def craftRunsUptoRow : OpenClaim := { program := "ytoadcnhcfodkgaagreatdoor", sum := "e7fc23519b1196e334ce4b69eb557f38353f3f526471ab10e71a2f9564588627", func := "alidade/alidadelaw18.CraftRuns", spec := "craftRuns", unfollowed := true, recurses := true, named := ["alidade/field.atZero", "alidade/field.inYear"], plainKeys := false, apart := false, laid := [("alidade/field.atZero", laid_alidade_field_atZero), ("alidade/field.inYear", laid_alidade_field_inYear)], narrowed := true }
def CraftRunsUptoSaid : Prop := craftRunsUptoRow.holds Tryz.pinned (OpenSpec.upto craftRunsSpec)

end Rows
end Go.Proofs.YtoadcnhcfodkgaaGreatDoor
