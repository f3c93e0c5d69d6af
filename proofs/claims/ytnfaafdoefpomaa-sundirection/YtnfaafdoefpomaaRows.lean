/-
  No cell of these rows narrows 'for every input' (looked for: loops, veiled, ifaces, maps, wideKeys, modest, calm, conditions, laid).
  DERIVED. THE GIVEN ROWS OF THIS SEAT. 4 by the template 'for every input the law returns true; each argument reads behind the call as it read before'; 0 by the template 'total and deterministic' (their statements: YtnfaafdoefpomaaTotals.lean).
  GIVEN WITH THE SEED: the statements are not yours to turn. If you find one false, say at which input.
  Laid BY PROGRAM, IN A SANDBOX (cutbox-rows.mjs): the forced cells as the released guide's own fill.sh prints them over the translation ac1991f3e49c2416… (all of the seat's roots in one cut). By AI agents, Wed Nov 11 2026. No macro, syntax, notation, axiom, sorry.
-/
import Derived.Test.YtnfaafdoefpomaaChecked
import GoSem.Claim
import GoSem.ClaimJoined
import GoSem.ClaimMapViews
import Derived.JoinedTies
import Derived.KernelRfl
namespace Go.Proofs.Ytnfaafdoefpomaa
/- THE CELL 'sum', in the pinned program and in every row, IS THE sha256 OF THE DUMP (.gsa) THAT YtnfaafdoefpomaaProg.lean LOADS. Nothing in Lean hashes anything: it is a label: what it is worth is what the hold of that sum in a sandbox is worth. -/
noncomputable def Try.pinned : Pinned := { name := "ytnfaafdoefpomaa", sum := "ac1991f3e49c24161be8ec1bbcfb09363a5a5ae5a4b1e2182d8ce2df9e09cc02", checked := Try.checked }
namespace Rows
def none {H : Type} : Left H := { results := [], args := [] }

/-- 'alidadelaw09.SunDirection': WHATEVER THE INPUT: true; the input reads as it did. -/
def sunDirectionSpec : ChangeSpec := { name := "sunDirection", fn := fun _ => fun
  | [d1, d2] => { results := [.lit (.bool true)], args := [d1, d2] }
  | _ => none }
def sunDirectionRow : OpenClaim := { program := "ytnfaafdoefpomaa", sum := "ac1991f3e49c24161be8ec1bbcfb09363a5a5ae5a4b1e2182d8ce2df9e09cc02", func := "alidade/alidadelaw09.SunDirection", spec := "sunDirection", apart := false }
def SunDirectionSaid : Prop := sunDirectionRow.holds Try.pinned (OpenSpec.ofChange sunDirectionSpec)

/-- ITS FALSE NEIGHBOUR: 'it returns false'. Refute it at one input. -/
def sunDirectionWrong : ChangeSpec := { name := "sunDirection", fn := fun _ => fun
  | [d1, d2] => { results := [.lit (.bool false)], args := [d1, d2] }
  | _ => none }
def SunDirectionWrongFalsely : Prop := sunDirectionRow.holds Try.pinned (OpenSpec.ofChange sunDirectionWrong)

/-- 'alidadelaw09.SunShaded': WHATEVER THE INPUT: true; the input reads as it did. -/
def sunShadedSpec : ChangeSpec := { name := "sunShaded", fn := fun _ => fun
  | [d1, d2, d3] => { results := [.lit (.bool true)], args := [d1, d2, d3] }
  | _ => none }
def sunShadedRow : OpenClaim := { program := "ytnfaafdoefpomaa", sum := "ac1991f3e49c24161be8ec1bbcfb09363a5a5ae5a4b1e2182d8ce2df9e09cc02", func := "alidade/alidadelaw09.SunShaded", spec := "sunShaded", apart := false }
def SunShadedSaid : Prop := sunShadedRow.holds Try.pinned (OpenSpec.ofChange sunShadedSpec)

/-- ITS FALSE NEIGHBOUR: 'it returns false'. Refute it at one input. -/
def sunShadedWrong : ChangeSpec := { name := "sunShaded", fn := fun _ => fun
  | [d1, d2, d3] => { results := [.lit (.bool false)], args := [d1, d2, d3] }
  | _ => none }
def SunShadedWrongFalsely : Prop := sunShadedRow.holds Try.pinned (OpenSpec.ofChange sunShadedWrong)

/-- 'alidadelaw09.SunOne': WHATEVER THE INPUT: true; the input reads as it did. -/
def sunOneSpec : ChangeSpec := { name := "sunOne", fn := fun _ => fun
  | [d] => { results := [.lit (.bool true)], args := [d] }
  | _ => none }
def sunOneRow : OpenClaim := { program := "ytnfaafdoefpomaa", sum := "ac1991f3e49c24161be8ec1bbcfb09363a5a5ae5a4b1e2182d8ce2df9e09cc02", func := "alidade/alidadelaw09.SunOne", spec := "sunOne", apart := false }
def SunOneSaid : Prop := sunOneRow.holds Try.pinned (OpenSpec.ofChange sunOneSpec)

/-- ITS FALSE NEIGHBOUR: 'it returns false'. Refute it at one input. -/
def sunOneWrong : ChangeSpec := { name := "sunOne", fn := fun _ => fun
  | [d] => { results := [.lit (.bool false)], args := [d] }
  | _ => none }
def SunOneWrongFalsely : Prop := sunOneRow.holds Try.pinned (OpenSpec.ofChange sunOneWrong)

/-- 'alidadelaw09.SunSides': WHATEVER THE INPUT: true; the input reads as it did. -/
def sunSidesSpec : ChangeSpec := { name := "sunSides", fn := fun _ => fun
  | [d1, d2, d3] => { results := [.lit (.bool true)], args := [d1, d2, d3] }
  | _ => none }
def sunSidesRow : OpenClaim := { program := "ytnfaafdoefpomaa", sum := "ac1991f3e49c24161be8ec1bbcfb09363a5a5ae5a4b1e2182d8ce2df9e09cc02", func := "alidade/alidadelaw09.SunSides", spec := "sunSides", apart := false }
def SunSidesSaid : Prop := sunSidesRow.holds Try.pinned (OpenSpec.ofChange sunSidesSpec)

/-- ITS FALSE NEIGHBOUR: 'it returns false'. Refute it at one input. -/
def sunSidesWrong : ChangeSpec := { name := "sunSides", fn := fun _ => fun
  | [d1, d2, d3] => { results := [.lit (.bool false)], args := [d1, d2, d3] }
  | _ => none }
def SunSidesWrongFalsely : Prop := sunSidesRow.holds Try.pinned (OpenSpec.ofChange sunSidesWrong)

/- THE SECOND FORM. 'bulk': how many values and letters a reading holds, each counted each time it is reached (what is shared counts as often as it is met; a slice's spare places count too). A statement '..UptoSaid' is the law's where the arguments, and the package variables that the reading takes, are together of bulk at most 1048576: NARROWER than '..Said'. Prove '..Said' where nothing that the law and all that it calls make is longer than what came in: it says more and counts as full. Else prove '..UptoSaid'. A law counts once. -/
mutual
def uptoBulk {H : Type} : DataW H → Nat
  | .lit (.string bytes) => bytes.length + 1
  | .lit _ => 1
  | .nil => 1
  | .ptr d => uptoBulk d + 1
  | .slice elems spare => uptoBulkAll elems + uptoBulkAll spare + 1
  | .agg parts => uptoBulkAll parts + 1
  | .iface _ d => uptoBulk d + 1
  | .map entries => uptoBulkEntries entries + 1
  | .held _ => 1
def uptoBulkAll {H : Type} : List (DataW H) → Nat
  | [] => 0
  | d :: r => uptoBulk d + uptoBulkAll r
def uptoBulkEntries {H : Type} : List (Lit × DataW H) → Nat
  | [] => 0
  | x :: r => uptoBulkEntry x + uptoBulkEntries r
def uptoBulkEntry {H : Type} : Lit × DataW H → Nat
  | (.string bytes, d) => bytes.length + uptoBulk d + 1
  | (_, d) => uptoBulk d + 1
 end
def uptoSmall : (H : Type) → List (DataW H) → Bool := fun _ ds => decide (uptoBulkAll ds ≤ 1048576)
def OpenSpec.upto (s : _root_.Go.ChangeSpec) : _root_.Go.OpenSpec := { _root_.Go.OpenSpec.ofChange s with cond := some uptoSmall }

/-- 'alidadelaw09.SunDirection', WHERE WHAT IT READS IS OF BULK AT MOST 1048576: true; the input reads as it did. -/
def sunDirectionUptoRow : OpenClaim := { program := "ytnfaafdoefpomaa", sum := "ac1991f3e49c24161be8ec1bbcfb09363a5a5ae5a4b1e2182d8ce2df9e09cc02", func := "alidade/alidadelaw09.SunDirection", spec := "sunDirection", apart := false, narrowed := true }
def SunDirectionUptoSaid : Prop := sunDirectionUptoRow.holds Try.pinned (OpenSpec.upto sunDirectionSpec)

/-- 'alidadelaw09.SunShaded', WHERE WHAT IT READS IS OF BULK AT MOST 1048576: true; the input reads as it did. -/
def sunShadedUptoRow : OpenClaim := { program := "ytnfaafdoefpomaa", sum := "ac1991f3e49c24161be8ec1bbcfb09363a5a5ae5a4b1e2182d8ce2df9e09cc02", func := "alidade/alidadelaw09.SunShaded", spec := "sunShaded", apart := false, narrowed := true }
def SunShadedUptoSaid : Prop := sunShadedUptoRow.holds Try.pinned (OpenSpec.upto sunShadedSpec)

/-- 'alidadelaw09.SunOne', WHERE WHAT IT READS IS OF BULK AT MOST 1048576: true; the input reads as it did. -/
def sunOneUptoRow : OpenClaim := { program := "ytnfaafdoefpomaa", sum := "ac1991f3e49c24161be8ec1bbcfb09363a5a5ae5a4b1e2182d8ce2df9e09cc02", func := "alidade/alidadelaw09.SunOne", spec := "sunOne", apart := false, narrowed := true }
def SunOneUptoSaid : Prop := sunOneUptoRow.holds Try.pinned (OpenSpec.upto sunOneSpec)

/-- 'alidadelaw09.SunSides', WHERE WHAT IT READS IS OF BULK AT MOST 1048576: true; the input reads as it did. -/
def sunSidesUptoRow : OpenClaim := { program := "ytnfaafdoefpomaa", sum := "ac1991f3e49c24161be8ec1bbcfb09363a5a5ae5a4b1e2182d8ce2df9e09cc02", func := "alidade/alidadelaw09.SunSides", spec := "sunSides", apart := false, narrowed := true }
def SunSidesUptoSaid : Prop := sunSidesUptoRow.holds Try.pinned (OpenSpec.upto sunSidesSpec)

end Rows
end Go.Proofs.Ytnfaafdoefpomaa
