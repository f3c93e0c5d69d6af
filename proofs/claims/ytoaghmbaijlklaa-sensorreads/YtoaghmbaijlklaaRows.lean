/-
  No cell of these rows narrows 'for every input' (looked for: loops, veiled, ifaces, maps, wideKeys, modest, calm, conditions, laid).
  DERIVED. THE GIVEN ROWS OF THIS SEAT. 5 by the template 'for every input the law returns true; each argument reads behind the call as it read before'; 0 by the template 'total and deterministic' (their statements: YtoaghmbaijlklaaTotals.lean).
  GIVEN WITH THE SEED: the statements are not yours to turn. If you find one false, say at which input.
  Laid BY PROGRAM, IN A SANDBOX (cutbox-rows.mjs): the forced cells as the released guide's own fill.sh prints them over the translation 92f35af68aec3df0… (all of the seat's roots in one cut). By AI agents, Wed Nov 11 2026. No macro, syntax, notation, axiom, sorry.
-/
import Derived.Test.YtoaghmbaijlklaaChecked
import GoSem.Claim
import GoSem.ClaimJoined
import GoSem.ClaimMapViews
import Derived.JoinedTies
import Derived.KernelRfl
namespace Go.Proofs.Ytoaghmbaijlklaa
/- THE CELL 'sum', in the pinned program and in every row, IS THE sha256 OF THE DUMP (.gsa) THAT YtoaghmbaijlklaaProg.lean LOADS. Nothing in Lean hashes anything: it is a label: what it is worth is what the hold of that sum in a sandbox is worth. -/
noncomputable def Try.pinned : Pinned := { name := "ytoaghmbaijlklaa", sum := "92f35af68aec3df0c88b2486129709b4fd7649bfcedcf229115295a93b4dca61", checked := Try.checked }
namespace Rows
def none {H : Type} : Left H := { results := [], args := [] }

/-- 'alidadelaw12.SensorReads': WHATEVER THE INPUT: true; the input reads as it did. -/
def sensorReadsSpec : ChangeSpec := { name := "sensorReads", fn := fun _ => fun
  | [d] => { results := [.lit (.bool true)], args := [d] }
  | _ => none }
def sensorReadsRow : OpenClaim := { program := "ytoaghmbaijlklaa", sum := "92f35af68aec3df0c88b2486129709b4fd7649bfcedcf229115295a93b4dca61", func := "alidade/alidadelaw12.SensorReads", spec := "sensorReads", apart := false }
def SensorReadsSaid : Prop := sensorReadsRow.holds Try.pinned (OpenSpec.ofChange sensorReadsSpec)

/-- ITS FALSE NEIGHBOUR: 'it returns false'. Refute it at one input. -/
def sensorReadsWrong : ChangeSpec := { name := "sensorReads", fn := fun _ => fun
  | [d] => { results := [.lit (.bool false)], args := [d] }
  | _ => none }
def SensorReadsWrongFalsely : Prop := sensorReadsRow.holds Try.pinned (OpenSpec.ofChange sensorReadsWrong)

/-- 'alidadelaw12.SensorWrites': WHATEVER THE INPUT: true; the input reads as it did. -/
def sensorWritesSpec : ChangeSpec := { name := "sensorWrites", fn := fun _ => fun
  | [d1, d2, d3] => { results := [.lit (.bool true)], args := [d1, d2, d3] }
  | _ => none }
def sensorWritesRow : OpenClaim := { program := "ytoaghmbaijlklaa", sum := "92f35af68aec3df0c88b2486129709b4fd7649bfcedcf229115295a93b4dca61", func := "alidade/alidadelaw12.SensorWrites", spec := "sensorWrites", apart := false }
def SensorWritesSaid : Prop := sensorWritesRow.holds Try.pinned (OpenSpec.ofChange sensorWritesSpec)

/-- ITS FALSE NEIGHBOUR: 'it returns false'. Refute it at one input. -/
def sensorWritesWrong : ChangeSpec := { name := "sensorWrites", fn := fun _ => fun
  | [d1, d2, d3] => { results := [.lit (.bool false)], args := [d1, d2, d3] }
  | _ => none }
def SensorWritesWrongFalsely : Prop := sensorWritesRow.holds Try.pinned (OpenSpec.ofChange sensorWritesWrong)

/-- 'alidadelaw12.SensorFresh': WHATEVER THE INPUT: true; the input reads as it did. -/
def sensorFreshSpec : ChangeSpec := { name := "sensorFresh", fn := fun _ => fun
  | [d1, d2] => { results := [.lit (.bool true)], args := [d1, d2] }
  | _ => none }
def sensorFreshRow : OpenClaim := { program := "ytoaghmbaijlklaa", sum := "92f35af68aec3df0c88b2486129709b4fd7649bfcedcf229115295a93b4dca61", func := "alidade/alidadelaw12.SensorFresh", spec := "sensorFresh", apart := false }
def SensorFreshSaid : Prop := sensorFreshRow.holds Try.pinned (OpenSpec.ofChange sensorFreshSpec)

/-- ITS FALSE NEIGHBOUR: 'it returns false'. Refute it at one input. -/
def sensorFreshWrong : ChangeSpec := { name := "sensorFresh", fn := fun _ => fun
  | [d1, d2] => { results := [.lit (.bool false)], args := [d1, d2] }
  | _ => none }
def SensorFreshWrongFalsely : Prop := sensorFreshRow.holds Try.pinned (OpenSpec.ofChange sensorFreshWrong)

/-- 'alidadelaw12.SensorBack': WHATEVER THE INPUT: true; the input reads as it did. -/
def sensorBackSpec : ChangeSpec := { name := "sensorBack", fn := fun _ => fun
  | [d1, d2, d3] => { results := [.lit (.bool true)], args := [d1, d2, d3] }
  | _ => none }
def sensorBackRow : OpenClaim := { program := "ytoaghmbaijlklaa", sum := "92f35af68aec3df0c88b2486129709b4fd7649bfcedcf229115295a93b4dca61", func := "alidade/alidadelaw12.SensorBack", spec := "sensorBack", apart := false }
def SensorBackSaid : Prop := sensorBackRow.holds Try.pinned (OpenSpec.ofChange sensorBackSpec)

/-- ITS FALSE NEIGHBOUR: 'it returns false'. Refute it at one input. -/
def sensorBackWrong : ChangeSpec := { name := "sensorBack", fn := fun _ => fun
  | [d1, d2, d3] => { results := [.lit (.bool false)], args := [d1, d2, d3] }
  | _ => none }
def SensorBackWrongFalsely : Prop := sensorBackRow.holds Try.pinned (OpenSpec.ofChange sensorBackWrong)

/-- 'alidadelaw12.SensorLong': WHATEVER THE INPUT: true; the input reads as it did. -/
def sensorLongSpec : ChangeSpec := { name := "sensorLong", fn := fun _ => fun
  | [d] => { results := [.lit (.bool true)], args := [d] }
  | _ => none }
def sensorLongRow : OpenClaim := { program := "ytoaghmbaijlklaa", sum := "92f35af68aec3df0c88b2486129709b4fd7649bfcedcf229115295a93b4dca61", func := "alidade/alidadelaw12.SensorLong", spec := "sensorLong", apart := false }
def SensorLongSaid : Prop := sensorLongRow.holds Try.pinned (OpenSpec.ofChange sensorLongSpec)

/-- ITS FALSE NEIGHBOUR: 'it returns false'. Refute it at one input. -/
def sensorLongWrong : ChangeSpec := { name := "sensorLong", fn := fun _ => fun
  | [d] => { results := [.lit (.bool false)], args := [d] }
  | _ => none }
def SensorLongWrongFalsely : Prop := sensorLongRow.holds Try.pinned (OpenSpec.ofChange sensorLongWrong)

/- THE SECOND FORM. 'bulk': how many values and letters a reading holds, each counted each time it is reached (what is shared counts as often as it is met; a slice's spare places count too). A statement '..UptoSaid' is the law's where the arguments, and the package variables that the reading takes, are together of bulk at most 1048576: NARROWER than '..Said'. Prove '..Said' where nothing that the law and all that it calls make is longer than what came in: it says more and counts as full. Else prove '..UptoSaid'. A law counts once. -/
mutual
def uptoBulk {H : Type} : DataW H → Nat
  | .lit (.string bytes) => bytes.length + 1
  | .lit _ => 1
  | .nil => 1
  | .ptr d => uptoBulk d + 1
  | .slice elems spare => uptoBulkAll elems + uptoBulkAll spare + 1
  | .agg parts => uptoBulkAll parts + 1
  | .iface _ d => uptoBulk d + 1
  | .map entries => uptoBulkEntries entries + 1
  | .held _ => 1
def uptoBulkAll {H : Type} : List (DataW H) → Nat
  | [] => 0
  | d :: r => uptoBulk d + uptoBulkAll r
def uptoBulkEntries {H : Type} : List (Lit × DataW H) → Nat
  | [] => 0
  | x :: r => uptoBulkEntry x + uptoBulkEntries r
def uptoBulkEntry {H : Type} : Lit × DataW H → Nat
  | (.string bytes, d) => bytes.length + uptoBulk d + 1
  | (_, d) => uptoBulk d + 1
 end
def uptoSmall : (H : Type) → List (DataW H) → Bool := fun _ ds => decide (uptoBulkAll ds ≤ 1048576)
def OpenSpec.upto (s : _root_.Go.ChangeSpec) : _root_.Go.OpenSpec := { _root_.Go.OpenSpec.ofChange s with cond := some uptoSmall }

/-- 'alidadelaw12.SensorReads', WHERE WHAT IT READS IS OF BULK AT MOST 1048576: true; the input reads as it did. -/
def sensorReadsUptoRow : OpenClaim := { program := "ytoaghmbaijlklaa", sum := "92f35af68aec3df0c88b2486129709b4fd7649bfcedcf229115295a93b4dca61", func := "alidade/alidadelaw12.SensorReads", spec := "sensorReads", apart := false, narrowed := true }
def SensorReadsUptoSaid : Prop := sensorReadsUptoRow.holds Try.pinned (OpenSpec.upto sensorReadsSpec)

/-- 'alidadelaw12.SensorWrites', WHERE WHAT IT READS IS OF BULK AT MOST 1048576: true; the input reads as it did. -/
def sensorWritesUptoRow : OpenClaim := { program := "ytoaghmbaijlklaa", sum := "92f35af68aec3df0c88b2486129709b4fd7649bfcedcf229115295a93b4dca61", func := "alidade/alidadelaw12.SensorWrites", spec := "sensorWrites", apart := false, narrowed := true }
def SensorWritesUptoSaid : Prop := sensorWritesUptoRow.holds Try.pinned (OpenSpec.upto sensorWritesSpec)

/-- 'alidadelaw12.SensorFresh', WHERE WHAT IT READS IS OF BULK AT MOST 1048576: true; the input reads as it did. -/
def sensorFreshUptoRow : OpenClaim := { program := "ytoaghmbaijlklaa", sum := "92f35af68aec3df0c88b2486129709b4fd7649bfcedcf229115295a93b4dca61", func := "alidade/alidadelaw12.SensorFresh", spec := "sensorFresh", apart := false, narrowed := true }
def SensorFreshUptoSaid : Prop := sensorFreshUptoRow.holds Try.pinned (OpenSpec.upto sensorFreshSpec)

/-- 'alidadelaw12.SensorBack', WHERE WHAT IT READS IS OF BULK AT MOST 1048576: true; the input reads as it did. -/
def sensorBackUptoRow : OpenClaim := { program := "ytoaghmbaijlklaa", sum := "92f35af68aec3df0c88b2486129709b4fd7649bfcedcf229115295a93b4dca61", func := "alidade/alidadelaw12.SensorBack", spec := "sensorBack", apart := false, narrowed := true }
def SensorBackUptoSaid : Prop := sensorBackUptoRow.holds Try.pinned (OpenSpec.upto sensorBackSpec)

/-- 'alidadelaw12.SensorLong', WHERE WHAT IT READS IS OF BULK AT MOST 1048576: true; the input reads as it did. -/
def sensorLongUptoRow : OpenClaim := { program := "ytoaghmbaijlklaa", sum := "92f35af68aec3df0c88b2486129709b4fd7649bfcedcf229115295a93b4dca61", func := "alidade/alidadelaw12.SensorLong", spec := "sensorLong", apart := false, narrowed := true }
def SensorLongUptoSaid : Prop := sensorLongUptoRow.holds Try.pinned (OpenSpec.upto sensorLongSpec)

end Rows
end Go.Proofs.Ytoaghmbaijlklaa
