/-
  No cell of these rows narrows 'for every input' (looked for: loops, veiled, ifaces, maps, wideKeys, modest, calm, conditions, laid).
  DERIVED. THE GIVEN ROWS OF THIS SEAT. 5 by the template 'for every input the law returns true; each argument reads behind the call as it read before'; 0 by the template 'total and deterministic' (their statements: YteooceapkkdcpaaTotals.lean).
  GIVEN WITH THE SEED: the statements are not yours to turn. If you find one false, say at which input.
  Laid BY PROGRAM, IN A SANDBOX (cutbox-rows.mjs): the forced cells as the released guide's own fill.sh prints them over the translation 5d903545d7cbeca0… (all of the seat's roots in one cut). By AI agents, Wed Nov 11 2026. No macro, syntax, notation, axiom, sorry.
-/
import Derived.Test.YteooceapkkdcpaaChecked
import GoSem.Claim
import GoSem.ClaimJoined
import GoSem.ClaimMapViews
import Derived.JoinedTies
import Derived.KernelRfl
namespace Go.Proofs.Yteooceapkkdcpaa
/- THE CELL 'sum', in the pinned program and in every row, IS THE sha256 OF THE DUMP (.gsa) THAT YteooceapkkdcpaaProg.lean LOADS. Nothing in Lean hashes anything: it is a label: what it is worth is what the hold of that sum in a sandbox is worth. -/
noncomputable def Try.pinned : Pinned := { name := "yteooceapkkdcpaa", sum := "5d903545d7cbeca0cf81471d3d02c2f2c25bde834e9be2f84146fcec2dad7bea", checked := Try.checked }
namespace Rows
def none {H : Type} : Left H := { results := [], args := [] }

/-- 'alidadelaw04.QuatMul': WHATEVER THE INPUT: true; the input reads as it did. -/
def quatMulSpec : ChangeSpec := { name := "quatMul", fn := fun _ => fun
  | [d1, d2, d3] => { results := [.lit (.bool true)], args := [d1, d2, d3] }
  | _ => none }
def quatMulRow : OpenClaim := { program := "yteooceapkkdcpaa", sum := "5d903545d7cbeca0cf81471d3d02c2f2c25bde834e9be2f84146fcec2dad7bea", func := "alidade/alidadelaw04.QuatMul", spec := "quatMul", apart := false }
def QuatMulSaid : Prop := quatMulRow.holds Try.pinned (OpenSpec.ofChange quatMulSpec)

/-- ITS FALSE NEIGHBOUR: 'it returns false'. Refute it at one input. -/
def quatMulWrong : ChangeSpec := { name := "quatMul", fn := fun _ => fun
  | [d1, d2, d3] => { results := [.lit (.bool false)], args := [d1, d2, d3] }
  | _ => none }
def QuatMulWrongFalsely : Prop := quatMulRow.holds Try.pinned (OpenSpec.ofChange quatMulWrong)

/-- 'alidadelaw04.QuatUnit': WHATEVER THE INPUT: true; the input reads as it did. -/
def quatUnitSpec : ChangeSpec := { name := "quatUnit", fn := fun _ => fun
  | [d1, d2] => { results := [.lit (.bool true)], args := [d1, d2] }
  | _ => none }
def quatUnitRow : OpenClaim := { program := "yteooceapkkdcpaa", sum := "5d903545d7cbeca0cf81471d3d02c2f2c25bde834e9be2f84146fcec2dad7bea", func := "alidade/alidadelaw04.QuatUnit", spec := "quatUnit", apart := false }
def QuatUnitSaid : Prop := quatUnitRow.holds Try.pinned (OpenSpec.ofChange quatUnitSpec)

/-- ITS FALSE NEIGHBOUR: 'it returns false'. Refute it at one input. -/
def quatUnitWrong : ChangeSpec := { name := "quatUnit", fn := fun _ => fun
  | [d1, d2] => { results := [.lit (.bool false)], args := [d1, d2] }
  | _ => none }
def QuatUnitWrongFalsely : Prop := quatUnitRow.holds Try.pinned (OpenSpec.ofChange quatUnitWrong)

/-- 'alidadelaw04.QuatTurn': WHATEVER THE INPUT: true; the input reads as it did. -/
def quatTurnSpec : ChangeSpec := { name := "quatTurn", fn := fun _ => fun
  | [d1, d2, d3] => { results := [.lit (.bool true)], args := [d1, d2, d3] }
  | _ => none }
def quatTurnRow : OpenClaim := { program := "yteooceapkkdcpaa", sum := "5d903545d7cbeca0cf81471d3d02c2f2c25bde834e9be2f84146fcec2dad7bea", func := "alidade/alidadelaw04.QuatTurn", spec := "quatTurn", apart := false }
def QuatTurnSaid : Prop := quatTurnRow.holds Try.pinned (OpenSpec.ofChange quatTurnSpec)

/-- ITS FALSE NEIGHBOUR: 'it returns false'. Refute it at one input. -/
def quatTurnWrong : ChangeSpec := { name := "quatTurn", fn := fun _ => fun
  | [d1, d2, d3] => { results := [.lit (.bool false)], args := [d1, d2, d3] }
  | _ => none }
def QuatTurnWrongFalsely : Prop := quatTurnRow.holds Try.pinned (OpenSpec.ofChange quatTurnWrong)

/-- 'alidadelaw04.QuatRod': WHATEVER THE INPUT: true; the input reads as it did. -/
def quatRodSpec : ChangeSpec := { name := "quatRod", fn := fun _ => fun
  | [d1, d2, d3] => { results := [.lit (.bool true)], args := [d1, d2, d3] }
  | _ => none }
def quatRodRow : OpenClaim := { program := "yteooceapkkdcpaa", sum := "5d903545d7cbeca0cf81471d3d02c2f2c25bde834e9be2f84146fcec2dad7bea", func := "alidade/alidadelaw04.QuatRod", spec := "quatRod", apart := false }
def QuatRodSaid : Prop := quatRodRow.holds Try.pinned (OpenSpec.ofChange quatRodSpec)

/-- ITS FALSE NEIGHBOUR: 'it returns false'. Refute it at one input. -/
def quatRodWrong : ChangeSpec := { name := "quatRod", fn := fun _ => fun
  | [d1, d2, d3] => { results := [.lit (.bool false)], args := [d1, d2, d3] }
  | _ => none }
def QuatRodWrongFalsely : Prop := quatRodRow.holds Try.pinned (OpenSpec.ofChange quatRodWrong)

/-- 'alidadelaw04.QuatKeeps': WHATEVER THE INPUT: true; the input reads as it did. -/
def quatKeepsSpec : ChangeSpec := { name := "quatKeeps", fn := fun _ => fun
  | [d1, d2] => { results := [.lit (.bool true)], args := [d1, d2] }
  | _ => none }
def quatKeepsRow : OpenClaim := { program := "yteooceapkkdcpaa", sum := "5d903545d7cbeca0cf81471d3d02c2f2c25bde834e9be2f84146fcec2dad7bea", func := "alidade/alidadelaw04.QuatKeeps", spec := "quatKeeps", apart := false }
def QuatKeepsSaid : Prop := quatKeepsRow.holds Try.pinned (OpenSpec.ofChange quatKeepsSpec)

/-- ITS FALSE NEIGHBOUR: 'it returns false'. Refute it at one input. -/
def quatKeepsWrong : ChangeSpec := { name := "quatKeeps", fn := fun _ => fun
  | [d1, d2] => { results := [.lit (.bool false)], args := [d1, d2] }
  | _ => none }
def QuatKeepsWrongFalsely : Prop := quatKeepsRow.holds Try.pinned (OpenSpec.ofChange quatKeepsWrong)

/- THE SECOND FORM. 'bulk': how many values and letters a reading holds, each counted each time it is reached (what is shared counts as often as it is met; a slice's spare places count too). A statement '..UptoSaid' is the law's where the arguments, and the package variables that the reading takes, are together of bulk at most 1048576: NARROWER than '..Said'. Prove '..Said' where nothing that the law and all that it calls make is longer than what came in: it says more and counts as full. Else prove '..UptoSaid'. A law counts once. -/
mutual
def uptoBulk {H : Type} : DataW H → Nat
  | .lit (.string bytes) => bytes.length + 1
  | .lit _ => 1
  | .nil => 1
  | .ptr d => uptoBulk d + 1
  | .slice elems spare => uptoBulkAll elems + uptoBulkAll spare + 1
  | .agg parts => uptoBulkAll parts + 1
  | .iface _ d => uptoBulk d + 1
  | .map entries => uptoBulkEntries entries + 1
  | .held _ => 1
def uptoBulkAll {H : Type} : List (DataW H) → Nat
  | [] => 0
  | d :: r => uptoBulk d + uptoBulkAll r
def uptoBulkEntries {H : Type} : List (Lit × DataW H) → Nat
  | [] => 0
  | x :: r => uptoBulkEntry x + uptoBulkEntries r
def uptoBulkEntry {H : Type} : Lit × DataW H → Nat
  | (.string bytes, d) => bytes.length + uptoBulk d + 1
  | (_, d) => uptoBulk d + 1
 end
def uptoSmall : (H : Type) → List (DataW H) → Bool := fun _ ds => decide (uptoBulkAll ds ≤ 1048576)
def OpenSpec.upto (s : _root_.Go.ChangeSpec) : _root_.Go.OpenSpec := { _root_.Go.OpenSpec.ofChange s with cond := some uptoSmall }

/-- 'alidadelaw04.QuatMul', WHERE WHAT IT READS IS OF BULK AT MOST 1048576: true; the input reads as it did. -/
def quatMulUptoRow : OpenClaim := { program := "yteooceapkkdcpaa", sum := "5d903545d7cbeca0cf81471d3d02c2f2c25bde834e9be2f84146fcec2dad7bea", func := "alidade/alidadelaw04.QuatMul", spec := "quatMul", apart := false, narrowed := true }
def QuatMulUptoSaid : Prop := quatMulUptoRow.holds Try.pinned (OpenSpec.upto quatMulSpec)

/-- 'alidadelaw04.QuatUnit', WHERE WHAT IT READS IS OF BULK AT MOST 1048576: true; the input reads as it did. -/
def quatUnitUptoRow : OpenClaim := { program := "yteooceapkkdcpaa", sum := "5d903545d7cbeca0cf81471d3d02c2f2c25bde834e9be2f84146fcec2dad7bea", func := "alidade/alidadelaw04.QuatUnit", spec := "quatUnit", apart := false, narrowed := true }
def QuatUnitUptoSaid : Prop := quatUnitUptoRow.holds Try.pinned (OpenSpec.upto quatUnitSpec)

/-- 'alidadelaw04.QuatTurn', WHERE WHAT IT READS IS OF BULK AT MOST 1048576: true; the input reads as it did. -/
def quatTurnUptoRow : OpenClaim := { program := "yteooceapkkdcpaa", sum := "5d903545d7cbeca0cf81471d3d02c2f2c25bde834e9be2f84146fcec2dad7bea", func := "alidade/alidadelaw04.QuatTurn", spec := "quatTurn", apart := false, narrowed := true }
def QuatTurnUptoSaid : Prop := quatTurnUptoRow.holds Try.pinned (OpenSpec.upto quatTurnSpec)

/-- 'alidadelaw04.QuatRod', WHERE WHAT IT READS IS OF BULK AT MOST 1048576: true; the input reads as it did. -/
def quatRodUptoRow : OpenClaim := { program := "yteooceapkkdcpaa", sum := "5d903545d7cbeca0cf81471d3d02c2f2c25bde834e9be2f84146fcec2dad7bea", func := "alidade/alidadelaw04.QuatRod", spec := "quatRod", apart := false, narrowed := true }
def QuatRodUptoSaid : Prop := quatRodUptoRow.holds Try.pinned (OpenSpec.upto quatRodSpec)

/-- 'alidadelaw04.QuatKeeps', WHERE WHAT IT READS IS OF BULK AT MOST 1048576: true; the input reads as it did. -/
def quatKeepsUptoRow : OpenClaim := { program := "yteooceapkkdcpaa", sum := "5d903545d7cbeca0cf81471d3d02c2f2c25bde834e9be2f84146fcec2dad7bea", func := "alidade/alidadelaw04.QuatKeeps", spec := "quatKeeps", apart := false, narrowed := true }
def QuatKeepsUptoSaid : Prop := quatKeepsUptoRow.holds Try.pinned (OpenSpec.upto quatKeepsSpec)

end Rows
end Go.Proofs.Yteooceapkkdcpaa
