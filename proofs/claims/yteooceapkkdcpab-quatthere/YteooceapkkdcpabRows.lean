/-
  No cell of these rows narrows 'for every input' (looked for: loops, veiled, ifaces, maps, wideKeys, modest, calm, conditions, laid).
  DERIVED. THE GIVEN ROWS OF THIS SEAT. 2 by the template 'for every input the law returns true; each argument reads behind the call as it read before'; 0 by the template 'total and deterministic' (their statements: YteooceapkkdcpabTotals.lean).
  GIVEN WITH THE SEED: the statements are not yours to turn. If you find one false, say at which input.
  Laid BY PROGRAM, IN A SANDBOX (cutbox-rows.mjs): the forced cells as the released guide's own fill.sh prints them over the translation e04689f5e85feed3… (all of the seat's roots in one cut). By AI agents, Wed Nov 11 2026. No macro, syntax, notation, axiom, sorry.
-/
import Derived.Test.YteooceapkkdcpabChecked
import GoSem.Claim
import GoSem.ClaimJoined
import GoSem.ClaimMapViews
import Derived.JoinedTies
import Derived.KernelRfl
namespace Go.Proofs.Yteooceapkkdcpab
/- THE CELL 'sum', in the pinned program and in every row, IS THE sha256 OF THE DUMP (.gsa) THAT YteooceapkkdcpabProg.lean LOADS. Nothing in Lean hashes anything: it is a label: what it is worth is what the hold of that sum in a sandbox is worth. -/
noncomputable def Try.pinned : Pinned := { name := "yteooceapkkdcpab", sum := "e04689f5e85feed30124006451f96f5895eee5e48b3f8a066342c2ec9417cda1", checked := Try.checked }
namespace Rows
def none {H : Type} : Left H := { results := [], args := [] }

/-- 'alidadelaw04.QuatAfter': WHATEVER THE INPUT: true; the input reads as it did. -/
def quatAfterSpec : ChangeSpec := { name := "quatAfter", fn := fun _ => fun
  | [d1, d2, d3] => { results := [.lit (.bool true)], args := [d1, d2, d3] }
  | _ => none }
def quatAfterRow : OpenClaim := { program := "yteooceapkkdcpab", sum := "e04689f5e85feed30124006451f96f5895eee5e48b3f8a066342c2ec9417cda1", func := "alidade/alidadelaw04.QuatAfter", spec := "quatAfter", apart := false }
def QuatAfterSaid : Prop := quatAfterRow.holds Try.pinned (OpenSpec.ofChange quatAfterSpec)

/-- ITS FALSE NEIGHBOUR: 'it returns false'. Refute it at one input. -/
def quatAfterWrong : ChangeSpec := { name := "quatAfter", fn := fun _ => fun
  | [d1, d2, d3] => { results := [.lit (.bool false)], args := [d1, d2, d3] }
  | _ => none }
def QuatAfterWrongFalsely : Prop := quatAfterRow.holds Try.pinned (OpenSpec.ofChange quatAfterWrong)

/-- 'alidadelaw04.QuatThere': WHATEVER THE INPUT: true; the input reads as it did. -/
def quatThereSpec : ChangeSpec := { name := "quatThere", fn := fun _ => fun
  | [d1, d2] => { results := [.lit (.bool true)], args := [d1, d2] }
  | _ => none }
def quatThereRow : OpenClaim := { program := "yteooceapkkdcpab", sum := "e04689f5e85feed30124006451f96f5895eee5e48b3f8a066342c2ec9417cda1", func := "alidade/alidadelaw04.QuatThere", spec := "quatThere", apart := false }
def QuatThereSaid : Prop := quatThereRow.holds Try.pinned (OpenSpec.ofChange quatThereSpec)

/-- ITS FALSE NEIGHBOUR: 'it returns false'. Refute it at one input. -/
def quatThereWrong : ChangeSpec := { name := "quatThere", fn := fun _ => fun
  | [d1, d2] => { results := [.lit (.bool false)], args := [d1, d2] }
  | _ => none }
def QuatThereWrongFalsely : Prop := quatThereRow.holds Try.pinned (OpenSpec.ofChange quatThereWrong)

/- THE SECOND FORM. 'bulk': how many values and letters a reading holds, each counted each time it is reached (what is shared counts as often as it is met; a slice's spare places count too). A statement '..UptoSaid' is the law's where the arguments, and the package variables that the reading takes, are together of bulk at most 1048576: NARROWER than '..Said'. Prove '..Said' where nothing that the law and all that it calls make is longer than what came in: it says more and counts as full. Else prove '..UptoSaid'. A law counts once. -/
mutual
def uptoBulk {H : Type} : DataW H → Nat
  | .lit (.string bytes) => bytes.length + 1
  | .lit _ => 1
  | .nil => 1
  | .ptr d => uptoBulk d + 1
  | .slice elems spare => uptoBulkAll elems + uptoBulkAll spare + 1
  | .agg parts => uptoBulkAll parts + 1
  | .iface _ d => uptoBulk d + 1
  | .map entries => uptoBulkEntries entries + 1
  | .held _ => 1
def uptoBulkAll {H : Type} : List (DataW H) → Nat
  | [] => 0
  | d :: r => uptoBulk d + uptoBulkAll r
def uptoBulkEntries {H : Type} : List (Lit × DataW H) → Nat
  | [] => 0
  | x :: r => uptoBulkEntry x + uptoBulkEntries r
def uptoBulkEntry {H : Type} : Lit × DataW H → Nat
  | (.string bytes, d) => bytes.length + uptoBulk d + 1
  | (_, d) => uptoBulk d + 1
 end
def uptoSmall : (H : Type) → List (DataW H) → Bool := fun _ ds => decide (uptoBulkAll ds ≤ 1048576)
def OpenSpec.upto (s : _root_.Go.ChangeSpec) : _root_.Go.OpenSpec := { _root_.Go.OpenSpec.ofChange s with cond := some uptoSmall }

/-- 'alidadelaw04.QuatAfter', WHERE WHAT IT READS IS OF BULK AT MOST 1048576: true; the input reads as it did. -/
def quatAfterUptoRow : OpenClaim := { program := "yteooceapkkdcpab", sum := "e04689f5e85feed30124006451f96f5895eee5e48b3f8a066342c2ec9417cda1", func := "alidade/alidadelaw04.QuatAfter", spec := "quatAfter", apart := false, narrowed := true }
def QuatAfterUptoSaid : Prop := quatAfterUptoRow.holds Try.pinned (OpenSpec.upto quatAfterSpec)

/-- 'alidadelaw04.QuatThere', WHERE WHAT IT READS IS OF BULK AT MOST 1048576: true; the input reads as it did. -/
def quatThereUptoRow : OpenClaim := { program := "yteooceapkkdcpab", sum := "e04689f5e85feed30124006451f96f5895eee5e48b3f8a066342c2ec9417cda1", func := "alidade/alidadelaw04.QuatThere", spec := "quatThere", apart := false, narrowed := true }
def QuatThereUptoSaid : Prop := quatThereUptoRow.holds Try.pinned (OpenSpec.upto quatThereSpec)

end Rows
end Go.Proofs.Yteooceapkkdcpab
