/-
  No cell of these rows narrows 'for every input' (looked for: loops, veiled, ifaces, maps, wideKeys, modest, calm, conditions, laid).
  DERIVED. THE GIVEN ROWS OF THIS SEAT. 4 by the template 'for every input the law returns true; each argument reads behind the call as it read before'; 0 by the template 'total and deterministic' (their statements: YtibjmmlnkgapeaaTotals.lean).
  GIVEN WITH THE SEED: the statements are not yours to turn. If you find one false, say at which input.
  Laid BY PROGRAM, IN A SANDBOX (cutbox-rows.mjs): the forced cells as the released guide's own fill.sh prints them over the translation f07c378835d7af56… (all of the seat's roots in one cut). By AI agents, Wed Nov 11 2026. No macro, syntax, notation, axiom, sorry.
-/
import Derived.Test.YtibjmmlnkgapeaaChecked
import GoSem.Claim
import GoSem.ClaimJoined
import GoSem.ClaimMapViews
import Derived.JoinedTies
import Derived.KernelRfl
namespace Go.Proofs.Ytibjmmlnkgapeaa
/- THE CELL 'sum', in the pinned program and in every row, IS THE sha256 OF THE DUMP (.gsa) THAT YtibjmmlnkgapeaaProg.lean LOADS. Nothing in Lean hashes anything: it is a label: what it is worth is what the hold of that sum in a sandbox is worth. -/
noncomputable def Try.pinned : Pinned := { name := "ytibjmmlnkgapeaa", sum := "f07c378835d7af567b94fe83aafe866baed97f0a132bd81289c519ef9ac0b221", checked := Try.checked }
namespace Rows
def none {H : Type} : Left H := { results := [], args := [] }

/-- 'alidadelaw13.BdotSteps': WHATEVER THE INPUT: true; the input reads as it did. -/
def bdotStepsSpec : ChangeSpec := { name := "bdotSteps", fn := fun _ => fun
  | [d1, d2, d3] => { results := [.lit (.bool true)], args := [d1, d2, d3] }
  | _ => none }
def bdotStepsRow : OpenClaim := { program := "ytibjmmlnkgapeaa", sum := "f07c378835d7af567b94fe83aafe866baed97f0a132bd81289c519ef9ac0b221", func := "alidade/alidadelaw13.BdotSteps", spec := "bdotSteps", apart := false }
def BdotStepsSaid : Prop := bdotStepsRow.holds Try.pinned (OpenSpec.ofChange bdotStepsSpec)

/-- ITS FALSE NEIGHBOUR: 'it returns false'. Refute it at one input. -/
def bdotStepsWrong : ChangeSpec := { name := "bdotSteps", fn := fun _ => fun
  | [d1, d2, d3] => { results := [.lit (.bool false)], args := [d1, d2, d3] }
  | _ => none }
def BdotStepsWrongFalsely : Prop := bdotStepsRow.holds Try.pinned (OpenSpec.ofChange bdotStepsWrong)

/-- 'alidadelaw13.BdotDipole': WHATEVER THE INPUT: true; the input reads as it did. -/
def bdotDipoleSpec : ChangeSpec := { name := "bdotDipole", fn := fun _ => fun
  | [d1, d2] => { results := [.lit (.bool true)], args := [d1, d2] }
  | _ => none }
def bdotDipoleRow : OpenClaim := { program := "ytibjmmlnkgapeaa", sum := "f07c378835d7af567b94fe83aafe866baed97f0a132bd81289c519ef9ac0b221", func := "alidade/alidadelaw13.BdotDipole", spec := "bdotDipole", apart := false }
def BdotDipoleSaid : Prop := bdotDipoleRow.holds Try.pinned (OpenSpec.ofChange bdotDipoleSpec)

/-- ITS FALSE NEIGHBOUR: 'it returns false'. Refute it at one input. -/
def bdotDipoleWrong : ChangeSpec := { name := "bdotDipole", fn := fun _ => fun
  | [d1, d2] => { results := [.lit (.bool false)], args := [d1, d2] }
  | _ => none }
def BdotDipoleWrongFalsely : Prop := bdotDipoleRow.holds Try.pinned (OpenSpec.ofChange bdotDipoleWrong)

/-- 'alidadelaw13.BdotAgainst': WHATEVER THE INPUT: true; the input reads as it did. -/
def bdotAgainstSpec : ChangeSpec := { name := "bdotAgainst", fn := fun _ => fun
  | [d] => { results := [.lit (.bool true)], args := [d] }
  | _ => none }
def bdotAgainstRow : OpenClaim := { program := "ytibjmmlnkgapeaa", sum := "f07c378835d7af567b94fe83aafe866baed97f0a132bd81289c519ef9ac0b221", func := "alidade/alidadelaw13.BdotAgainst", spec := "bdotAgainst", apart := false }
def BdotAgainstSaid : Prop := bdotAgainstRow.holds Try.pinned (OpenSpec.ofChange bdotAgainstSpec)

/-- ITS FALSE NEIGHBOUR: 'it returns false'. Refute it at one input. -/
def bdotAgainstWrong : ChangeSpec := { name := "bdotAgainst", fn := fun _ => fun
  | [d] => { results := [.lit (.bool false)], args := [d] }
  | _ => none }
def BdotAgainstWrongFalsely : Prop := bdotAgainstRow.holds Try.pinned (OpenSpec.ofChange bdotAgainstWrong)

/-- 'alidadelaw13.BdotHolds': WHATEVER THE INPUT: true; the input reads as it did. -/
def bdotHoldsSpec : ChangeSpec := { name := "bdotHolds", fn := fun _ => fun
  | [d1, d2] => { results := [.lit (.bool true)], args := [d1, d2] }
  | _ => none }
def bdotHoldsRow : OpenClaim := { program := "ytibjmmlnkgapeaa", sum := "f07c378835d7af567b94fe83aafe866baed97f0a132bd81289c519ef9ac0b221", func := "alidade/alidadelaw13.BdotHolds", spec := "bdotHolds", apart := false }
def BdotHoldsSaid : Prop := bdotHoldsRow.holds Try.pinned (OpenSpec.ofChange bdotHoldsSpec)

/-- ITS FALSE NEIGHBOUR: 'it returns false'. Refute it at one input. -/
def bdotHoldsWrong : ChangeSpec := { name := "bdotHolds", fn := fun _ => fun
  | [d1, d2] => { results := [.lit (.bool false)], args := [d1, d2] }
  | _ => none }
def BdotHoldsWrongFalsely : Prop := bdotHoldsRow.holds Try.pinned (OpenSpec.ofChange bdotHoldsWrong)

/- THE SECOND FORM. 'bulk': how many values and letters a reading holds, each counted each time it is reached (what is shared counts as often as it is met; a slice's spare places count too). A statement '..UptoSaid' is the law's where the arguments, and the package variables that the reading takes, are together of bulk at most 1048576: NARROWER than '..Said'. Prove '..Said' where nothing that the law and all that it calls make is longer than what came in: it says more and counts as full. Else prove '..UptoSaid'. A law counts once. -/
mutual
def uptoBulk {H : Type} : DataW H → Nat
  | .lit (.string bytes) => bytes.length + 1
  | .lit _ => 1
  | .nil => 1
  | .ptr d => uptoBulk d + 1
  | .slice elems spare => uptoBulkAll elems + uptoBulkAll spare + 1
  | .agg parts => uptoBulkAll parts + 1
  | .iface _ d => uptoBulk d + 1
  | .map entries => uptoBulkEntries entries + 1
  | .held _ => 1
def uptoBulkAll {H : Type} : List (DataW H) → Nat
  | [] => 0
  | d :: r => uptoBulk d + uptoBulkAll r
def uptoBulkEntries {H : Type} : List (Lit × DataW H) → Nat
  | [] => 0
  | x :: r => uptoBulkEntry x + uptoBulkEntries r
def uptoBulkEntry {H : Type} : Lit × DataW H → Nat
  | (.string bytes, d) => bytes.length + uptoBulk d + 1
  | (_, d) => uptoBulk d + 1
 end
def uptoSmall : (H : Type) → List (DataW H) → Bool := fun _ ds => decide (uptoBulkAll ds ≤ 1048576)
def OpenSpec.upto (s : _root_.Go.ChangeSpec) : _root_.Go.OpenSpec := { _root_.Go.OpenSpec.ofChange s with cond := some uptoSmall }

/-- 'alidadelaw13.BdotSteps', WHERE WHAT IT READS IS OF BULK AT MOST 1048576: true; the input reads as it did. -/
def bdotStepsUptoRow : OpenClaim := { program := "ytibjmmlnkgapeaa", sum := "f07c378835d7af567b94fe83aafe866baed97f0a132bd81289c519ef9ac0b221", func := "alidade/alidadelaw13.BdotSteps", spec := "bdotSteps", apart := false, narrowed := true }
def BdotStepsUptoSaid : Prop := bdotStepsUptoRow.holds Try.pinned (OpenSpec.upto bdotStepsSpec)

/-- 'alidadelaw13.BdotDipole', WHERE WHAT IT READS IS OF BULK AT MOST 1048576: true; the input reads as it did. -/
def bdotDipoleUptoRow : OpenClaim := { program := "ytibjmmlnkgapeaa", sum := "f07c378835d7af567b94fe83aafe866baed97f0a132bd81289c519ef9ac0b221", func := "alidade/alidadelaw13.BdotDipole", spec := "bdotDipole", apart := false, narrowed := true }
def BdotDipoleUptoSaid : Prop := bdotDipoleUptoRow.holds Try.pinned (OpenSpec.upto bdotDipoleSpec)

/-- 'alidadelaw13.BdotAgainst', WHERE WHAT IT READS IS OF BULK AT MOST 1048576: true; the input reads as it did. -/
def bdotAgainstUptoRow : OpenClaim := { program := "ytibjmmlnkgapeaa", sum := "f07c378835d7af567b94fe83aafe866baed97f0a132bd81289c519ef9ac0b221", func := "alidade/alidadelaw13.BdotAgainst", spec := "bdotAgainst", apart := false, narrowed := true }
def BdotAgainstUptoSaid : Prop := bdotAgainstUptoRow.holds Try.pinned (OpenSpec.upto bdotAgainstSpec)

/-- 'alidadelaw13.BdotHolds', WHERE WHAT IT READS IS OF BULK AT MOST 1048576: true; the input reads as it did. -/
def bdotHoldsUptoRow : OpenClaim := { program := "ytibjmmlnkgapeaa", sum := "f07c378835d7af567b94fe83aafe866baed97f0a132bd81289c519ef9ac0b221", func := "alidade/alidadelaw13.BdotHolds", spec := "bdotHolds", apart := false, narrowed := true }
def BdotHoldsUptoSaid : Prop := bdotHoldsUptoRow.holds Try.pinned (OpenSpec.upto bdotHoldsSpec)

end Rows
end Go.Proofs.Ytibjmmlnkgapeaa
