/-
  No cell of these rows narrows 'for every input' (looked for: loops, veiled, ifaces, maps, wideKeys, modest, calm, conditions, laid).
  DERIVED. THE GIVEN ROWS OF THIS SEAT. 5 by the template 'for every input the law returns true; each argument reads behind the call as it read before'; 0 by the template 'total and deterministic' (their statements: YtcnbcdnjogopdaaTotals.lean).
  GIVEN WITH THE SEED: the statements are not yours to turn. If you find one false, say at which input.
  Laid BY PROGRAM, IN A SANDBOX (cutbox-rows.mjs): the forced cells as the released guide's own fill.sh prints them over the translation 2e0ccfaf5a48ffec… (all of the seat's roots in one cut). By AI agents, Wed Nov 11 2026. No macro, syntax, notation, axiom, sorry.
-/
import Derived.Test.YtcnbcdnjogopdaaChecked
import GoSem.Claim
import GoSem.ClaimJoined
import GoSem.ClaimMapViews
import Derived.JoinedTies
import Derived.KernelRfl
namespace Go.Proofs.Ytcnbcdnjogopdaa
/- THE CELL 'sum', in the pinned program and in every row, IS THE sha256 OF THE DUMP (.gsa) THAT YtcnbcdnjogopdaaProg.lean LOADS. Nothing in Lean hashes anything: it is a label: what it is worth is what the hold of that sum in a sandbox is worth. -/
noncomputable def Try.pinned : Pinned := { name := "ytcnbcdnjogopdaa", sum := "2e0ccfaf5a48ffec46584321652468247702bfe8ad7ef346072fc3b6d3648848", checked := Try.checked }
namespace Rows
def none {H : Type} : Left H := { results := [], args := [] }

/-- 'alidadelaw06.MatRoot': WHATEVER THE INPUT: true; the input reads as it did. -/
def matRootSpec : ChangeSpec := { name := "matRoot", fn := fun _ => fun
  | [d1, d2, d3] => { results := [.lit (.bool true)], args := [d1, d2, d3] }
  | _ => none }
def matRootRow : OpenClaim := { program := "ytcnbcdnjogopdaa", sum := "2e0ccfaf5a48ffec46584321652468247702bfe8ad7ef346072fc3b6d3648848", func := "alidade/alidadelaw06.MatRoot", spec := "matRoot", apart := false }
def MatRootSaid : Prop := matRootRow.holds Try.pinned (OpenSpec.ofChange matRootSpec)

/-- ITS FALSE NEIGHBOUR: 'it returns false'. Refute it at one input. -/
def matRootWrong : ChangeSpec := { name := "matRoot", fn := fun _ => fun
  | [d1, d2, d3] => { results := [.lit (.bool false)], args := [d1, d2, d3] }
  | _ => none }
def MatRootWrongFalsely : Prop := matRootRow.holds Try.pinned (OpenSpec.ofChange matRootWrong)

/-- 'alidadelaw06.MatSolve': WHATEVER THE INPUT: true; the input reads as it did. -/
def matSolveSpec : ChangeSpec := { name := "matSolve", fn := fun _ => fun
  | [d1, d2, d3] => { results := [.lit (.bool true)], args := [d1, d2, d3] }
  | _ => none }
def matSolveRow : OpenClaim := { program := "ytcnbcdnjogopdaa", sum := "2e0ccfaf5a48ffec46584321652468247702bfe8ad7ef346072fc3b6d3648848", func := "alidade/alidadelaw06.MatSolve", spec := "matSolve", apart := false }
def MatSolveSaid : Prop := matSolveRow.holds Try.pinned (OpenSpec.ofChange matSolveSpec)

/-- ITS FALSE NEIGHBOUR: 'it returns false'. Refute it at one input. -/
def matSolveWrong : ChangeSpec := { name := "matSolve", fn := fun _ => fun
  | [d1, d2, d3] => { results := [.lit (.bool false)], args := [d1, d2, d3] }
  | _ => none }
def MatSolveWrongFalsely : Prop := matSolveRow.holds Try.pinned (OpenSpec.ofChange matSolveWrong)

/-- 'alidadelaw06.MatSums': WHATEVER THE INPUT: true; the input reads as it did. -/
def matSumsSpec : ChangeSpec := { name := "matSums", fn := fun _ => fun
  | [d1, d2, d3] => { results := [.lit (.bool true)], args := [d1, d2, d3] }
  | _ => none }
def matSumsRow : OpenClaim := { program := "ytcnbcdnjogopdaa", sum := "2e0ccfaf5a48ffec46584321652468247702bfe8ad7ef346072fc3b6d3648848", func := "alidade/alidadelaw06.MatSums", spec := "matSums", apart := false }
def MatSumsSaid : Prop := matSumsRow.holds Try.pinned (OpenSpec.ofChange matSumsSpec)

/-- ITS FALSE NEIGHBOUR: 'it returns false'. Refute it at one input. -/
def matSumsWrong : ChangeSpec := { name := "matSums", fn := fun _ => fun
  | [d1, d2, d3] => { results := [.lit (.bool false)], args := [d1, d2, d3] }
  | _ => none }
def MatSumsWrongFalsely : Prop := matSumsRow.holds Try.pinned (OpenSpec.ofChange matSumsWrong)

/-- 'alidadelaw06.MatBack': WHATEVER THE INPUT: true; the input reads as it did. -/
def matBackSpec : ChangeSpec := { name := "matBack", fn := fun _ => fun
  | [d1, d2] => { results := [.lit (.bool true)], args := [d1, d2] }
  | _ => none }
def matBackRow : OpenClaim := { program := "ytcnbcdnjogopdaa", sum := "2e0ccfaf5a48ffec46584321652468247702bfe8ad7ef346072fc3b6d3648848", func := "alidade/alidadelaw06.MatBack", spec := "matBack", apart := false }
def MatBackSaid : Prop := matBackRow.holds Try.pinned (OpenSpec.ofChange matBackSpec)

/-- ITS FALSE NEIGHBOUR: 'it returns false'. Refute it at one input. -/
def matBackWrong : ChangeSpec := { name := "matBack", fn := fun _ => fun
  | [d1, d2] => { results := [.lit (.bool false)], args := [d1, d2] }
  | _ => none }
def MatBackWrongFalsely : Prop := matBackRow.holds Try.pinned (OpenSpec.ofChange matBackWrong)

/-- 'alidadelaw06.MatSolved': WHATEVER THE INPUT: true; the input reads as it did. -/
def matSolvedSpec : ChangeSpec := { name := "matSolved", fn := fun _ => fun
  | [d1, d2, d3] => { results := [.lit (.bool true)], args := [d1, d2, d3] }
  | _ => none }
def matSolvedRow : OpenClaim := { program := "ytcnbcdnjogopdaa", sum := "2e0ccfaf5a48ffec46584321652468247702bfe8ad7ef346072fc3b6d3648848", func := "alidade/alidadelaw06.MatSolved", spec := "matSolved", apart := false }
def MatSolvedSaid : Prop := matSolvedRow.holds Try.pinned (OpenSpec.ofChange matSolvedSpec)

/-- ITS FALSE NEIGHBOUR: 'it returns false'. Refute it at one input. -/
def matSolvedWrong : ChangeSpec := { name := "matSolved", fn := fun _ => fun
  | [d1, d2, d3] => { results := [.lit (.bool false)], args := [d1, d2, d3] }
  | _ => none }
def MatSolvedWrongFalsely : Prop := matSolvedRow.holds Try.pinned (OpenSpec.ofChange matSolvedWrong)

/- THE SECOND FORM. 'bulk': how many values and letters a reading holds, each counted each time it is reached (what is shared counts as often as it is met; a slice's spare places count too). A statement '..UptoSaid' is the law's where the arguments, and the package variables that the reading takes, are together of bulk at most 1048576: NARROWER than '..Said'. Prove '..Said' where nothing that the law and all that it calls make is longer than what came in: it says more and counts as full. Else prove '..UptoSaid'. A law counts once. -/
mutual
def uptoBulk {H : Type} : DataW H → Nat
  | .lit (.string bytes) => bytes.length + 1
  | .lit _ => 1
  | .nil => 1
  | .ptr d => uptoBulk d + 1
  | .slice elems spare => uptoBulkAll elems + uptoBulkAll spare + 1
  | .agg parts => uptoBulkAll parts + 1
  | .iface _ d => uptoBulk d + 1
  | .map entries => uptoBulkEntries entries + 1
  | .held _ => 1
def uptoBulkAll {H : Type} : List (DataW H) → Nat
  | [] => 0
  | d :: r => uptoBulk d + uptoBulkAll r
def uptoBulkEntries {H : Type} : List (Lit × DataW H) → Nat
  | [] => 0
  | x :: r => uptoBulkEntry x + uptoBulkEntries r
def uptoBulkEntry {H : Type} : Lit × DataW H → Nat
  | (.string bytes, d) => bytes.length + uptoBulk d + 1
  | (_, d) => uptoBulk d + 1
 end
def uptoSmall : (H : Type) → List (DataW H) → Bool := fun _ ds => decide (uptoBulkAll ds ≤ 1048576)
def OpenSpec.upto (s : _root_.Go.ChangeSpec) : _root_.Go.OpenSpec := { _root_.Go.OpenSpec.ofChange s with cond := some uptoSmall }

/-- 'alidadelaw06.MatRoot', WHERE WHAT IT READS IS OF BULK AT MOST 1048576: true; the input reads as it did. -/
def matRootUptoRow : OpenClaim := { program := "ytcnbcdnjogopdaa", sum := "2e0ccfaf5a48ffec46584321652468247702bfe8ad7ef346072fc3b6d3648848", func := "alidade/alidadelaw06.MatRoot", spec := "matRoot", apart := false, narrowed := true }
def MatRootUptoSaid : Prop := matRootUptoRow.holds Try.pinned (OpenSpec.upto matRootSpec)

/-- 'alidadelaw06.MatSolve', WHERE WHAT IT READS IS OF BULK AT MOST 1048576: true; the input reads as it did. -/
def matSolveUptoRow : OpenClaim := { program := "ytcnbcdnjogopdaa", sum := "2e0ccfaf5a48ffec46584321652468247702bfe8ad7ef346072fc3b6d3648848", func := "alidade/alidadelaw06.MatSolve", spec := "matSolve", apart := false, narrowed := true }
def MatSolveUptoSaid : Prop := matSolveUptoRow.holds Try.pinned (OpenSpec.upto matSolveSpec)

/-- 'alidadelaw06.MatSums', WHERE WHAT IT READS IS OF BULK AT MOST 1048576: true; the input reads as it did. -/
def matSumsUptoRow : OpenClaim := { program := "ytcnbcdnjogopdaa", sum := "2e0ccfaf5a48ffec46584321652468247702bfe8ad7ef346072fc3b6d3648848", func := "alidade/alidadelaw06.MatSums", spec := "matSums", apart := false, narrowed := true }
def MatSumsUptoSaid : Prop := matSumsUptoRow.holds Try.pinned (OpenSpec.upto matSumsSpec)

/-- 'alidadelaw06.MatBack', WHERE WHAT IT READS IS OF BULK AT MOST 1048576: true; the input reads as it did. -/
def matBackUptoRow : OpenClaim := { program := "ytcnbcdnjogopdaa", sum := "2e0ccfaf5a48ffec46584321652468247702bfe8ad7ef346072fc3b6d3648848", func := "alidade/alidadelaw06.MatBack", spec := "matBack", apart := false, narrowed := true }
def MatBackUptoSaid : Prop := matBackUptoRow.holds Try.pinned (OpenSpec.upto matBackSpec)

/-- 'alidadelaw06.MatSolved', WHERE WHAT IT READS IS OF BULK AT MOST 1048576: true; the input reads as it did. -/
def matSolvedUptoRow : OpenClaim := { program := "ytcnbcdnjogopdaa", sum := "2e0ccfaf5a48ffec46584321652468247702bfe8ad7ef346072fc3b6d3648848", func := "alidade/alidadelaw06.MatSolved", spec := "matSolved", apart := false, narrowed := true }
def MatSolvedUptoSaid : Prop := matSolvedUptoRow.holds Try.pinned (OpenSpec.upto matSolvedSpec)

end Rows
end Go.Proofs.Ytcnbcdnjogopdaa
