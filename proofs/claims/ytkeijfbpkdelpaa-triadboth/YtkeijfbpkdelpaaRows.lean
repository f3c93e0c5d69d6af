/-
  No cell of these rows narrows 'for every input' (looked for: loops, veiled, ifaces, maps, wideKeys, modest, calm, conditions, laid).
  DERIVED. THE GIVEN ROWS OF THIS SEAT. 4 by the template 'for every input the law returns true; each argument reads behind the call as it read before'; 0 by the template 'total and deterministic' (their statements: YtkeijfbpkdelpaaTotals.lean).
  GIVEN WITH THE SEED: the statements are not yours to turn. If you find one false, say at which input.
  Laid BY PROGRAM, IN A SANDBOX (cutbox-rows.mjs): the forced cells as the released guide's own fill.sh prints them over the translation f29c89b5f59eed16… (all of the seat's roots in one cut). By AI agents, Wed Nov 11 2026. No macro, syntax, notation, axiom, sorry.
-/
import Derived.Test.YtkeijfbpkdelpaaChecked
import GoSem.Claim
import GoSem.ClaimJoined
import GoSem.ClaimMapViews
import Derived.JoinedTies
import Derived.KernelRfl
namespace Go.Proofs.Ytkeijfbpkdelpaa
/- THE CELL 'sum', in the pinned program and in every row, IS THE sha256 OF THE DUMP (.gsa) THAT YtkeijfbpkdelpaaProg.lean LOADS. Nothing in Lean hashes anything: it is a label: what it is worth is what the hold of that sum in a sandbox is worth. -/
noncomputable def Try.pinned : Pinned := { name := "ytkeijfbpkdelpaa", sum := "f29c89b5f59eed16ab4b14ac8b5d50712e9c63372758699377043a140a65e5f3", checked := Try.checked }
namespace Rows
def none {H : Type} : Left H := { results := [], args := [] }

/-- 'alidadelaw05.TriadApart': WHATEVER THE INPUT: true; the input reads as it did. -/
def triadApartSpec : ChangeSpec := { name := "triadApart", fn := fun _ => fun
  | [d1, d2, d3] => { results := [.lit (.bool true)], args := [d1, d2, d3] }
  | _ => none }
def triadApartRow : OpenClaim := { program := "ytkeijfbpkdelpaa", sum := "f29c89b5f59eed16ab4b14ac8b5d50712e9c63372758699377043a140a65e5f3", func := "alidade/alidadelaw05.TriadApart", spec := "triadApart", apart := false }
def TriadApartSaid : Prop := triadApartRow.holds Try.pinned (OpenSpec.ofChange triadApartSpec)

/-- ITS FALSE NEIGHBOUR: 'it returns false'. Refute it at one input. -/
def triadApartWrong : ChangeSpec := { name := "triadApart", fn := fun _ => fun
  | [d1, d2, d3] => { results := [.lit (.bool false)], args := [d1, d2, d3] }
  | _ => none }
def TriadApartWrongFalsely : Prop := triadApartRow.holds Try.pinned (OpenSpec.ofChange triadApartWrong)

/-- 'alidadelaw05.TriadAttitude': WHATEVER THE INPUT: true; the input reads as it did. -/
def triadAttitudeSpec : ChangeSpec := { name := "triadAttitude", fn := fun _ => fun
  | [d1, d2, d3] => { results := [.lit (.bool true)], args := [d1, d2, d3] }
  | _ => none }
def triadAttitudeRow : OpenClaim := { program := "ytkeijfbpkdelpaa", sum := "f29c89b5f59eed16ab4b14ac8b5d50712e9c63372758699377043a140a65e5f3", func := "alidade/alidadelaw05.TriadAttitude", spec := "triadAttitude", apart := false }
def TriadAttitudeSaid : Prop := triadAttitudeRow.holds Try.pinned (OpenSpec.ofChange triadAttitudeSpec)

/-- ITS FALSE NEIGHBOUR: 'it returns false'. Refute it at one input. -/
def triadAttitudeWrong : ChangeSpec := { name := "triadAttitude", fn := fun _ => fun
  | [d1, d2, d3] => { results := [.lit (.bool false)], args := [d1, d2, d3] }
  | _ => none }
def TriadAttitudeWrongFalsely : Prop := triadAttitudeRow.holds Try.pinned (OpenSpec.ofChange triadAttitudeWrong)

/-- 'alidadelaw05.TriadFirst': WHATEVER THE INPUT: true; the input reads as it did. -/
def triadFirstSpec : ChangeSpec := { name := "triadFirst", fn := fun _ => fun
  | [d1, d2] => { results := [.lit (.bool true)], args := [d1, d2] }
  | _ => none }
def triadFirstRow : OpenClaim := { program := "ytkeijfbpkdelpaa", sum := "f29c89b5f59eed16ab4b14ac8b5d50712e9c63372758699377043a140a65e5f3", func := "alidade/alidadelaw05.TriadFirst", spec := "triadFirst", apart := false }
def TriadFirstSaid : Prop := triadFirstRow.holds Try.pinned (OpenSpec.ofChange triadFirstSpec)

/-- ITS FALSE NEIGHBOUR: 'it returns false'. Refute it at one input. -/
def triadFirstWrong : ChangeSpec := { name := "triadFirst", fn := fun _ => fun
  | [d1, d2] => { results := [.lit (.bool false)], args := [d1, d2] }
  | _ => none }
def TriadFirstWrongFalsely : Prop := triadFirstRow.holds Try.pinned (OpenSpec.ofChange triadFirstWrong)

/-- 'alidadelaw05.TriadBoth': WHATEVER THE INPUT: true; the input reads as it did. -/
def triadBothSpec : ChangeSpec := { name := "triadBoth", fn := fun _ => fun
  | [d1, d2] => { results := [.lit (.bool true)], args := [d1, d2] }
  | _ => none }
def triadBothRow : OpenClaim := { program := "ytkeijfbpkdelpaa", sum := "f29c89b5f59eed16ab4b14ac8b5d50712e9c63372758699377043a140a65e5f3", func := "alidade/alidadelaw05.TriadBoth", spec := "triadBoth", apart := false }
def TriadBothSaid : Prop := triadBothRow.holds Try.pinned (OpenSpec.ofChange triadBothSpec)

/-- ITS FALSE NEIGHBOUR: 'it returns false'. Refute it at one input. -/
def triadBothWrong : ChangeSpec := { name := "triadBoth", fn := fun _ => fun
  | [d1, d2] => { results := [.lit (.bool false)], args := [d1, d2] }
  | _ => none }
def TriadBothWrongFalsely : Prop := triadBothRow.holds Try.pinned (OpenSpec.ofChange triadBothWrong)

/- THE SECOND FORM. 'bulk': how many values and letters a reading holds, each counted each time it is reached (what is shared counts as often as it is met; a slice's spare places count too). A statement '..UptoSaid' is the law's where the arguments, and the package variables that the reading takes, are together of bulk at most 1048576: NARROWER than '..Said'. Prove '..Said' where nothing that the law and all that it calls make is longer than what came in: it says more and counts as full. Else prove '..UptoSaid'. A law counts once. -/
mutual
def uptoBulk {H : Type} : DataW H → Nat
  | .lit (.string bytes) => bytes.length + 1
  | .lit _ => 1
  | .nil => 1
  | .ptr d => uptoBulk d + 1
  | .slice elems spare => uptoBulkAll elems + uptoBulkAll spare + 1
  | .agg parts => uptoBulkAll parts + 1
  | .iface _ d => uptoBulk d + 1
  | .map entries => uptoBulkEntries entries + 1
  | .held _ => 1
def uptoBulkAll {H : Type} : List (DataW H) → Nat
  | [] => 0
  | d :: r => uptoBulk d + uptoBulkAll r
def uptoBulkEntries {H : Type} : List (Lit × DataW H) → Nat
  | [] => 0
  | x :: r => uptoBulkEntry x + uptoBulkEntries r
def uptoBulkEntry {H : Type} : Lit × DataW H → Nat
  | (.string bytes, d) => bytes.length + uptoBulk d + 1
  | (_, d) => uptoBulk d + 1
 end
def uptoSmall : (H : Type) → List (DataW H) → Bool := fun _ ds => decide (uptoBulkAll ds ≤ 1048576)
def OpenSpec.upto (s : _root_.Go.ChangeSpec) : _root_.Go.OpenSpec := { _root_.Go.OpenSpec.ofChange s with cond := some uptoSmall }

/-- 'alidadelaw05.TriadApart', WHERE WHAT IT READS IS OF BULK AT MOST 1048576: true; the input reads as it did. -/
def triadApartUptoRow : OpenClaim := { program := "ytkeijfbpkdelpaa", sum := "f29c89b5f59eed16ab4b14ac8b5d50712e9c63372758699377043a140a65e5f3", func := "alidade/alidadelaw05.TriadApart", spec := "triadApart", apart := false, narrowed := true }
def TriadApartUptoSaid : Prop := triadApartUptoRow.holds Try.pinned (OpenSpec.upto triadApartSpec)

/-- 'alidadelaw05.TriadAttitude', WHERE WHAT IT READS IS OF BULK AT MOST 1048576: true; the input reads as it did. -/
def triadAttitudeUptoRow : OpenClaim := { program := "ytkeijfbpkdelpaa", sum := "f29c89b5f59eed16ab4b14ac8b5d50712e9c63372758699377043a140a65e5f3", func := "alidade/alidadelaw05.TriadAttitude", spec := "triadAttitude", apart := false, narrowed := true }
def TriadAttitudeUptoSaid : Prop := triadAttitudeUptoRow.holds Try.pinned (OpenSpec.upto triadAttitudeSpec)

/-- 'alidadelaw05.TriadFirst', WHERE WHAT IT READS IS OF BULK AT MOST 1048576: true; the input reads as it did. -/
def triadFirstUptoRow : OpenClaim := { program := "ytkeijfbpkdelpaa", sum := "f29c89b5f59eed16ab4b14ac8b5d50712e9c63372758699377043a140a65e5f3", func := "alidade/alidadelaw05.TriadFirst", spec := "triadFirst", apart := false, narrowed := true }
def TriadFirstUptoSaid : Prop := triadFirstUptoRow.holds Try.pinned (OpenSpec.upto triadFirstSpec)

/-- 'alidadelaw05.TriadBoth', WHERE WHAT IT READS IS OF BULK AT MOST 1048576: true; the input reads as it did. -/
def triadBothUptoRow : OpenClaim := { program := "ytkeijfbpkdelpaa", sum := "f29c89b5f59eed16ab4b14ac8b5d50712e9c63372758699377043a140a65e5f3", func := "alidade/alidadelaw05.TriadBoth", spec := "triadBoth", apart := false, narrowed := true }
def TriadBothUptoSaid : Prop := triadBothUptoRow.holds Try.pinned (OpenSpec.upto triadBothSpec)

end Rows
end Go.Proofs.Ytkeijfbpkdelpaa
