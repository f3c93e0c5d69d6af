/-
  No cell of these rows narrows 'for every input' (looked for: loops, veiled, ifaces, maps, wideKeys, modest, calm, conditions, laid).
  DERIVED. THE GIVEN ROWS OF THIS SEAT. 3 by the template 'for every input the law returns true; each argument reads behind the call as it read before'; 0 by the template 'total and deterministic' (their statements: YtpmgbobklgabbabTotals.lean).
  GIVEN WITH THE SEED: the statements are not yours to turn. If you find one false, say at which input.
  Laid BY PROGRAM, IN A SANDBOX (cutbox-rows.mjs): the forced cells as the released guide's own fill.sh prints them over the translation 2d4f32d2a3eb0422… (all of the seat's roots in one cut). By AI agents, Wed Nov 11 2026. No macro, syntax, notation, axiom, sorry.
-/
import Derived.Test.YtpmgbobklgabbabChecked
import GoSem.Claim
import GoSem.ClaimJoined
import GoSem.ClaimMapViews
import Derived.JoinedTies
import Derived.KernelRfl
namespace Go.Proofs.Ytpmgbobklgabbab
/- THE CELL 'sum', in the pinned program and in every row, IS THE sha256 OF THE DUMP (.gsa) THAT YtpmgbobklgabbabProg.lean LOADS. Nothing in Lean hashes anything: it is a label: what it is worth is what the hold of that sum in a sandbox is worth. -/
noncomputable def Try.pinned : Pinned := { name := "ytpmgbobklgabbab", sum := "2d4f32d2a3eb0422d195c72cd85e944513a796fd63fc3430f7b929779fcd1467", checked := Try.checked }
namespace Rows
def none {H : Type} : Left H := { results := [], args := [] }

/-- 'alidadelaw01.FixedStays': WHATEVER THE INPUT: true; the input reads as it did. -/
def fixedStaysSpec : ChangeSpec := { name := "fixedStays", fn := fun _ => fun
  | [d1, d2, d3] => { results := [.lit (.bool true)], args := [d1, d2, d3] }
  | _ => none }
def fixedStaysRow : OpenClaim := { program := "ytpmgbobklgabbab", sum := "2d4f32d2a3eb0422d195c72cd85e944513a796fd63fc3430f7b929779fcd1467", func := "alidade/alidadelaw01.FixedStays", spec := "fixedStays", apart := false }
def FixedStaysSaid : Prop := fixedStaysRow.holds Try.pinned (OpenSpec.ofChange fixedStaysSpec)

/-- ITS FALSE NEIGHBOUR: 'it returns false'. Refute it at one input. -/
def fixedStaysWrong : ChangeSpec := { name := "fixedStays", fn := fun _ => fun
  | [d1, d2, d3] => { results := [.lit (.bool false)], args := [d1, d2, d3] }
  | _ => none }
def FixedStaysWrongFalsely : Prop := fixedStaysRow.holds Try.pinned (OpenSpec.ofChange fixedStaysWrong)

/-- 'alidadelaw01.FixedBack': WHATEVER THE INPUT: true; the input reads as it did. -/
def fixedBackSpec : ChangeSpec := { name := "fixedBack", fn := fun _ => fun
  | [d1, d2] => { results := [.lit (.bool true)], args := [d1, d2] }
  | _ => none }
def fixedBackRow : OpenClaim := { program := "ytpmgbobklgabbab", sum := "2d4f32d2a3eb0422d195c72cd85e944513a796fd63fc3430f7b929779fcd1467", func := "alidade/alidadelaw01.FixedBack", spec := "fixedBack", apart := false }
def FixedBackSaid : Prop := fixedBackRow.holds Try.pinned (OpenSpec.ofChange fixedBackSpec)

/-- ITS FALSE NEIGHBOUR: 'it returns false'. Refute it at one input. -/
def fixedBackWrong : ChangeSpec := { name := "fixedBack", fn := fun _ => fun
  | [d1, d2] => { results := [.lit (.bool false)], args := [d1, d2] }
  | _ => none }
def FixedBackWrongFalsely : Prop := fixedBackRow.holds Try.pinned (OpenSpec.ofChange fixedBackWrong)

/-- 'alidadelaw01.FixedNorms': WHATEVER THE INPUT: true; the input reads as it did. -/
def fixedNormsSpec : ChangeSpec := { name := "fixedNorms", fn := fun _ => fun
  | [d1, d2, d3] => { results := [.lit (.bool true)], args := [d1, d2, d3] }
  | _ => none }
def fixedNormsRow : OpenClaim := { program := "ytpmgbobklgabbab", sum := "2d4f32d2a3eb0422d195c72cd85e944513a796fd63fc3430f7b929779fcd1467", func := "alidade/alidadelaw01.FixedNorms", spec := "fixedNorms", apart := false }
def FixedNormsSaid : Prop := fixedNormsRow.holds Try.pinned (OpenSpec.ofChange fixedNormsSpec)

/-- ITS FALSE NEIGHBOUR: 'it returns false'. Refute it at one input. -/
def fixedNormsWrong : ChangeSpec := { name := "fixedNorms", fn := fun _ => fun
  | [d1, d2, d3] => { results := [.lit (.bool false)], args := [d1, d2, d3] }
  | _ => none }
def FixedNormsWrongFalsely : Prop := fixedNormsRow.holds Try.pinned (OpenSpec.ofChange fixedNormsWrong)

/- THE SECOND FORM. 'bulk': how many values and letters a reading holds, each counted each time it is reached (what is shared counts as often as it is met; a slice's spare places count too). A statement '..UptoSaid' is the law's where the arguments, and the package variables that the reading takes, are together of bulk at most 1048576: NARROWER than '..Said'. Prove '..Said' where nothing that the law and all that it calls make is longer than what came in: it says more and counts as full. Else prove '..UptoSaid'. A law counts once. -/
mutual
def uptoBulk {H : Type} : DataW H → Nat
  | .lit (.string bytes) => bytes.length + 1
  | .lit _ => 1
  | .nil => 1
  | .ptr d => uptoBulk d + 1
  | .slice elems spare => uptoBulkAll elems + uptoBulkAll spare + 1
  | .agg parts => uptoBulkAll parts + 1
  | .iface _ d => uptoBulk d + 1
  | .map entries => uptoBulkEntries entries + 1
  | .held _ => 1
def uptoBulkAll {H : Type} : List (DataW H) → Nat
  | [] => 0
  | d :: r => uptoBulk d + uptoBulkAll r
def uptoBulkEntries {H : Type} : List (Lit × DataW H) → Nat
  | [] => 0
  | x :: r => uptoBulkEntry x + uptoBulkEntries r
def uptoBulkEntry {H : Type} : Lit × DataW H → Nat
  | (.string bytes, d) => bytes.length + uptoBulk d + 1
  | (_, d) => uptoBulk d + 1
 end
def uptoSmall : (H : Type) → List (DataW H) → Bool := fun _ ds => decide (uptoBulkAll ds ≤ 1048576)
def OpenSpec.upto (s : _root_.Go.ChangeSpec) : _root_.Go.OpenSpec := { _root_.Go.OpenSpec.ofChange s with cond := some uptoSmall }

/-- 'alidadelaw01.FixedStays', WHERE WHAT IT READS IS OF BULK AT MOST 1048576: true; the input reads as it did. -/
def fixedStaysUptoRow : OpenClaim := { program := "ytpmgbobklgabbab", sum := "2d4f32d2a3eb0422d195c72cd85e944513a796fd63fc3430f7b929779fcd1467", func := "alidade/alidadelaw01.FixedStays", spec := "fixedStays", apart := false, narrowed := true }
def FixedStaysUptoSaid : Prop := fixedStaysUptoRow.holds Try.pinned (OpenSpec.upto fixedStaysSpec)

/-- 'alidadelaw01.FixedBack', WHERE WHAT IT READS IS OF BULK AT MOST 1048576: true; the input reads as it did. -/
def fixedBackUptoRow : OpenClaim := { program := "ytpmgbobklgabbab", sum := "2d4f32d2a3eb0422d195c72cd85e944513a796fd63fc3430f7b929779fcd1467", func := "alidade/alidadelaw01.FixedBack", spec := "fixedBack", apart := false, narrowed := true }
def FixedBackUptoSaid : Prop := fixedBackUptoRow.holds Try.pinned (OpenSpec.upto fixedBackSpec)

/-- 'alidadelaw01.FixedNorms', WHERE WHAT IT READS IS OF BULK AT MOST 1048576: true; the input reads as it did. -/
def fixedNormsUptoRow : OpenClaim := { program := "ytpmgbobklgabbab", sum := "2d4f32d2a3eb0422d195c72cd85e944513a796fd63fc3430f7b929779fcd1467", func := "alidade/alidadelaw01.FixedNorms", spec := "fixedNorms", apart := false, narrowed := true }
def FixedNormsUptoSaid : Prop := fixedNormsUptoRow.holds Try.pinned (OpenSpec.upto fixedNormsSpec)

end Rows
end Go.Proofs.Ytpmgbobklgabbab
