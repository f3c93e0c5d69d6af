/-
  No cell of these rows narrows 'for every input' (looked for: loops, veiled, ifaces, maps, wideKeys, modest, calm, conditions, laid).
  DERIVED. THE GIVEN ROWS OF THIS SEAT. 6 by the template 'for every input the law returns true; each argument reads behind the call as it read before'; 0 by the template 'total and deterministic' (their statements: YtndimdodendonaaTotals.lean).
  GIVEN WITH THE SEED: the statements are not yours to turn. If you find one false, say at which input.
  Laid BY PROGRAM, IN A SANDBOX (cutbox-rows.mjs): the forced cells as the released guide's own fill.sh prints them over the translation c690987e54157e9f… (all of the seat's roots in one cut). By AI agents, Wed Nov 11 2026. No macro, syntax, notation, axiom, sorry.
-/
import Derived.Test.YtndimdodendonaaChecked
import GoSem.Claim
import GoSem.ClaimJoined
import GoSem.ClaimMapViews
import Derived.JoinedTies
import Derived.KernelRfl
namespace Go.Proofs.Ytndimdodendonaa
/- THE CELL 'sum', in the pinned program and in every row, IS THE sha256 OF THE DUMP (.gsa) THAT YtndimdodendonaaProg.lean LOADS. Nothing in Lean hashes anything: it is a label: what it is worth is what the hold of that sum in a sandbox is worth. -/
noncomputable def Try.pinned : Pinned := { name := "ytndimdodendonaa", sum := "c690987e54157e9f70ebdd721c13d084b538ac2a9009542cf9957caf861b85fd", checked := Try.checked }
namespace Rows
def none {H : Type} : Left H := { results := [], args := [] }

/-- 'alidadelaw02.TrigSin': WHATEVER THE INPUT: true; the input reads as it did. -/
def trigSinSpec : ChangeSpec := { name := "trigSin", fn := fun _ => fun
  | [d1, d2] => { results := [.lit (.bool true)], args := [d1, d2] }
  | _ => none }
def trigSinRow : OpenClaim := { program := "ytndimdodendonaa", sum := "c690987e54157e9f70ebdd721c13d084b538ac2a9009542cf9957caf861b85fd", func := "alidade/alidadelaw02.TrigSin", spec := "trigSin", apart := false }
def TrigSinSaid : Prop := trigSinRow.holds Try.pinned (OpenSpec.ofChange trigSinSpec)

/-- ITS FALSE NEIGHBOUR: 'it returns false'. Refute it at one input. -/
def trigSinWrong : ChangeSpec := { name := "trigSin", fn := fun _ => fun
  | [d1, d2] => { results := [.lit (.bool false)], args := [d1, d2] }
  | _ => none }
def TrigSinWrongFalsely : Prop := trigSinRow.holds Try.pinned (OpenSpec.ofChange trigSinWrong)

/-- 'alidadelaw02.TrigCos': WHATEVER THE INPUT: true; the input reads as it did. -/
def trigCosSpec : ChangeSpec := { name := "trigCos", fn := fun _ => fun
  | [d1, d2] => { results := [.lit (.bool true)], args := [d1, d2] }
  | _ => none }
def trigCosRow : OpenClaim := { program := "ytndimdodendonaa", sum := "c690987e54157e9f70ebdd721c13d084b538ac2a9009542cf9957caf861b85fd", func := "alidade/alidadelaw02.TrigCos", spec := "trigCos", apart := false }
def TrigCosSaid : Prop := trigCosRow.holds Try.pinned (OpenSpec.ofChange trigCosSpec)

/-- ITS FALSE NEIGHBOUR: 'it returns false'. Refute it at one input. -/
def trigCosWrong : ChangeSpec := { name := "trigCos", fn := fun _ => fun
  | [d1, d2] => { results := [.lit (.bool false)], args := [d1, d2] }
  | _ => none }
def TrigCosWrongFalsely : Prop := trigCosRow.holds Try.pinned (OpenSpec.ofChange trigCosWrong)

/-- 'alidadelaw02.TrigAtan2': WHATEVER THE INPUT: true; the input reads as it did. -/
def trigAtan2Spec : ChangeSpec := { name := "trigAtan2", fn := fun _ => fun
  | [d1, d2, d3] => { results := [.lit (.bool true)], args := [d1, d2, d3] }
  | _ => none }
def trigAtan2Row : OpenClaim := { program := "ytndimdodendonaa", sum := "c690987e54157e9f70ebdd721c13d084b538ac2a9009542cf9957caf861b85fd", func := "alidade/alidadelaw02.TrigAtan2", spec := "trigAtan2", apart := false }
def TrigAtan2Said : Prop := trigAtan2Row.holds Try.pinned (OpenSpec.ofChange trigAtan2Spec)

/-- ITS FALSE NEIGHBOUR: 'it returns false'. Refute it at one input. -/
def trigAtan2Wrong : ChangeSpec := { name := "trigAtan2", fn := fun _ => fun
  | [d1, d2, d3] => { results := [.lit (.bool false)], args := [d1, d2, d3] }
  | _ => none }
def TrigAtan2WrongFalsely : Prop := trigAtan2Row.holds Try.pinned (OpenSpec.ofChange trigAtan2Wrong)

/-- 'alidadelaw02.TrigBack': WHATEVER THE INPUT: true; the input reads as it did. -/
def trigBackSpec : ChangeSpec := { name := "trigBack", fn := fun _ => fun
  | [d1, d2] => { results := [.lit (.bool true)], args := [d1, d2] }
  | _ => none }
def trigBackRow : OpenClaim := { program := "ytndimdodendonaa", sum := "c690987e54157e9f70ebdd721c13d084b538ac2a9009542cf9957caf861b85fd", func := "alidade/alidadelaw02.TrigBack", spec := "trigBack", apart := false }
def TrigBackSaid : Prop := trigBackRow.holds Try.pinned (OpenSpec.ofChange trigBackSpec)

/-- ITS FALSE NEIGHBOUR: 'it returns false'. Refute it at one input. -/
def trigBackWrong : ChangeSpec := { name := "trigBack", fn := fun _ => fun
  | [d1, d2] => { results := [.lit (.bool false)], args := [d1, d2] }
  | _ => none }
def TrigBackWrongFalsely : Prop := trigBackRow.holds Try.pinned (OpenSpec.ofChange trigBackWrong)

/-- 'alidadelaw02.TrigOne': WHATEVER THE INPUT: true; the input reads as it did. -/
def trigOneSpec : ChangeSpec := { name := "trigOne", fn := fun _ => fun
  | [d] => { results := [.lit (.bool true)], args := [d] }
  | _ => none }
def trigOneRow : OpenClaim := { program := "ytndimdodendonaa", sum := "c690987e54157e9f70ebdd721c13d084b538ac2a9009542cf9957caf861b85fd", func := "alidade/alidadelaw02.TrigOne", spec := "trigOne", apart := false }
def TrigOneSaid : Prop := trigOneRow.holds Try.pinned (OpenSpec.ofChange trigOneSpec)

/-- ITS FALSE NEIGHBOUR: 'it returns false'. Refute it at one input. -/
def trigOneWrong : ChangeSpec := { name := "trigOne", fn := fun _ => fun
  | [d] => { results := [.lit (.bool false)], args := [d] }
  | _ => none }
def TrigOneWrongFalsely : Prop := trigOneRow.holds Try.pinned (OpenSpec.ofChange trigOneWrong)

/-- 'alidadelaw02.TrigSums': WHATEVER THE INPUT: true; the input reads as it did. -/
def trigSumsSpec : ChangeSpec := { name := "trigSums", fn := fun _ => fun
  | [d1, d2] => { results := [.lit (.bool true)], args := [d1, d2] }
  | _ => none }
def trigSumsRow : OpenClaim := { program := "ytndimdodendonaa", sum := "c690987e54157e9f70ebdd721c13d084b538ac2a9009542cf9957caf861b85fd", func := "alidade/alidadelaw02.TrigSums", spec := "trigSums", apart := false }
def TrigSumsSaid : Prop := trigSumsRow.holds Try.pinned (OpenSpec.ofChange trigSumsSpec)

/-- ITS FALSE NEIGHBOUR: 'it returns false'. Refute it at one input. -/
def trigSumsWrong : ChangeSpec := { name := "trigSums", fn := fun _ => fun
  | [d1, d2] => { results := [.lit (.bool false)], args := [d1, d2] }
  | _ => none }
def TrigSumsWrongFalsely : Prop := trigSumsRow.holds Try.pinned (OpenSpec.ofChange trigSumsWrong)

/- THE SECOND FORM. 'bulk': how many values and letters a reading holds, each counted each time it is reached (what is shared counts as often as it is met; a slice's spare places count too). A statement '..UptoSaid' is the law's where the arguments, and the package variables that the reading takes, are together of bulk at most 1048576: NARROWER than '..Said'. Prove '..Said' where nothing that the law and all that it calls make is longer than what came in: it says more and counts as full. Else prove '..UptoSaid'. A law counts once. -/
mutual
def uptoBulk {H : Type} : DataW H → Nat
  | .lit (.string bytes) => bytes.length + 1
  | .lit _ => 1
  | .nil => 1
  | .ptr d => uptoBulk d + 1
  | .slice elems spare => uptoBulkAll elems + uptoBulkAll spare + 1
  | .agg parts => uptoBulkAll parts + 1
  | .iface _ d => uptoBulk d + 1
  | .map entries => uptoBulkEntries entries + 1
  | .held _ => 1
def uptoBulkAll {H : Type} : List (DataW H) → Nat
  | [] => 0
  | d :: r => uptoBulk d + uptoBulkAll r
def uptoBulkEntries {H : Type} : List (Lit × DataW H) → Nat
  | [] => 0
  | x :: r => uptoBulkEntry x + uptoBulkEntries r
def uptoBulkEntry {H : Type} : Lit × DataW H → Nat
  | (.string bytes, d) => bytes.length + uptoBulk d + 1
  | (_, d) => uptoBulk d + 1
 end
def uptoSmall : (H : Type) → List (DataW H) → Bool := fun _ ds => decide (uptoBulkAll ds ≤ 1048576)
def OpenSpec.upto (s : _root_.Go.ChangeSpec) : _root_.Go.OpenSpec := { _root_.Go.OpenSpec.ofChange s with cond := some uptoSmall }

/-- 'alidadelaw02.TrigSin', WHERE WHAT IT READS IS OF BULK AT MOST 1048576: true; the input reads as it did. -/
def trigSinUptoRow : OpenClaim := { program := "ytndimdodendonaa", sum := "c690987e54157e9f70ebdd721c13d084b538ac2a9009542cf9957caf861b85fd", func := "alidade/alidadelaw02.TrigSin", spec := "trigSin", apart := false, narrowed := true }
def TrigSinUptoSaid : Prop := trigSinUptoRow.holds Try.pinned (OpenSpec.upto trigSinSpec)

/-- 'alidadelaw02.TrigCos', WHERE WHAT IT READS IS OF BULK AT MOST 1048576: true; the input reads as it did. -/
def trigCosUptoRow : OpenClaim := { program := "ytndimdodendonaa", sum := "c690987e54157e9f70ebdd721c13d084b538ac2a9009542cf9957caf861b85fd", func := "alidade/alidadelaw02.TrigCos", spec := "trigCos", apart := false, narrowed := true }
def TrigCosUptoSaid : Prop := trigCosUptoRow.holds Try.pinned (OpenSpec.upto trigCosSpec)

/-- 'alidadelaw02.TrigAtan2', WHERE WHAT IT READS IS OF BULK AT MOST 1048576: true; the input reads as it did. -/
def trigAtan2UptoRow : OpenClaim := { program := "ytndimdodendonaa", sum := "c690987e54157e9f70ebdd721c13d084b538ac2a9009542cf9957caf861b85fd", func := "alidade/alidadelaw02.TrigAtan2", spec := "trigAtan2", apart := false, narrowed := true }
def TrigAtan2UptoSaid : Prop := trigAtan2UptoRow.holds Try.pinned (OpenSpec.upto trigAtan2Spec)

/-- 'alidadelaw02.TrigBack', WHERE WHAT IT READS IS OF BULK AT MOST 1048576: true; the input reads as it did. -/
def trigBackUptoRow : OpenClaim := { program := "ytndimdodendonaa", sum := "c690987e54157e9f70ebdd721c13d084b538ac2a9009542cf9957caf861b85fd", func := "alidade/alidadelaw02.TrigBack", spec := "trigBack", apart := false, narrowed := true }
def TrigBackUptoSaid : Prop := trigBackUptoRow.holds Try.pinned (OpenSpec.upto trigBackSpec)

/-- 'alidadelaw02.TrigOne', WHERE WHAT IT READS IS OF BULK AT MOST 1048576: true; the input reads as it did. -/
def trigOneUptoRow : OpenClaim := { program := "ytndimdodendonaa", sum := "c690987e54157e9f70ebdd721c13d084b538ac2a9009542cf9957caf861b85fd", func := "alidade/alidadelaw02.TrigOne", spec := "trigOne", apart := false, narrowed := true }
def TrigOneUptoSaid : Prop := trigOneUptoRow.holds Try.pinned (OpenSpec.upto trigOneSpec)

/-- 'alidadelaw02.TrigSums', WHERE WHAT IT READS IS OF BULK AT MOST 1048576: true; the input reads as it did. -/
def trigSumsUptoRow : OpenClaim := { program := "ytndimdodendonaa", sum := "c690987e54157e9f70ebdd721c13d084b538ac2a9009542cf9957caf861b85fd", func := "alidade/alidadelaw02.TrigSums", spec := "trigSums", apart := false, narrowed := true }
def TrigSumsUptoSaid : Prop := trigSumsUptoRow.holds Try.pinned (OpenSpec.upto trigSumsSpec)

end Rows
end Go.Proofs.Ytndimdodendonaa
