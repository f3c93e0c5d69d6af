/-
  Where a walk halts: at a function's end, ahead of its results; what a function returns out of a row of cells, for the seat YtoadcnhcfodkgaaGreatDoor.
-/
import Derived.Test.YtoadcnhcfodkgaaGreatDoorVMem
import Derived.Deep.MidRow
import Derived.Handy
namespace Go.Proofs.YtoadcnhcfodkgaaGreatDoor
open Go.RowKit

structure Stop (p : Prop) : Prop where
  out : p
theorem post_stop {P : Program} {fn : Func} {R : Ending → World → Prop} {e : Exit} {a : Act} {w : World} (h : Stop (bodyPost P fn R e a w)) : bodyPost P fn R e a w := h.out
theorem Arr.range {k : Nat} {l : List Value} {w : World} (A : Arr k l w) : w.rangeAt k 0 l := fun j v hv => by
  obtain ⟨hj, rfl⟩ := List.getElem?_eq_some_iff.1 hv
  rw [Nat.zero_add]
  exact A.c j hj
theorem results_arr {fn : Func} {p : Tmp} {ty : TypeId} (h : fn.results = #[.cell p ty]) {tmps : Array Value} {w : World} {k : Nat} {l : List Value} (A : Arr k l w)
    (hp : tmps.getD p undef = .pointer (some ⟨k, 0, none⟩)) (hd : (Tryz.prog.underlying ty).any TypeDesc.isRow = true) (hi : (Tryz.prog.info? ty).map (·.size) = some l.length) :
    (results fn tmps).run Tryz.prog w = .ok (.agg l.toArray) w := by
  cases hu : Tryz.prog.underlying ty with
  | none => rw [hu] at hd; cases hd
  | some d =>
    rw [hu] at hd
    have hp' : tmps[p]?.getD undef = .pointer (some ⟨k, 0, none⟩) := by simpa using hp
    simp [results, h, hp', asAddr, run_loadVar_mid w k 0 ty l d A.range hu hd hi]
end Go.Proofs.YtoadcnhcfodkgaaGreatDoor
