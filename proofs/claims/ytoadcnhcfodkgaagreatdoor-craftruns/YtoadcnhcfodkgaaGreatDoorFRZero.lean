/-
  Zero values of great rows, for the seat YtoadcnhcfodkgaaGreatDoor.
-/
import Derived.Test.YtoadcnhcfodkgaaGreatDoorVLoop
namespace Go.Proofs.YtoadcnhcfodkgaaGreatDoor
open Go.RowKit

@[go_sem] theorem zero_rows (w : World) : Sem.run Tryz.prog (zeroValue 144) w = .ok (.agg (row 78 (fun _ => 0)).toArray) w := by kernel_rfl
@[go_sem] theorem zero_quats (w : World) : Sem.run Tryz.prog (zeroValue 146) w = .ok (.agg (row 52 (fun _ => 0)).toArray) w := by kernel_rfl
@[go_sem] theorem zero_guess (w : World) : Sem.run Tryz.prog (zeroValue 40) w = .ok (.agg (row 43 (fun _ => 0)).toArray) w := by kernel_rfl
theorem code_letter {P : Program} {c : Code} {Q : Exit → Act → World → Prop} {a : Act} {w : World} {S : World → Prop} (h : S w) (k : ∀ W, S W → c.wp P Q a W) : c.wp P Q a w := k w h
theorem results_arr2t {fn : Func} {p p2 p3 : Tmp} {ty : TypeId} (h : fn.results = #[.cell p ty, .tmp p2, .tmp p3]) {tmps : Array Value} {w : World} {k : Nat} {l : List Value} {v2 v3 : Value} (A : Arr k l w)
    (hp : tmps.getD p undef = .pointer (some ⟨k, 0, none⟩)) (h2 : tmps.getD p2 undef = v2) (h3 : tmps.getD p3 undef = v3) (hd : (Tryz.prog.underlying ty).any TypeDesc.isRow = true) (hi : (Tryz.prog.info? ty).map (·.size) = some l.length) :
    (results fn tmps).run Tryz.prog w = .ok (.tuple #[.agg l.toArray, v2, v3]) w := by
  cases hu : Tryz.prog.underlying ty with
  | none => rw [hu] at hd; cases hd
  | some d =>
    rw [hu] at hd
    have hp' : tmps[p]?.getD undef = .pointer (some ⟨k, 0, none⟩) := by simpa using hp
    have h2' : tmps[p2]?.getD undef = v2 := by simpa using h2
    have h3' : tmps[p3]?.getD undef = v3 := by simpa using h3
    simp [results, h, hp', h2', h3', asAddr, run_loadVar_mid w k 0 ty l d A.range hu hd hi]
end Go.Proofs.YtoadcnhcfodkgaaGreatDoor
