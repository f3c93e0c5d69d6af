/-
  A symbolic run: rows of numbers, for the seat YtoadcnhcfodkgaaGreatDoor. No Go text in sight.
-/
import Derived.Test.YtoadcnhcfodkgaaGreatDoorSxI
import Derived.Test.YtoadcnhcfodkgaaGreatDoorVLoop
namespace Go.Proofs.YtoadcnhcfodkgaaGreatDoor
open Go.RowKit

def rowDec : List Value → Option (List Int)
  | [] => some []
  | .int .i64 x :: r => (match rowDec r with
    | some l => some (x :: l)
    | none => none)
  | _ => none
theorem rowDec_law : ∀ (vs : List Value) (l : List Int), rowDec vs = some l → vs = l.map fun x => .int .i64 x
  | [], l, h => by cases h; rfl
  | v :: r, l, h => by
    unfold rowDec at h
    split at h
    · rename_i heq
      cases heq
    · rename_i x r' heq
      cases heq
      split at h
      · rename_i l' hl
        cases h
        rw [rowDec_law r l' hl]
        rfl
      · cases h
    · cases h
/-- A row, of whatever length, by its places. -/
def cRow (N : Nat) : Dc (Nat → Int) where
  enc g := .agg (row N g).toArray
  dec v := match v with
    | .agg cs => (match rowDec cs.toList with
      | some l => (match Nat.beq l.length N with
        | true => some (fun i => l.getD i 0)
        | false => none)
      | none => none)
    | _ => none
  law v x h := by
    split at h
    · rename_i cs
      split at h
      · rename_i l hl
        split at h
        · rename_i hb
          cases h
          have hN : l.length = N := Nat.eq_of_beq_eq_true hb
          have h1 := rowDec_law _ _ hl
          have h2 : cs.toList = row N (fun i => l.getD i 0) := by
            rw [h1]
            refine List.ext_getElem (by rw [row_len, List.length_map, hN]) (fun i h1 h2 => ?_)
            rw [row_get, List.getElem_map, List.getD_eq_getElem?_getD, List.getElem?_eq_getElem (by simpa using h1)]
            rfl
          rw [← h2]
        · cases h
      · cases h
    · cases h
  np _ := rfl
end Go.Proofs.YtoadcnhcfodkgaaGreatDoor
