/-
  A symbolic run: structures, for the seat YtoadcnhcfodkgaaGreatDoor. No Go text in sight.
-/
import Derived.Test.YtoadcnhcfodkgaaGreatDoorSxI
namespace Go.Proofs.YtoadcnhcfodkgaaGreatDoor
open Go.RowKit

/-- A structure whose parts are laid one behind the other. -/
def cAgg {A : Type} (d : Dl A) : Dc A where
  enc x := .agg (d.enc x).toArray
  dec v := match v with
    | .agg cs => d.dec cs.toList
    | _ => none
  law v x h := by
    split at h
    · rename_i cs
      have := d.law _ _ h
      rw [← this]
    · cases h
  np _ := rfl
end Go.Proofs.YtoadcnhcfodkgaaGreatDoor
