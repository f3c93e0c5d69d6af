/-
  An act by a letter, for the seat YtoadcnhcfodkgaaGreatDoor.
-/
import Derived.Test.YtoadcnhcfodkgaaGreatDoorVLoop
namespace Go.Proofs.YtoadcnhcfodkgaaGreatDoor
open Go.RowKit

/-- An act's slots from n on. -/
def zS (a : Act) (n : Nat) : Nat → Value := fun i => (a.tmps.toList.drop n).getD i undef
theorem give_act {J : Act → World → Prop} {a : Act} {W : World} (h : ∀ a', a' = a → J a' W) : J a W := h a rfl
end Go.Proofs.YtoadcnhcfodkgaaGreatDoor
