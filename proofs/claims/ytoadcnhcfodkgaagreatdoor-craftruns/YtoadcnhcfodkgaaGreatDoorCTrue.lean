/-
  A flow that is bad answers 0 to these as well, for the seat YtoadcnhcfodkgaaGreatDoor. No Go text in sight.
-/
import Derived.Test.YtoadcnhcfodkgaaGreatDoorCSpec
import Derived.Test.YtoadcnhcfodkgaaGreatDoorOrbA
namespace Go.Proofs.YtoadcnhcfodkgaaGreatDoor

theorem partS_true (a p q : Int) : partS true a p q = (0, true) := partS_no (tk_true _)
theorem sqrtS_true (a : Int) : sqrtS true a = (0, true) := sqrtS_no (tk_true _)
theorem modS_true (a m : Int) : modS true a m = (0, true) := modS_no (tk_true _)
theorem cDaysS_true (t : Int) : cDaysS true t = (0, true) := by
  unfold cDaysS
  split
  · exact partS_true _ _ _
  · rfl
end Go.Proofs.YtoadcnhcfodkgaaGreatDoor
