/-
  What roots of six rows are, in flows that are good or bad, for the seat YtoadcnhcfodkgaaGreatDoor. No Go text in sight.
-/
import Derived.Test.YtoadcnhcfodkgaaGreatDoorBSpec
namespace Go.Proofs.YtoadcnhcfodkgaaGreatDoor
open Go.RowKit

def zRoot6 (bad : Bool) (m : Nat → Int) : (Nat → Int) × Bool := if bad then ((fun _ => 0), true) else zRootS false m 6
def zSolve6 (bad : Bool) (l : Nat → Int) (p : Nat → Int) : (Nat → Int) × Bool := if bad then ((fun _ => 0), true) else zSolveS false l p 6
def zApply6 (bad : Bool) (m : Nat → Int) (p : Nat → Int) : (Nat → Int) × Bool := if bad then ((fun _ => 0), true) else zApplyS false m p 6
theorem zRoot6_good (m : Nat → Int) : zRoot6 false m = zRootS false m 6 := by unfold zRoot6; rw [if_neg (by decide)]
theorem zSolve6_good (l p : Nat → Int) : zSolve6 false l p = zSolveS false l p 6 := by unfold zSolve6; rw [if_neg (by decide)]
theorem zApply6_good (m p : Nat → Int) : zApply6 false m p = zApplyS false m p 6 := by unfold zApply6; rw [if_neg (by decide)]
end Go.Proofs.YtoadcnhcfodkgaaGreatDoor
