/-
  How a guess and a matrix of one row are put together, for the seat YtoadcnhcfodkgaaGreatDoor. No Go text in sight.
-/
import Derived.Test.YtoadcnhcfodkgaaGreatDoorFRSpec
namespace Go.Proofs.YtoadcnhcfodkgaaGreatDoor
open Go.RowKit

def guessF (q : V4) (v : V3) (p : Nat → Int) : Nat → Int := fun i => if i < 7 then (if i = 0 then q.1 else if i = 1 then q.2.1 else if i = 2 then q.2.2.1 else if i = 3 then q.2.2.2 else if i = 4 then v.1 else if i = 5 then v.2.1 else v.2.2) else p (i - 7)
def matF (y : Nat → Int) : Nat → Int := fun i => if i < 6 then y i else 0
end Go.Proofs.YtoadcnhcfodkgaaGreatDoor
