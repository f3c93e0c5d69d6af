/-
  The model's numbers as they stand in the program, in tenths of a nanotesla, for the seat YtoadcnhcfodkgaaGreatDoor. No function's Go text in sight.
-/
import Derived.Test.YtoadcnhcfodkgaaGreatDoorMath
namespace Go.Proofs.YtoadcnhcfodkgaaGreatDoor

def at0L : List Int := [-293500, 0, -14103, 45455, -25562, 0, 29509, -31336, 16487, -8142, 13609, 0, -24042, -569, 12438, 2376, 4534, -5496, 8947, 0, 7996, 2786, 558, -1340, -2811, 2120, 120, -3754, -2329, 0, 3690, 453, 1872, 2200, -1387, -1229, -1419, 429, 209, 1062, 643, 0, 638, -184, 767, 168, -1157, 489, -409, -598, 149, 109, -608, 728]
def yr0L : List Int := [126, 0, 100, -215, -112, 0, -53, -273, -83, -111]
def at0 (i : Nat) : Int := at0L.getD i 0
def yr0 (i : Nat) : Int := yr0L.getD i 0
/-- Where a degree and an order stand in the tables. -/
def nIdx (n m : Nat) : Nat := n * (n + 1) / 2 - 1 + m
end Go.Proofs.YtoadcnhcfodkgaaGreatDoor
