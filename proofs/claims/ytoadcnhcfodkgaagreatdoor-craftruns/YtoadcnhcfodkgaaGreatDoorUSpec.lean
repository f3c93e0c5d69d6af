/-
  What package alidaderef03's functions answer, as plain steps, for the seat YtoadcnhcfodkgaaGreatDoor. No Go text in sight. (Made by mkref03.py.)
-/
import Derived.Test.YtoadcnhcfodkgaaGreatDoorVSpec
namespace Go.Proofs.YtoadcnhcfodkgaaGreatDoor
open Go.RowKit

def uAddS (bad : Bool) (p : V3) (q : V3) : (V3) × Bool := let r1 := addS bad p.1 q.1; let r2 := addS r1.2 p.2.1 q.2.1; let r3 := addS r2.2 p.2.2 q.2.2; let r4 := soundS r3.2 (r1.1, r2.1, r3.1); (r4.1, r4.2)
def uSubS (bad : Bool) (p : V3) (q : V3) : (V3) × Bool := let r1 := subS bad p.1 q.1; let r2 := subS r1.2 p.2.1 q.2.1; let r3 := subS r2.2 p.2.2 q.2.2; let r4 := soundS r3.2 (r1.1, r2.1, r3.1); (r4.1, r4.2)
def uScaleS (bad : Bool) (p : V3) (k : Int) : (V3) × Bool := let r1 := mulS bad p.1 k; let r2 := mulS r1.2 p.2.1 k; let r3 := mulS r2.2 p.2.2 k; let r4 := soundS r3.2 (r1.1, r2.1, r3.1); (r4.1, r4.2)
def uDotS (bad : Bool) (p : V3) (q : V3) : (Int) × Bool := let r1 := mulS bad p.1 q.1; let r2 := mulS r1.2 p.2.1 q.2.1; let r3 := mulS r2.2 p.2.2 q.2.2; let r4 := addS r3.2 r1.1 r2.1; let r5 := addS r4.2 r4.1 r3.1; (r5.1, r5.2)
def uCrossS (bad : Bool) (p : V3) (q : V3) : (V3) × Bool := let r1 := mulS bad p.2.1 q.2.2; let r2 := mulS r1.2 p.2.2 q.2.1; let r3 := subS r2.2 r1.1 r2.1; let r4 := mulS r3.2 p.2.2 q.1; let r5 := mulS r4.2 p.1 q.2.2; let r6 := subS r5.2 r4.1 r5.1; let r7 := mulS r6.2 p.1 q.2.1; let r8 := mulS r7.2 p.2.1 q.1; let r9 := subS r8.2 r7.1 r8.1; let r10 := soundS r9.2 (r3.1, r6.1, r9.1); (r10.1, r10.2)
def uNormS (bad : Bool) (p : V3) : (Int) × Bool := let r1 := normS bad p.1 p.2.1 p.2.2; (r1.1, r1.2)
def uUnitS (bad : Bool) (p : V3) : (V3) × Bool := let r1 := uNormS bad p; if r1.1 < 1048576 then let r3 := divS true p.1 r1.1; let r4 := divS r3.2 p.2.1 r1.1; let r5 := divS r4.2 p.2.2 r1.1; let r6 := soundS r5.2 (r3.1, r4.1, r5.1); (r6.1, r6.2) else let r2 := divS r1.2 p.1 r1.1; let r3 := divS r2.2 p.2.1 r1.1; let r4 := divS r3.2 p.2.2 r1.1; let r5 := soundS r4.2 (r2.1, r3.1, r4.1); (r5.1, r5.2)
def uPartsS (bad : Bool) (p : V3) (q : V3) : (Int × Int) × Bool := let r1 := uUnitS bad p; let r2 := uUnitS r1.2 q; let r3 := uCrossS r2.2 r1.1 r2.1; let r4 := uNormS r3.2 r3.1; let r5 := uDotS r4.2 r1.1 r2.1; if r5.2 then ((0, 0), r5.2) else ((r4.1, r5.1), r5.2)
end Go.Proofs.YtoadcnhcfodkgaaGreatDoor
