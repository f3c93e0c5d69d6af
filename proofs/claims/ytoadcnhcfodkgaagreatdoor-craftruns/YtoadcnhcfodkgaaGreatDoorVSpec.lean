/-
  What package vec's functions answer, as plain steps, for the seat YtoadcnhcfodkgaaGreatDoor. No Go text in sight. (Made by mkvec.py.)
-/
import Derived.Test.YtoadcnhcfodkgaaGreatDoorMath
namespace Go.Proofs.YtoadcnhcfodkgaaGreatDoor
open Go.RowKit

abbrev V3 := Int × Int × Int
/-- What is worked out, or 0 where the flow is bad in the end. -/
def soundS (bad : Bool) (v : V3) : V3 × Bool := if bad then ((0, 0, 0), true) else (v, false)
theorem soundS_yes (v : V3) : soundS true v = ((0, 0, 0), true) := rfl
theorem soundS_no (v : V3) : soundS false v = (v, false) := rfl
def vAddS (bad : Bool) (p : V3) (q : V3) : (V3) × Bool := let r1 := addS bad p.1 q.1; let r2 := addS r1.2 p.2.1 q.2.1; let r3 := addS r2.2 p.2.2 q.2.2; let r4 := soundS r3.2 (r1.1, r2.1, r3.1); (r4.1, r4.2)
def vSubS (bad : Bool) (p : V3) (q : V3) : (V3) × Bool := let r1 := subS bad p.1 q.1; let r2 := subS r1.2 p.2.1 q.2.1; let r3 := subS r2.2 p.2.2 q.2.2; let r4 := soundS r3.2 (r1.1, r2.1, r3.1); (r4.1, r4.2)
def vScaleS (bad : Bool) (p : V3) (k : Int) : (V3) × Bool := let r1 := mulS bad p.1 k; let r2 := mulS r1.2 p.2.1 k; let r3 := mulS r2.2 p.2.2 k; let r4 := soundS r3.2 (r1.1, r2.1, r3.1); (r4.1, r4.2)
def vDotS (bad : Bool) (p : V3) (q : V3) : (Int) × Bool := let r1 := mulS bad p.1 q.1; let r2 := mulS r1.2 p.2.1 q.2.1; let r3 := addS r2.2 r1.1 r2.1; let r4 := mulS r3.2 p.2.2 q.2.2; let r5 := addS r4.2 r3.1 r4.1; (r5.1, r5.2)
def vCrossS (bad : Bool) (p : V3) (q : V3) : (V3) × Bool := let r1 := mulS bad p.2.1 q.2.2; let r2 := mulS r1.2 p.2.2 q.2.1; let r3 := subS r2.2 r1.1 r2.1; let r4 := mulS r3.2 p.2.2 q.1; let r5 := mulS r4.2 p.1 q.2.2; let r6 := subS r5.2 r4.1 r5.1; let r7 := mulS r6.2 p.1 q.2.1; let r8 := mulS r7.2 p.2.1 q.1; let r9 := subS r8.2 r7.1 r8.1; let r10 := soundS r9.2 (r3.1, r6.1, r9.1); (r10.1, r10.2)
def vNormS (bad : Bool) (p : V3) : (Int) × Bool := let r1 := normS bad p.1 p.2.1 p.2.2; (r1.1, r1.2)
def vUnitS (bad : Bool) (p : V3) : (V3) × Bool := let r1 := vNormS bad p; if r1.1 < 1048576 then ((0, 0, 0), true) else let r2 := divS r1.2 p.1 r1.1; let r3 := divS r2.2 p.2.1 r1.1; let r4 := divS r3.2 p.2.2 r1.1; ((r2.1, r3.1, r4.1), r4.2)
def vPartsS (bad : Bool) (p : V3) (q : V3) : (Int × Int) × Bool := let r1 := vUnitS bad p; let r2 := vUnitS r1.2 q; let r3 := vCrossS r2.2 r1.1 r2.1; let r4 := vNormS r3.2 r3.1; let r5 := vDotS r4.2 r1.1 r2.1; ((r4.1, r5.1), r5.2)
end Go.Proofs.YtoadcnhcfodkgaaGreatDoor
