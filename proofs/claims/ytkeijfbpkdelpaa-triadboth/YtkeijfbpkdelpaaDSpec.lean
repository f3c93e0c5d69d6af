/-
  What package triad's functions answer, as plain steps, for the seat Ytkeijfbpkdelpaa. No Go text in sight. (Made by mktriad.py.)
-/
import Derived.Test.YtkeijfbpkdelpaaQMSpec
namespace Go.Proofs.Ytkeijfbpkdelpaa
open Go.RowKit

abbrev V6 := Int × Int × Int × Int × Int × Int
/-- A place of a matrix: three products, added up. -/
def plS (bad : Bool) (a b c d e f : Int) : Int × Bool := let r1 := mulS bad a b; let r2 := mulS r1.2 c d; let r3 := addS r2.2 r1.1 r2.1; let r4 := mulS r3.2 e f; addS r4.2 r3.1 r4.1
def dApartS (bad : Bool) (p : V3) (q : V3) : (Bool) × Bool := let r1 := vPartsS bad p q; ((decide (r1.1.1 ≥ 190928190487)), r1.2)
def daxesS (bad : Bool) (p : V6) : (V9) × Bool := let r1 := vUnitS bad (p.1, p.2.1, p.2.2.1); let r2 := vUnitS r1.2 p.2.2.2; let r3 := vCrossS r2.2 r1.1 r2.1; let r4 := vUnitS r3.2 r3.1; let r5 := vCrossS r4.2 r1.1 r4.1; ((r1.1.1, r1.1.2.1, r1.1.2.2, r4.1.1, r4.1.2.1, r4.1.2.2, r5.1.1, r5.1.2.1, r5.1.2.2), r5.2)
def dbetweenS (bad : Bool) (p : V9) (q : V9) : (V9) × Bool := let r5 := plS bad q.1 p.1 q.2.2.2.1 p.2.2.2.1 q.2.2.2.2.2.2.1 p.2.2.2.2.2.2.1; let r11 := plS r5.2 q.1 p.2.1 q.2.2.2.1 p.2.2.2.2.1 q.2.2.2.2.2.2.1 p.2.2.2.2.2.2.2.1; let r17 := plS r11.2 q.1 p.2.2.1 q.2.2.2.1 p.2.2.2.2.2.1 q.2.2.2.2.2.2.1 p.2.2.2.2.2.2.2.2; let r23 := plS r17.2 q.2.1 p.1 q.2.2.2.2.1 p.2.2.2.1 q.2.2.2.2.2.2.2.1 p.2.2.2.2.2.2.1; let r29 := plS r23.2 q.2.1 p.2.1 q.2.2.2.2.1 p.2.2.2.2.1 q.2.2.2.2.2.2.2.1 p.2.2.2.2.2.2.2.1; let r35 := plS r29.2 q.2.1 p.2.2.1 q.2.2.2.2.1 p.2.2.2.2.2.1 q.2.2.2.2.2.2.2.1 p.2.2.2.2.2.2.2.2; let r41 := plS r35.2 q.2.2.1 p.1 q.2.2.2.2.2.1 p.2.2.2.1 q.2.2.2.2.2.2.2.2 p.2.2.2.2.2.2.1; let r47 := plS r41.2 q.2.2.1 p.2.1 q.2.2.2.2.2.1 p.2.2.2.2.1 q.2.2.2.2.2.2.2.2 p.2.2.2.2.2.2.2.1; let r53 := plS r47.2 q.2.2.1 p.2.2.1 q.2.2.2.2.2.1 p.2.2.2.2.2.1 q.2.2.2.2.2.2.2.2 p.2.2.2.2.2.2.2.2; ((r5.1, r11.1, r17.1, r23.1, r29.1, r35.1, r41.1, r47.1, r53.1), r53.2)
def dAttitudeS (bad : Bool) (p : V6) (q : V6) : (V4) × Bool := let r1 := dApartS bad (p.1, p.2.1, p.2.2.1) p.2.2.2; if r1.1 then let r2 := dApartS r1.2 (q.1, q.2.1, q.2.2.1) q.2.2.2; if r2.1 then let r3 := daxesS r2.2 p; let r4 := daxesS r3.2 q; let r5 := dbetweenS r4.2 r3.1 r4.1; let r6 := qFromMatrixS r5.2 r5.1; (r6.1, r6.2) else ((0, 0, 0, 0), true) else ((0, 0, 0, 0), true)
end Go.Proofs.Ytkeijfbpkdelpaa
