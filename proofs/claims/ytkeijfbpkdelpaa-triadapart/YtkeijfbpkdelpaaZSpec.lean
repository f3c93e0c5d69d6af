/-
  What package alidaderef05 answers, as plain steps, for the seat Ytkeijfbpkdelpaa. No Go text in sight. (Made by mkref05.py.)
-/
import Derived.Test.YtkeijfbpkdelpaaXFSpec
import Derived.Test.YtkeijfbpkdelpaaDSpec
import Derived.Test.YtkeijfbpkdelpaaUSpec
namespace Go.Proofs.Ytkeijfbpkdelpaa
open Go.RowKit

/-- A place of a matrix: three products, then added up. -/
def zlS (bad : Bool) (a b c d e f : Int) : Int × Bool := let r1 := mulS bad a b; let r2 := mulS r1.2 c d; let r3 := mulS r2.2 e f; let r4 := addS r3.2 r1.1 r2.1; addS r4.2 r4.1 r3.1
def zApartS (bad : Bool) (p : V3) (q : V3) : (Bool) × Bool := let r1 := uPartsS bad p q; if r1.2 then (false, r1.2) else ((decide (r1.1.1 ≥ 190928190487)), r1.2)
def zframeS (bad : Bool) (p : V6) : (V9) × Bool := let r1 := uUnitS bad (p.1, p.2.1, p.2.2.1); let r2 := uUnitS r1.2 p.2.2.2; let r3 := uCrossS r2.2 r1.1 r2.1; let r4 := uUnitS r3.2 r3.1; let r5 := uCrossS r4.2 r1.1 r4.1; ((r1.1.1, r1.1.2.1, r1.1.2.2, r4.1.1, r4.1.2.1, r4.1.2.2, r5.1.1, r5.1.2.1, r5.1.2.2), r5.2)
def zAttitudeS (bad : Bool) (p : V6) (q : V6) : (V4) × Bool := let r1 := zApartS bad (p.1, p.2.1, p.2.2.1) p.2.2.2; let r2 := zApartS r1.2 (q.1, q.2.1, q.2.2.1) q.2.2.2; if r1.1 then if r2.1 then let r3 := zframeS r2.2 p; let r4 := zframeS r3.2 q; let r9 := zlS r4.2 r4.1.1 r3.1.1 r4.1.2.2.2.1 r3.1.2.2.2.1 r4.1.2.2.2.2.2.2.1 r3.1.2.2.2.2.2.2.1; let r15 := zlS r9.2 r4.1.1 r3.1.2.1 r4.1.2.2.2.1 r3.1.2.2.2.2.1 r4.1.2.2.2.2.2.2.1 r3.1.2.2.2.2.2.2.2.1; let r21 := zlS r15.2 r4.1.1 r3.1.2.2.1 r4.1.2.2.2.1 r3.1.2.2.2.2.2.1 r4.1.2.2.2.2.2.2.1 r3.1.2.2.2.2.2.2.2.2; let r27 := zlS r21.2 r4.1.2.1 r3.1.1 r4.1.2.2.2.2.1 r3.1.2.2.2.1 r4.1.2.2.2.2.2.2.2.1 r3.1.2.2.2.2.2.2.1; let r33 := zlS r27.2 r4.1.2.1 r3.1.2.1 r4.1.2.2.2.2.1 r3.1.2.2.2.2.1 r4.1.2.2.2.2.2.2.2.1 r3.1.2.2.2.2.2.2.2.1; let r39 := zlS r33.2 r4.1.2.1 r3.1.2.2.1 r4.1.2.2.2.2.1 r3.1.2.2.2.2.2.1 r4.1.2.2.2.2.2.2.2.1 r3.1.2.2.2.2.2.2.2.2; let r45 := zlS r39.2 r4.1.2.2.1 r3.1.1 r4.1.2.2.2.2.2.1 r3.1.2.2.2.1 r4.1.2.2.2.2.2.2.2.2 r3.1.2.2.2.2.2.2.1; let r51 := zlS r45.2 r4.1.2.2.1 r3.1.2.1 r4.1.2.2.2.2.2.1 r3.1.2.2.2.2.1 r4.1.2.2.2.2.2.2.2.2 r3.1.2.2.2.2.2.2.2.1; let r57 := zlS r51.2 r4.1.2.2.1 r3.1.2.2.1 r4.1.2.2.2.2.2.1 r3.1.2.2.2.2.2.1 r4.1.2.2.2.2.2.2.2.2 r3.1.2.2.2.2.2.2.2.2; let r59 := xFromMatrixS r57.2 (r9.1, r15.1, r21.1, r27.1, r33.1, r39.1, r45.1, r51.1, r57.1); (r59.1, r59.2) else ((0, 0, 0, 0), true) else ((0, 0, 0, 0), true)
end Go.Proofs.Ytkeijfbpkdelpaa
