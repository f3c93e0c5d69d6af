/-
  What package quat's matrices answer, as plain steps, for the seat Ytkeijfbpkdelpaa. No Go text in sight. (Made by mkquat2.py.)
-/
import Derived.Test.YtkeijfbpkdelpaaQSpec
namespace Go.Proofs.Ytkeijfbpkdelpaa
open Go.RowKit

abbrev V9 := Int × Int × Int × Int × Int × Int × Int × Int × Int
/-- What is worked out, or 0 where the flow is bad in the end. -/
def sound9S (bad : Bool) (v : V9) : V9 × Bool := if bad then ((0, 0, 0, 0, 0, 0, 0, 0, 0), true) else (v, false)
theorem sound9S_no (v : V9) : sound9S false v = (v, false) := rfl
/-- The greatest of four. -/
def max4 (a b c d : Int) : Int := if d > (if c > (if b > a then b else a) then c else (if b > a then b else a)) then d else (if c > (if b > a then b else a) then c else (if b > a then b else a))
def qbyWS (bad : Bool) (m : V9) (t : Int) : (V4) × Bool := let r1 := subS bad m.2.2.2.2.2.1 m.2.2.2.2.2.2.2.1; let r2 := subS r1.2 m.2.2.2.2.2.2.1 m.2.2.1; let r3 := subS r2.2 m.2.1 m.2.2.2.1; let r4 := addS r3.2 1099511627776 t; ((r1.1, r2.1, r3.1, r4.1), r4.2)
def qbyXS (bad : Bool) (m : V9) : (V4) × Bool := let r1 := addS bad 1099511627776 m.1; let r2 := subS r1.2 r1.1 m.2.2.2.2.1; let r3 := subS r2.2 r2.1 m.2.2.2.2.2.2.2.2; let r4 := addS r3.2 m.2.1 m.2.2.2.1; let r5 := addS r4.2 m.2.2.2.2.2.2.1 m.2.2.1; let r6 := subS r5.2 m.2.2.2.2.2.1 m.2.2.2.2.2.2.2.1; ((r3.1, r4.1, r5.1, r6.1), r6.2)
def qbyYS (bad : Bool) (m : V9) : (V4) × Bool := let r1 := addS bad m.2.1 m.2.2.2.1; let r2 := addS r1.2 1099511627776 m.2.2.2.2.1; let r3 := subS r2.2 r2.1 m.2.2.2.2.2.2.2.2; let r4 := subS r3.2 r3.1 m.1; let r5 := addS r4.2 m.2.2.2.2.2.1 m.2.2.2.2.2.2.2.1; let r6 := subS r5.2 m.2.2.2.2.2.2.1 m.2.2.1; ((r1.1, r4.1, r5.1, r6.1), r6.2)
def qbyZS (bad : Bool) (m : V9) : (V4) × Bool := let r1 := addS bad m.2.2.2.2.2.2.1 m.2.2.1; let r2 := addS r1.2 m.2.2.2.2.2.1 m.2.2.2.2.2.2.2.1; let r3 := addS r2.2 1099511627776 m.2.2.2.2.2.2.2.2; let r4 := subS r3.2 r3.1 m.1; let r5 := subS r4.2 r4.1 m.2.2.2.2.1; let r6 := subS r5.2 m.2.1 m.2.2.2.1; ((r1.1, r2.1, r5.1, r6.1), r6.2)
def qMatrixS (bad : Bool) (q : V4) : (V9) × Bool := let r1 := qTurnS bad q (1099511627776, 0, 0); let r2 := qTurnS r1.2 q (0, 1099511627776, 0); let r3 := qTurnS r2.2 q (0, 0, 1099511627776); let r4 := sound9S r3.2 (r1.1.1, r2.1.1, r3.1.1, r1.1.2.1, r2.1.2.1, r3.1.2.1, r1.1.2.2, r2.1.2.2, r3.1.2.2); (r4.1, r4.2)
def qFromMatrixS (bad : Bool) (m : V9) : (V4) × Bool := let r1 := addS bad m.1 m.2.2.2.2.1; let r2 := addS r1.2 r1.1 m.2.2.2.2.2.2.2.2; if (max4 r2.1 m.1 m.2.2.2.2.1 m.2.2.2.2.2.2.2.2) = r2.1 then let r3 := qbyWS r2.2 m r2.1; let r4 := qUnitS r3.2 r3.1; (r4.1, r4.2) else if (max4 r2.1 m.1 m.2.2.2.2.1 m.2.2.2.2.2.2.2.2) = m.1 then let r3 := qbyXS r2.2 m; let r4 := qUnitS r3.2 r3.1; (r4.1, r4.2) else if (max4 r2.1 m.1 m.2.2.2.2.1 m.2.2.2.2.2.2.2.2) = m.2.2.2.2.1 then let r3 := qbyYS r2.2 m; let r4 := qUnitS r3.2 r3.1; (r4.1, r4.2) else let r3 := qbyZS r2.2 m; let r4 := qUnitS r3.2 r3.1; (r4.1, r4.2)
end Go.Proofs.Ytkeijfbpkdelpaa
