/-
  What package quat's functions answer, as plain steps, for the seat YtoadcnhcfodkgaaGreatDoor. No Go text in sight. (Made by mkquat.py.)
-/
import Derived.Test.YtoadcnhcfodkgaaGreatDoorVSpec
namespace Go.Proofs.YtoadcnhcfodkgaaGreatDoor
open Go.RowKit

abbrev V4 := Int × Int × Int × Int
/-- What is worked out, or 0 where the flow is bad in the end. -/
def sound4S (bad : Bool) (v : V4) : V4 × Bool := if bad then ((0, 0, 0, 0), true) else (v, false)
theorem sound4S_yes (v : V4) : sound4S true v = ((0, 0, 0, 0), true) := rfl
theorem sound4S_no (v : V4) : sound4S false v = (v, false) := rfl
/-- The other sign; what is no number stays. -/
def minusS (a : Int) : Int := if a < -4611686018427387904 then a else if 4611686018427387904 < a then a else -a
theorem minusS_lo {a : Int} (h : a < -4611686018427387904) : minusS a = a := by unfold minusS; rw [if_pos h]
theorem minusS_hi {a : Int} (h : 4611686018427387904 < a) : minusS a = a := by unfold minusS; rw [if_neg (by omega), if_pos h]
theorem minusS_in {a : Int} (h : -4611686018427387904 ≤ a) (k : a ≤ 4611686018427387904) : minusS a = -a := by unfold minusS; rw [if_neg (by omega), if_neg (by omega)]
def partedS (q : V4) : V3 × Int := ((q.1, q.2.1, q.2.2.1), q.2.2.2)
def joinedS (p : V3) (k : Int) : V4 := (p.1, p.2.1, p.2.2, k)
def uprightS (q : V4) : V4 := if q.2.2.2 ≥ 0 then q else let r1 := minusS q.1; let r2 := minusS q.2.1; let r3 := minusS q.2.2.1; let r4 := minusS q.2.2.2; (r1, r2, r3, r4)
def qBackS (q : V4) : V4 := let r1 := minusS q.1; let r2 := minusS q.2.1; let r3 := minusS q.2.2.1; (r1, r2, r3, q.2.2.2)
def qMulS (bad : Bool) (p : V4) (q : V4) : (V4) × Bool := let r3 := vScaleS bad (p.1, p.2.1, p.2.2.1) q.2.2.2; let r4 := vScaleS r3.2 (q.1, q.2.1, q.2.2.1) p.2.2.2; let r5 := vAddS r4.2 r3.1 r4.1; let r6 := vCrossS r5.2 (q.1, q.2.1, q.2.2.1) (p.1, p.2.1, p.2.2.1); let r7 := vAddS r6.2 r5.1 r6.1; let r8 := mulS r7.2 p.2.2.2 q.2.2.2; let r9 := vDotS r8.2 (p.1, p.2.1, p.2.2.1) (q.1, q.2.1, q.2.2.1); let r10 := subS r9.2 r8.1 r9.1; let r12 := sound4S r10.2 (r7.1.1, r7.1.2.1, r7.1.2.2, r10.1); (r12.1, r12.2)
def qUnitS (bad : Bool) (q : V4) : (V4) × Bool := let r2 := vNormS bad (q.1, q.2.1, q.2.2.1); let r3 := normS r2.2 r2.1 q.2.2.2 0; if r3.1 < 549755813888 then ((0, 0, 0, 0), true) else let r4 := divS r3.2 q.1 r3.1; let r5 := divS r4.2 q.2.1 r3.1; let r6 := divS r5.2 q.2.2.1 r3.1; let r7 := divS r6.2 q.2.2.2 r3.1; let r8 := uprightS (r4.1, r5.1, r6.1, r7.1); (r8, r7.2)
def qTurnS (bad : Bool) (q : V4) (v : V3) : (V3) × Bool := let r2 := vCrossS bad (q.1, q.2.1, q.2.2.1) v; let r3 := vScaleS r2.2 r2.1 2199023255552; let r4 := vScaleS r3.2 r3.1 q.2.2.2; let r5 := vSubS r4.2 v r4.1; let r6 := vCrossS r5.2 (q.1, q.2.1, q.2.2.1) r3.1; let r7 := vAddS r6.2 r5.1 r6.1; (r7.1, r7.2)
def qFromRodS (bad : Bool) (p : V3) : (V4) × Bool := let r1 := vDotS bad p p; let r2 := addS r1.2 17592186044416 r1.1; let r3 := mulS r2.2 p.1 8796093022208; let r4 := divS r3.2 r3.1 r2.1; let r5 := mulS r4.2 p.2.1 8796093022208; let r6 := divS r5.2 r5.1 r2.1; let r7 := mulS r6.2 p.2.2 8796093022208; let r8 := divS r7.2 r7.1 r2.1; let r9 := subS r8.2 17592186044416 r1.1; let r10 := divS r9.2 r9.1 r2.1; let r11 := qUnitS r10.2 (r4.1, r6.1, r8.1, r10.1); (r11.1, r11.2)
def qToRodS (bad : Bool) (q : V4) : (V3) × Bool := let r1 := uprightS q; let r2 := addS bad 1099511627776 r1.2.2.2; let r3 := mulS r2.2 r1.1 4398046511104; let r4 := divS r3.2 r3.1 r2.1; let r5 := mulS r4.2 r1.2.1 4398046511104; let r6 := divS r5.2 r5.1 r2.1; let r7 := mulS r6.2 r1.2.2.1 4398046511104; let r8 := divS r7.2 r7.1 r2.1; let r9 := soundS r8.2 (r4.1, r6.1, r8.1); (r9.1, r9.2)
end Go.Proofs.YtoadcnhcfodkgaaGreatDoor
