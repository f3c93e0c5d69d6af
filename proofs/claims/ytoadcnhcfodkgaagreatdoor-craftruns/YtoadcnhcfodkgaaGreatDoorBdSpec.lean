/-
  What package bdot's functions answer, as plain steps, for the seat YtoadcnhcfodkgaaGreatDoor. No Go text in sight. (Made by mkbdot.py.)
-/
import Derived.Test.YtoadcnhcfodkgaaGreatDoorVSpec
namespace Go.Proofs.YtoadcnhcfodkgaaGreatDoor
open Go.RowKit

abbrev D7 := Int × Int × Int × Int × Int × Int × Int
abbrev Dr := Bool × Int × Int × Int × Int × Int × Int × Int
def goesS (d : Dr) (k : Int) : Bool := d.1 && (decide (10 ≤ k - d.2.1) && decide (k - d.2.1 ≤ 10000))
theorem goes_in {d : Dr} {k : Int} (h : goesS d k = true) : 10 ≤ k - d.2.1 ∧ k - d.2.1 ≤ 10000 := by
  unfold goesS at h
  simp only [Bool.and_eq_true, decide_eq_true_eq] at h
  exact h.2
def bpartS (bad : Bool) (a : V3) (p : Int) (q : Int) : (V3) × Bool := let r1 := partS bad a.1 p q; let r3 := partS r1.2 a.2.1 p q; let r5 := partS r3.2 a.2.2 p q; ((r1.1, r3.1, r5.1), r5.2)
def leanS (bad : Bool) (d : Dr) (v : V3) (t : Int) : (V3) × Bool := let r1 := vSubS bad v (d.2.2.1, d.2.2.2.1, d.2.2.2.2.1); let r2 := bpartS r1.2 r1.1 1000 t; let r3 := vSubS r2.2 r2.1 d.2.2.2.2.2; let r4 := bpartS r3.2 r3.1 t (t + 2000); let r5 := vAddS r4.2 d.2.2.2.2.2 r4.1; (r5.1, r5.2)
def bStepS (bad : Bool) (d : Dr) (v : V3) (k : Int) : (Dr) × Bool := let r1 := goesS d k; if r1 then let r2 := leanS bad d v (k - d.2.1); let r3 := vAddS r2.2 v (0, 0, 0); if r3.2 then ((false, 0, 0, 0, 0, 0, 0, 0), r3.2) else ((true, k, r3.1.1, r3.1.2.1, r3.1.2.2, r2.1.1, r2.1.2.1, r2.1.2.2), r3.2) else let r2 := vAddS bad v (0, 0, 0); if r2.2 then ((false, 0, 0, 0, 0, 0, 0, 0), r2.2) else ((true, k, r2.1.1, r2.1.2.1, r2.1.2.2, 0, 0, 0), r2.2)
def clampS (v : Int) : Int := max (-219902325555) (min v 219902325555)
def bDip1 (bad : Bool) (d : D7) : V3 × Bool := let r1 := vScaleS bad d.2.2.2.2 (-274877906944); ((clampS r1.1.1, clampS r1.1.2.1, clampS r1.1.2.2), r1.2)
def bDip0 (bad : Bool) (_ : D7) : (V3) × Bool := ((0, 0, 0), bad)
def rDip1 (bad : Bool) (d : D7) : V3 × Bool := let r1 := mulS bad d.2.2.2.2.1 (-274877906944); let r2 := mulS r1.2 d.2.2.2.2.2.1 (-274877906944); let r3 := mulS r2.2 d.2.2.2.2.2.2 (-274877906944); if r3.2 then ((0, 0, 0), r3.2) else ((clampS r1.1, clampS r2.1, clampS r3.1), r3.2)
def bDipS (bad : Bool) (d : Dr) : V3 × Bool := if d.1 then bDip1 bad d.2 else bDip0 bad d.2
end Go.Proofs.YtoadcnhcfodkgaaGreatDoor
