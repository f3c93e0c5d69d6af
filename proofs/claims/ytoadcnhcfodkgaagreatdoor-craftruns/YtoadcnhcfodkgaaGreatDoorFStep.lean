/-
  The field's steps, one by one, where nothing goes bad, for the seat YtoadcnhcfodkgaaGreatDoor. No Go text in sight.
-/
import Derived.Test.YtoadcnhcfodkgaaGreatDoorVSpec
namespace Go.Proofs.YtoadcnhcfodkgaaGreatDoor

/-- The root of n n - m m. -/
def rootS (bad : Bool) (n m : Int) : Int × Bool := sqrtS bad ((n * n - m * m) * 1099511627776)
/-- How a degree and an order come to a and b. -/
structure RootT (n m a b : Int) : Type where
  (k1 k2 p : Int)
  h1 : rootS false n m = (k1, false)
  h2 : rootS false (n - 1) m = (k2, false)
  h3 : divS false k2 k1 = (a, false)
  h4 : partS false 1099511627776 (2 * n - 1) 1 = (p, false)
  h5 : divS false p k1 = (b, false)
/-- P and D of one degree more. -/
structure EntT (c s b a x1 x2 y1 y2 z1 z2 : Int) : Type where
  (v1 v2 v3 v5 v6 v7 v8 v9 : Int)
  h1 : mulS false c x1 = (v1, false)
  h2 : mulS false b v1 = (v2, false)
  h3 : mulS false a y1 = (v3, false)
  h4 : subS false v2 v3 = (z1, false)
  h5 : mulS false c x2 = (v5, false)
  h6 : mulS false s x1 = (v6, false)
  h7 : subS false v5 v6 = (v7, false)
  h8 : mulS false b v7 = (v8, false)
  h9 : mulS false a y2 = (v9, false)
  h10 : subS false v8 v9 = (z2, false)
/-- Q of one degree more. -/
structure EntQ (c b a x3 y3 z3 : Int) : Type where
  (v1 v2 v3 : Int)
  h1 : mulS false c x3 = (v1, false)
  h2 : mulS false b v1 = (v2, false)
  h3 : mulS false a y3 = (v3, false)
  h4 : subS false v2 v3 = (z3, false)
/-- Those of order n. -/
structure DiaT (n c s x1 x2 x3 z1 z2 z3 : Int) : Type where
  (p j v1 v3 v4 v5 v7 : Int)
  hp : partS false 1099511627776 (2 * n - 1) (2 * n) = (p, false)
  hj : sqrtS false p = (j, false)
  h1 : mulS false s x1 = (v1, false)
  h2 : mulS false j v1 = (z1, false)
  h3 : mulS false s x2 = (v3, false)
  h4 : mulS false c x1 = (v4, false)
  h5 : addS false v3 v4 = (v5, false)
  h6 : mulS false j v5 = (z2, false)
  h7 : mulS false s x3 = (v7, false)
  h8 : mulS false j v7 = (z3, false)
/-- The cosine and the sine of one multiple more of the longitude. -/
structure WaveT (C S u v C' S' : Int) : Type where
  (v1 v2 v4 v5 : Int)
  h1 : mulS false C u = (v1, false)
  h2 : mulS false S v = (v2, false)
  h3 : subS false v1 v2 = (C', false)
  h4 : mulS false S u = (v4, false)
  h5 : mulS false C v = (v5, false)
  h6 : addS false v4 v5 = (S', false)
/-- What one degree and order add. -/
structure TermT (n m t C S g h P D Q up so ea up' so' ea' : Int) : Type where
  (v1 v2 e v4 v5 o y1 z1 p1 y2 z2 y3 z3 p3 : Int)
  h1 : mulS false g C = (v1, false)
  h2 : mulS false h S = (v2, false)
  h3 : addS false v1 v2 = (e, false)
  h4 : mulS false g S = (v4, false)
  h5 : mulS false h C = (v5, false)
  h6 : subS false v4 v5 = (o, false)
  i1 : mulS false e P = (y1, false)
  j1 : mulS false t y1 = (z1, false)
  q1 : partS false z1 (n + 1) 1 = (p1, false)
  a1 : addS false up p1 = (up', false)
  i2 : mulS false e D = (y2, false)
  j2 : mulS false t y2 = (z2, false)
  a2 : subS false so z2 = (so', false)
  i3 : mulS false o Q = (y3, false)
  j3 : mulS false t y3 = (z3, false)
  q3 : partS false z3 m 1 = (p3, false)
  a3 : addS false ea p3 = (ea', false)
  a0 : m = 0 → ea' = ea
/-- Up, south and east as x, y and z. -/
structure VecT (c s u v up so ea x y z : Int) : Type where
  (v1 v2 a v4 v5 v7 v8 v10 v11 : Int)
  h1 : mulS false up s = (v1, false)
  h2 : mulS false so c = (v2, false)
  h3 : addS false v1 v2 = (a, false)
  h4 : mulS false a u = (v4, false)
  h5 : mulS false ea v = (v5, false)
  h6 : subS false v4 v5 = (x, false)
  h7 : mulS false a v = (v7, false)
  h8 : mulS false ea u = (v8, false)
  h9 : addS false v7 v8 = (y, false)
  h10 : mulS false up c = (v10, false)
  h11 : mulS false so s = (v11, false)
  h12 : subS false v10 v11 = (z, false)
end Go.Proofs.YtoadcnhcfodkgaaGreatDoor
