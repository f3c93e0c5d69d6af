/-
  The field in axes that turn with the Earth: its steps, one by one, where nothing goes bad, for the seat YtoadcnhcfodkgaaGreatDoor. No Go text in sight.
-/
import Derived.Test.YtoadcnhcfodkgaaGreatDoorFShape
import Derived.Test.YtoadcnhcfodkgaaGreatDoorFNum
namespace Go.Proofs.YtoadcnhcfodkgaaGreatDoor

/-- The longitude's cosine and sine. -/
def lonS (bad : Bool) (p : V3) (w : Int) : (Int × Int) × Bool :=
  if w < 1048576 then ((1099511627776, 0), bad) else (((divS bad p.1 w).1, (divS (divS bad p.1 w).2 p.2.1 w).1), (divS (divS bad p.1 w).2 p.2.1 w).2)
/-- All steps of the field at a place whose distance is r, at a right tick; (x, y, z) is the field. -/
structure EarthT (p : V3) (t r : Int) (x y z : Int) : Type where
  (wn c s u v nr : Int)
  (g tt : Nat → Int)
  (P D Q G H : Nat → Nat → Int)
  (st : Nat → Nat → V3)
  hw : vNormS false (p.1, p.2.1, 0) = (wn, false)
  hc : divS false p.2.2 r = (c, false)
  hs : divS false wn r = (s, false)
  hl : lonS false p wn = ((u, v), false)
  hq : divS false 7005208482886 r = (nr, false)
  g0 : g 0 = 1099511627776
  g7 : g 7 = 0
  W : ∀ m, m < 6 → Nonempty (WaveT (g m) (g (7 + m)) u v (g (m + 1)) (g (8 + m)))
  Z : Tri c s P D Q
  ic : I64 c
  is : I64 s
  t0 : mulS false nr nr = (tt 0, false)
  tn : ∀ k, k < 6 → mulS false (tt k) nr = (tt (k + 1), false)
  N : ∀ n m : Nat, 1 ≤ n → n ≤ 6 → m ≤ n → numS false (n : Int) (m : Int) t = ((G n m, H n m), false)
  s0 : st 1 0 = (0, 0, 0)
  sn : ∀ n, 1 ≤ n → n ≤ 6 → st n (n + 1) = st (n + 1) 0
  T : ∀ n m : Nat, 1 ≤ n → n ≤ 6 → m ≤ n → TermT (n : Int) (m : Int) (tt n) (g m) (g (7 + m)) (G n m) (H n m) (P n m) (D n m) (Q n m) (st n m).1 (st n m).2.1 (st n m).2.2 (st n (m + 1)).1 (st n (m + 1)).2.1 (st n (m + 1)).2.2
  V : VecT c s u v (st 7 0).1 (st 7 0).2.1 (st 7 0).2.2 x y z
end Go.Proofs.YtoadcnhcfodkgaaGreatDoor
