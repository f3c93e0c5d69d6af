/- A part. -/
import Derived.Test.YtooehgijllihdaaJA
import Derived.Test.YtooehgijllihdaaJC
namespace Go.Proofs.Ytooehgijllihdaa
open Go.RowKit
def zApplyS_l1 (m : Nat → Int) (p : Nat → Int) (i : Nat) (z : Int × Bool) : Nat → Int × Bool
 | 0 => z
 | k + 1 => let s1 := zApplyS_l1 m p i z k; let p1 := mulS s1.2 (m (i * 6 + k)) (p k); let p2 := addS p1.2 s1.1 p1.1; (p2.1, p2.2)
def zApplyS_l0 (m : Nat → Int) (p : Nat → Int) (n : Nat) (z : (Nat → Int) × Bool) : Nat → (Nat → Int) × Bool
 | 0 => z
 | i + 1 => let s0 := zApplyS_l0 m p n z i; let p1 := zApplyS_l1 m p i (0, s0.2) n; ((updF s0.1 i p1.1), p1.2)
def zApplyS (bad : Bool) (m : Nat → Int) (p : Nat → Int) (n : Nat) : (Nat → Int) × Bool := let r2 := zApplyS_l0 m p n ((fun _ => 0), bad) n; if r2.2 then ((fun _ => 0), r2.2) else (r2.1, r2.2)
def zRootS_l2 (i : Nat) (j : Nat) (s1 : (Nat → Int) × Bool) (z : Int × Bool) : Nat → Int × Bool
 | 0 => z
 | k + 1 => let s2 := zRootS_l2 i j s1 z k; let p1 := mulS s2.2 (s1.1 (i * 6 + k)) (s1.1 (j * 6 + k)); let p2 := subS p1.2 s2.1 p1.1; (p2.1, p2.2)
def zRootS_l1 (m : Nat → Int) (i : Nat) (z : (Nat → Int) × Bool) : Nat → (Nat → Int) × Bool
 | 0 => z
 | j + 1 => let s1 := zRootS_l1 m i z j; let p1 := addS s1.2 (m (i * 6 + j)) 0; let p2 := zRootS_l2 i j s1 (p1.1, p1.2) j; if (i : Int) = (j : Int) then if p2.1 < 1 then let p3 := sqrtS true p2.1; ((updF s1.1 (i * 6 + j) p3.1), p3.2) else let p4 := sqrtS p2.2 p2.1; ((updF s1.1 (i * 6 + j) p4.1), p4.2) else let p4 := divS p2.2 p2.1 (s1.1 (j * 6 + j)); ((updF s1.1 (i * 6 + j) p4.1), p4.2)
def zRootS_l0 (m : Nat → Int) (z : (Nat → Int) × Bool) : Nat → (Nat → Int) × Bool
 | 0 => z
 | i + 1 => let s0 := zRootS_l0 m z i; let p1 := zRootS_l1 m i (s0.1, s0.2) (i + 1); (p1.1, p1.2)
def zRootS (bad : Bool) (m : Nat → Int) (n : Nat) : (Nat → Int) × Bool := let r3 := zRootS_l0 m ((fun _ => 0), bad) n; if r3.2 then ((fun _ => 0), r3.2) else (r3.1, r3.2)
def zSolveS_l3 (l : Nat → Int) (i : Nat) (s2 : (Nat → Int) × Bool) (z : Int × Bool) : Nat → Int × Bool
 | 0 => z
 | k + 1 => let s3 := zSolveS_l3 l i s2 z k; let p1 := mulS s3.2 (l (i * 6 + k)) (s2.1 k); let p2 := subS p1.2 s3.1 p1.1; (p2.1, p2.2)
def zSolveS_l2 (l : Nat → Int) (p : Nat → Int) (z : (Nat → Int) × Bool) : Nat → (Nat → Int) × Bool
 | 0 => z
 | i + 1 => let s2 := zSolveS_l2 l p z i; let p1 := addS s2.2 (p i) 0; let p2 := zSolveS_l3 l i s2 (p1.1, p1.2) i; let p3 := divS p2.2 p2.1 (l (i * 6 + i)); ((updF s2.1 i p3.1), p3.2)
def zSolveS_l1 (l : Nat → Int) (i : Nat) (s0 : (Nat → Int) × Bool) (z : Int × Bool) : Nat → Int × Bool
 | 0 => z
 | k + 1 => let s1 := zSolveS_l1 l i s0 z k; let u := i + 1 + k; let p1 := mulS s1.2 (l (u * 6 + i)) (s0.1 u); let p2 := subS p1.2 s1.1 p1.1; (p2.1, p2.2)
def zSolveS_l0 (l : Nat → Int) (n : Nat) (r3 : (Nat → Int) × Bool) (z : (Nat → Int) × Bool) : Nat → (Nat → Int) × Bool
 | 0 => z
 | d + 1 => let s0 := zSolveS_l0 l n r3 z d; let i := n - 1 - d; let p1 := zSolveS_l1 l i s0 ((r3.1 i), s0.2) d; let p2 := divS p1.2 p1.1 (l (i * 6 + i)); ((updF s0.1 i p2.1), p2.2)
def zSolveS (bad : Bool) (l : Nat → Int) (p : Nat → Int) (n : Nat) : (Nat → Int) × Bool := let r3 := zSolveS_l2 l p ((fun _ => 0), bad) n; let r4 := zSolveS_l0 l n r3 ((fun _ => 0), r3.2) n; if r4.2 then ((fun _ => 0), r4.2) else (r4.1, r4.2)
end Go.Proofs.Ytooehgijllihdaa
namespace Go.Proofs.Ytooehgijllihdaa
open Go.RowKit
def zRoot6 (bad : Bool) (m : Nat → Int) : (Nat → Int) × Bool := if bad then ((fun _ => 0), true) else zRootS false m 6
def zSolve6 (bad : Bool) (l : Nat → Int) (p : Nat → Int) : (Nat → Int) × Bool := if bad then ((fun _ => 0), true) else zSolveS false l p 6
def zApply6 (bad : Bool) (m : Nat → Int) (p : Nat → Int) : (Nat → Int) × Bool := if bad then ((fun _ => 0), true) else zApplyS false m p 6
theorem zRoot6_good (m : Nat → Int) : zRoot6 false m = zRootS false m 6 := by unfold zRoot6; rw [if_neg (by decide)]
theorem zSolve6_good (l p : Nat → Int) : zSolve6 false l p = zSolveS false l p 6 := by unfold zSolve6; rw [if_neg (by decide)]
theorem zApply6_good (m p : Nat → Int) : zApply6 false m p = zApplyS false m p 6 := by unfold zApply6; rw [if_neg (by decide)]
end Go.Proofs.Ytooehgijllihdaa
namespace Go.Proofs.Ytooehgijllihdaa
open Go.RowKit
abbrev V6 := Int × Int × Int × Int × Int × Int
def ffirstP (r : Nat → Int) : V3 := ((r 0), (r 1), (r 2))
def fmeanS_l0s (x : Nat → Int) (i : Nat) (k : Nat) (s0 : Int × Bool) : Int × Bool := let p1 := addS s0.2 s0.1 (x ((k + 1 : Nat) * 6 + i)); (p1.1, p1.2)
def fmeanS_l0 (x : Nat → Int) (i : Nat) (z : Int × Bool) : Nat → Int × Bool
 | 0 => z
 | k + 1 => fmeanS_l0s x i k (fmeanS_l0 x i z k)
theorem fmeanS_l0_succ (x : Nat → Int) (i : Nat) (z : Int × Bool) (k : Nat) : fmeanS_l0 x i z (k + 1) = fmeanS_l0s x i k (fmeanS_l0 x i z k) := rfl
def fmeanS (bad : Bool) (x : Nat → Int) (i : Nat) : (Int) × Bool := let r1 := addS bad 0 (x i); let r2 := addS r1.2 r1.1 (x i); let r4 := fmeanS_l0 x i (r2.1, r2.2) 12; let r5 := partS r4.2 r4.1 1 14; (r5.1, r5.2)
def fproductsS_l0s (x : Nat → Int) (i : Nat) (y : Nat → Int) (j : Nat) (k : Nat) (s0 : (Nat → Int) × Bool) : (Nat → Int) × Bool := let p1 := mulS s0.2 (x (k * 6 + i)) (y (k * 6 + j)); ((updF s0.1 (k * 6) p1.1), p1.2)
def fproductsS_l0 (x : Nat → Int) (i : Nat) (y : Nat → Int) (j : Nat) (z : (Nat → Int) × Bool) : Nat → (Nat → Int) × Bool
 | 0 => z
 | k + 1 => fproductsS_l0s x i y j k (fproductsS_l0 x i y j z k)
theorem fproductsS_l0_succ (x : Nat → Int) (i : Nat) (y : Nat → Int) (j : Nat) (z : (Nat → Int) × Bool) (k : Nat) : fproductsS_l0 x i y j z (k + 1) = fproductsS_l0s x i y j k (fproductsS_l0 x i y j z k) := rfl
def fproductsS (bad : Bool) (x : Nat → Int) (i : Nat) (y : Nat → Int) (j : Nat) : (Int) × Bool := let r3 := fproductsS_l0 x i y j ((fun _ => 0), bad) 13; let r4 := fmeanS r3.2 r3.1 0; (r4.1, r4.2)
def fPointsS_l1s (r1 : (Nat → Int) × Bool) (r3 : (Int) × Bool) (k : Nat) (i : Nat) (s1 : (Nat → Int) × Bool) : (Nat → Int) × Bool := let p1 := mulS s1.2 r3.1 (r1.1 (i * 6 + k)); ((updF (updF s1.1 ((1 + k) * 6 + i) p1.1) ((7 + k) * 6 + i) (-p1.1)), p1.2)
def fPointsS_l1 (r1 : (Nat → Int) × Bool) (r3 : (Int) × Bool) (k : Nat) (z : (Nat → Int) × Bool) : Nat → (Nat → Int) × Bool
 | 0 => z
 | i + 1 => fPointsS_l1s r1 r3 k i (fPointsS_l1 r1 r3 k z i)
theorem fPointsS_l1_succ (r1 : (Nat → Int) × Bool) (r3 : (Int) × Bool) (k : Nat) (z : (Nat → Int) × Bool) (i : Nat) : fPointsS_l1 r1 r3 k z (i + 1) = fPointsS_l1s r1 r3 k i (fPointsS_l1 r1 r3 k z i) := rfl
def fPointsS_l0s (r1 : (Nat → Int) × Bool) (r3 : (Int) × Bool) (k : Nat) (s0 : (Nat → Int) × Bool) : (Nat → Int) × Bool := let p1 := fPointsS_l1 r1 r3 k (s0.1, s0.2) 6; (p1.1, p1.2)
def fPointsS_l0 (r1 : (Nat → Int) × Bool) (r3 : (Int) × Bool) (z : (Nat → Int) × Bool) : Nat → (Nat → Int) × Bool
 | 0 => z
 | k + 1 => fPointsS_l0s r1 r3 k (fPointsS_l0 r1 r3 z k)
theorem fPointsS_l0_succ (r1 : (Nat → Int) × Bool) (r3 : (Int) × Bool) (z : (Nat → Int) × Bool) (k : Nat) : fPointsS_l0 r1 r3 z (k + 1) = fPointsS_l0s r1 r3 k (fPointsS_l0 r1 r3 z k) := rfl
def fattitudeS (bad : Bool) (g : Nat → Int) (r : Nat → Int) : (V4) × Bool := let r1 := ffirstP r; let r2 := qFromRodS bad r1; let r3 := qMulS r2.2 r2.1 ((g 0), (g 1), (g 2), (g 3)); (r3.1, r3.2)
end Go.Proofs.Ytooehgijllihdaa
namespace Go.Proofs.Ytooehgijllihdaa
open Go.RowKit
def guessF (q : V4) (v : V3) (p : Nat → Int) : Nat → Int := fun i => if i < 7 then (if i = 0 then q.1 else if i = 1 then q.2.1 else if i = 2 then q.2.2.1 else if i = 3 then q.2.2.2 else if i = 4 then v.1 else if i = 5 then v.2.1 else v.2.2) else p (i - 7)
def matF (y : Nat → Int) : Nat → Int := fun i => if i < 6 then y i else 0
end Go.Proofs.Ytooehgijllihdaa
namespace Go.Proofs.Ytooehgijllihdaa
open Go.RowKit
def heitherP (i : Nat) (p : Int) (q : Int) : Int := if (i : Int) < 3 then p else q
def hpartedP (r : Nat → Int) : V3 × V3 := (((r 0), (r 1), (r 2)), ((r 3), (r 4), (r 5)))
def hjoinedP (p : V6) : V6 := p
def hSpreadS (bad : Bool) (g : Nat → Int) : (Int) × Bool := let r1 := addS bad (g 7) (g 14); let r2 := addS r1.2 r1.1 (g 21); (r2.1, r2.2)
def hsoundS (bad : Bool) (g : Nat → Int) : (Nat → Int) × Bool := if bad then ((fun _ => 0), bad) else (g, bad)
def hlessS_l0s (q : Nat → Int) (i : Nat) (s0 : (Nat → Int) × Bool) : (Nat → Int) × Bool := let p1 := subS s0.2 (s0.1 i) (q i); ((updF s0.1 i p1.1), p1.2)
def hlessS_l0 (q : Nat → Int) (z : (Nat → Int) × Bool) : Nat → (Nat → Int) × Bool
 | 0 => z
 | i + 1 => hlessS_l0s q i (hlessS_l0 q z i)
theorem hlessS_l0_succ (q : Nat → Int) (z : (Nat → Int) × Bool) (i : Nat) : hlessS_l0 q z (i + 1) = hlessS_l0s q i (hlessS_l0 q z i) := rfl
def hlessS (bad : Bool) (p : Nat → Int) (q : Nat → Int) : (Nat → Int) × Bool := let r2 := hlessS_l0 q (p, bad) 6; (r2.1, r2.2)
def hmiddleS_l0s (x : Nat → Int) (k : Nat) (s0 : Int × Bool) : Int × Bool := let p1 := addS s0.2 s0.1 (x k); (p1.1, p1.2)
def hmiddleS_l0 (x : Nat → Int) (z : Int × Bool) : Nat → Int × Bool
 | 0 => z
 | k + 1 => hmiddleS_l0s x k (hmiddleS_l0 x z k)
theorem hmiddleS_l0_succ (x : Nat → Int) (z : Int × Bool) (k : Nat) : hmiddleS_l0 x z (k + 1) = hmiddleS_l0s x k (hmiddleS_l0 x z k) := rfl
def hmiddleS (bad : Bool) (x : Nat → Int) : (Int) × Bool := let r2 := hmiddleS_l0 x ((x 0), bad) 13; let r3 := partS r2.2 r2.1 1 14; (r3.1, r3.2)
def hmeanS_l1s (x : Nat → Int) (i : Nat) (k : Nat) (s1 : (Nat → Int)) : (Nat → Int) := (updF s1 k (x (k * 6 + i)))
def hmeanS_l1 (x : Nat → Int) (i : Nat) (z : (Nat → Int)) : Nat → (Nat → Int)
 | 0 => z
 | k + 1 => hmeanS_l1s x i k (hmeanS_l1 x i z k)
theorem hmeanS_l1_succ (x : Nat → Int) (i : Nat) (z : (Nat → Int)) (k : Nat) : hmeanS_l1 x i z (k + 1) = hmeanS_l1s x i k (hmeanS_l1 x i z k) := rfl
def hmeanS_l0s (x : Nat → Int) (i : Nat) (s0 : (Nat → Int) × Bool) : (Nat → Int) × Bool := let p1 := hmeanS_l1 x i (fun _ => 0) 13; let p2 := hmiddleS s0.2 p1; ((updF s0.1 i p2.1), p2.2)
def hmeanS_l0 (x : Nat → Int) (z : (Nat → Int) × Bool) : Nat → (Nat → Int) × Bool
 | 0 => z
 | i + 1 => hmeanS_l0s x i (hmeanS_l0 x z i)
theorem hmeanS_l0_succ (x : Nat → Int) (z : (Nat → Int) × Bool) (i : Nat) : hmeanS_l0 x z (i + 1) = hmeanS_l0s x i (hmeanS_l0 x z i) := rfl
def hmeanS (bad : Bool) (x : Nat → Int) : (Nat → Int) × Bool := let r1 := hmeanS_l0 x ((fun _ => 0), bad) 6; (r1.1, r1.2)
def hproductsS_l2s (x : Nat → Int) (y : Nat → Int) (i : Nat) (j : Nat) (k : Nat) (s2 : (Nat → Int) × Bool) : (Nat → Int) × Bool := let p1 := mulS s2.2 (x (k * 6 + i)) (y (k * 6 + j)); ((updF s2.1 k p1.1), p1.2)
def hproductsS_l2 (x : Nat → Int) (y : Nat → Int) (i : Nat) (j : Nat) (z : (Nat → Int) × Bool) : Nat → (Nat → Int) × Bool
 | 0 => z
 | k + 1 => hproductsS_l2s x y i j k (hproductsS_l2 x y i j z k)
theorem hproductsS_l2_succ (x : Nat → Int) (y : Nat → Int) (i : Nat) (j : Nat) (z : (Nat → Int) × Bool) (k : Nat) : hproductsS_l2 x y i j z (k + 1) = hproductsS_l2s x y i j k (hproductsS_l2 x y i j z k) := rfl
def hproductsS_l1s (x : Nat → Int) (y : Nat → Int) (i : Nat) (j : Nat) (s1 : (Nat → Int) × Bool) : (Nat → Int) × Bool := let p1 := hproductsS_l2 x y i j ((fun _ => 0), s1.2) 13; let p2 := hmiddleS p1.2 p1.1; ((updF s1.1 (i * 6 + j) p2.1), p2.2)
def hproductsS_l1 (x : Nat → Int) (y : Nat → Int) (i : Nat) (z : (Nat → Int) × Bool) : Nat → (Nat → Int) × Bool
 | 0 => z
 | j + 1 => hproductsS_l1s x y i j (hproductsS_l1 x y i z j)
theorem hproductsS_l1_succ (x : Nat → Int) (y : Nat → Int) (i : Nat) (z : (Nat → Int) × Bool) (j : Nat) : hproductsS_l1 x y i z (j + 1) = hproductsS_l1s x y i j (hproductsS_l1 x y i z j) := rfl
def hproductsS_l0s (x : Nat → Int) (y : Nat → Int) (i : Nat) (s0 : (Nat → Int) × Bool) : (Nat → Int) × Bool := let p1 := hproductsS_l1 x y i (s0.1, s0.2) 6; (p1.1, p1.2)
def hproductsS_l0 (x : Nat → Int) (y : Nat → Int) (z : (Nat → Int) × Bool) : Nat → (Nat → Int) × Bool
 | 0 => z
 | i + 1 => hproductsS_l0s x y i (hproductsS_l0 x y z i)
theorem hproductsS_l0_succ (x : Nat → Int) (y : Nat → Int) (z : (Nat → Int) × Bool) (i : Nat) : hproductsS_l0 x y z (i + 1) = hproductsS_l0s x y i (hproductsS_l0 x y z i) := rfl
def hproductsS (bad : Bool) (x : Nat → Int) (y : Nat → Int) : (Nat → Int) × Bool := let r1 := hproductsS_l0 x y ((fun _ => 0), bad) 6; (r1.1, r1.2)
def hbesideS_l0s (m : Nat → Int) (k : Nat) (s0 : (Nat → Int) × Bool) : (Nat → Int) × Bool := let p1 := hlessS s0.2 (fun x_ => s0.1 (k * 6 + x_)) m; ((updF (updF (updF (updF (updF (updF s0.1 (k * 6) (p1.1 0)) (k * 6 + 1) (p1.1 1)) (k * 6 + 2) (p1.1 2)) (k * 6 + 3) (p1.1 3)) (k * 6 + 4) (p1.1 4)) (k * 6 + 5) (p1.1 5)), p1.2)
def hbesideS_l0 (m : Nat → Int) (z : (Nat → Int) × Bool) : Nat → (Nat → Int) × Bool
 | 0 => z
 | k + 1 => hbesideS_l0s m k (hbesideS_l0 m z k)
theorem hbesideS_l0_succ (m : Nat → Int) (z : (Nat → Int) × Bool) (k : Nat) : hbesideS_l0 m z (k + 1) = hbesideS_l0s m k (hbesideS_l0 m z k) := rfl
def hbesideS (bad : Bool) (x : Nat → Int) (m : Nat → Int) : (Nat → Int) × Bool := let r2 := hbesideS_l0 m (x, bad) 13; (r2.1, r2.2)
def hraisedS_l0s (p : Int) (q : Int) (i : Nat) (s0 : (Nat → Int) × Bool) : (Nat → Int) × Bool := let p1 := heitherP i p q; let p2 := addS s0.2 (s0.1 (i * 6 + i)) p1; ((updF s0.1 (i * 6 + i) p2.1), p2.2)
def hraisedS_l0 (p : Int) (q : Int) (z : (Nat → Int) × Bool) : Nat → (Nat → Int) × Bool
 | 0 => z
 | i + 1 => hraisedS_l0s p q i (hraisedS_l0 p q z i)
theorem hraisedS_l0_succ (p : Int) (q : Int) (z : (Nat → Int) × Bool) (i : Nat) : hraisedS_l0 p q z (i + 1) = hraisedS_l0s p q i (hraisedS_l0 p q z i) := rfl
def hraisedS (bad : Bool) (m : Nat → Int) (p : Int) (q : Int) : (Nat → Int) × Bool := let r1 := hraisedS_l0 p q (m, bad) 6; (r1.1, r1.2)
def hevenedS_l1s (m : Nat → Int) (i : Nat) (j : Nat) (s1 : (Nat → Int) × Bool) : (Nat → Int) × Bool := let p1 := addS s1.2 (m (i * 6 + j)) (m (j * 6 + i)); let p2 := partS p1.2 p1.1 1 2; ((updF s1.1 (i * 6 + j) p2.1), p2.2)
def hevenedS_l1 (m : Nat → Int) (i : Nat) (z : (Nat → Int) × Bool) : Nat → (Nat → Int) × Bool
 | 0 => z
 | j + 1 => hevenedS_l1s m i j (hevenedS_l1 m i z j)
theorem hevenedS_l1_succ (m : Nat → Int) (i : Nat) (z : (Nat → Int) × Bool) (j : Nat) : hevenedS_l1 m i z (j + 1) = hevenedS_l1s m i j (hevenedS_l1 m i z j) := rfl
def hevenedS_l0s (m : Nat → Int) (i : Nat) (s0 : (Nat → Int) × Bool) : (Nat → Int) × Bool := let p1 := hevenedS_l1 m i (s0.1, s0.2) 6; (p1.1, p1.2)
def hevenedS_l0 (m : Nat → Int) (z : (Nat → Int) × Bool) : Nat → (Nat → Int) × Bool
 | 0 => z
 | i + 1 => hevenedS_l0s m i (hevenedS_l0 m z i)
theorem hevenedS_l0_succ (m : Nat → Int) (z : (Nat → Int) × Bool) (i : Nat) : hevenedS_l0 m z (i + 1) = hevenedS_l0s m i (hevenedS_l0 m z i) := rfl
def hevenedS (bad : Bool) (m : Nat → Int) : (Nat → Int) × Bool := let r1 := hevenedS_l0 m ((fun _ => 0), bad) 6; (r1.1, r1.2)
def hunitsS (bad : Bool) (v : Nat → Int) : (V6) × Bool := let r1 := vUnitS bad ((v 0), (v 1), (v 2)); let r2 := vUnitS r1.2 ((v 3), (v 4), (v 5)); ((r1.1.1, r1.1.2.1, r1.1.2.2, r2.1.1, r2.1.2.1, r2.1.2.2), r2.2)
def hturnedS (bad : Bool) (q : V4) (r : Nat → Int) : (V4) × Bool := let r1 := hpartedP r; let r2 := qFromRodS bad r1.1; let r3 := qMulS r2.2 r2.1 q; let r4 := qUnitS r3.2 r3.1; (r4.1, r4.2)
def hbiasedS (bad : Bool) (v : V3) (r : Nat → Int) : (V3) × Bool := let r1 := hpartedP r; let r2 := vAddS bad v r1.2; (r2.1, r2.2)
def hattitudesS_l0s (g : Nat → Int) (x : Nat → Int) (k : Nat) (s0 : (Nat → Int) × Bool) : (Nat → Int) × Bool := let p1 := hpartedP (fun x_ => x (k * 6 + x_)); let p2 := qFromRodS s0.2 p1.1; let p3 := qMulS p2.2 p2.1 ((g 0), (g 1), (g 2), (g 3)); ((updF (updF (updF (updF s0.1 (k * 4) p3.1.1) (k * 4 + 1) p3.1.2.1) (k * 4 + 2) p3.1.2.2.1) (k * 4 + 3) p3.1.2.2.2), p3.2)
def hattitudesS_l0 (g : Nat → Int) (x : Nat → Int) (z : (Nat → Int) × Bool) : Nat → (Nat → Int) × Bool
 | 0 => z
 | k + 1 => hattitudesS_l0s g x k (hattitudesS_l0 g x z k)
theorem hattitudesS_l0_succ (g : Nat → Int) (x : Nat → Int) (z : (Nat → Int) × Bool) (k : Nat) : hattitudesS_l0 g x z (k + 1) = hattitudesS_l0s g x k (hattitudesS_l0 g x z k) := rfl
def hattitudesS (bad : Bool) (g : Nat → Int) (x : Nat → Int) : (Nat → Int) × Bool := let r5 := hattitudesS_l0 g x ((fun _ => 0), bad) 13; (r5.1, r5.2)
def hmovedS_l0s (x : Nat → Int) (ms : Int) (r3 : (V3) × Bool) (k : Nat) (s0 : (Nat → Int) × Bool) : (Nat → Int) × Bool := let p1 := hpartedP (fun x_ => x (k * 6 + x_)); let p2 := vSubS s0.2 r3.1 p1.2; let p3 := partS p2.2 p2.1.1 ms 1000; let p4 := partS p3.2 p2.1.2.1 ms 1000; let p5 := partS p4.2 p2.1.2.2 ms 1000; let p6 := qFromRodS p5.2 (p3.1, p4.1, p5.1); let p7 := qMulS p6.2 p6.1 ((s0.1 (k * 4)), (s0.1 (k * 4 + 1)), (s0.1 (k * 4 + 2)), (s0.1 (k * 4 + 3))); ((updF (updF (updF (updF s0.1 (k * 4) p7.1.1) (k * 4 + 1) p7.1.2.1) (k * 4 + 2) p7.1.2.2.1) (k * 4 + 3) p7.1.2.2.2), p7.2)
def hmovedS_l0 (x : Nat → Int) (ms : Int) (r3 : (V3) × Bool) (z : (Nat → Int) × Bool) : Nat → (Nat → Int) × Bool
 | 0 => z
 | k + 1 => hmovedS_l0s x ms r3 k (hmovedS_l0 x ms r3 z k)
theorem hmovedS_l0_succ (x : Nat → Int) (ms : Int) (r3 : (V3) × Bool) (z : (Nat → Int) × Bool) (k : Nat) : hmovedS_l0 x ms r3 z (k + 1) = hmovedS_l0s x ms r3 k (hmovedS_l0 x ms r3 z k) := rfl
def hmovedS (bad : Bool) (g : Nat → Int) (x : Nat → Int) (v : V3) (ms : Int) : (Nat → Int) × Bool := let r1 := hattitudesS bad g x; let r3 := vSubS r1.2 v ((g 4), (g 5), (g 6)); let r13 := hmovedS_l0 x ms r3 (r1.1, r3.2) 13; (r13.1, r13.2)
def haroundS_l0s (q : V4) (y : Nat → Int) (x : Nat → Int) (k : Nat) (s0 : (Nat → Int) × Bool) : (Nat → Int) × Bool := let p1 := hpartedP (fun x_ => x (k * 6 + x_)); let p2 := qBackS q; let p3 := qMulS s0.2 ((y (k * 4)), (y (k * 4 + 1)), (y (k * 4 + 2)), (y (k * 4 + 3))) p2; let p4 := qToRodS p3.2 p3.1; let p5 := hjoinedP (p4.1.1, p4.1.2.1, p4.1.2.2, p1.2.1, p1.2.2.1, p1.2.2.2); ((updF (updF (updF (updF (updF (updF s0.1 (k * 6) p5.1) (k * 6 + 1) p5.2.1) (k * 6 + 2) p5.2.2.1) (k * 6 + 3) p5.2.2.2.1) (k * 6 + 4) p5.2.2.2.2.1) (k * 6 + 5) p5.2.2.2.2.2), p4.2)
def haroundS_l0 (q : V4) (y : Nat → Int) (x : Nat → Int) (z : (Nat → Int) × Bool) : Nat → (Nat → Int) × Bool
 | 0 => z
 | k + 1 => haroundS_l0s q y x k (haroundS_l0 q y x z k)
theorem haroundS_l0_succ (q : V4) (y : Nat → Int) (x : Nat → Int) (z : (Nat → Int) × Bool) (k : Nat) : haroundS_l0 q y x z (k + 1) = haroundS_l0s q y x k (haroundS_l0 q y x z k) := rfl
def haroundS (bad : Bool) (q : V4) (y : Nat → Int) (x : Nat → Int) : (Nat → Int) × Bool := let r3 := haroundS_l0 q y x ((fun _ => 0), bad) 13; (r3.1, r3.2)
def hviewedS_l0s (sky : Nat → Int) (r1 : (Nat → Int) × Bool) (k : Nat) (s0 : (Nat → Int) × Bool) : (Nat → Int) × Bool := let p1 := qTurnS s0.2 ((r1.1 (k * 4)), (r1.1 (k * 4 + 1)), (r1.1 (k * 4 + 2)), (r1.1 (k * 4 + 3))) ((sky 0), (sky 1), (sky 2)); let p2 := qTurnS p1.2 ((r1.1 (k * 4)), (r1.1 (k * 4 + 1)), (r1.1 (k * 4 + 2)), (r1.1 (k * 4 + 3))) ((sky 3), (sky 4), (sky 5)); let p3 := hjoinedP (p1.1.1, p1.1.2.1, p1.1.2.2, p2.1.1, p2.1.2.1, p2.1.2.2); ((updF (updF (updF (updF (updF (updF s0.1 (k * 6) p3.1) (k * 6 + 1) p3.2.1) (k * 6 + 2) p3.2.2.1) (k * 6 + 3) p3.2.2.2.1) (k * 6 + 4) p3.2.2.2.2.1) (k * 6 + 5) p3.2.2.2.2.2), p2.2)
def hviewedS_l0 (sky : Nat → Int) (r1 : (Nat → Int) × Bool) (z : (Nat → Int) × Bool) : Nat → (Nat → Int) × Bool
 | 0 => z
 | k + 1 => hviewedS_l0s sky r1 k (hviewedS_l0 sky r1 z k)
theorem hviewedS_l0_succ (sky : Nat → Int) (r1 : (Nat → Int) × Bool) (z : (Nat → Int) × Bool) (k : Nat) : hviewedS_l0 sky r1 z (k + 1) = hviewedS_l0s sky r1 k (hviewedS_l0 sky r1 z k) := rfl
def hviewedS (bad : Bool) (g : Nat → Int) (x : Nat → Int) (sky : Nat → Int) : (Nat → Int) × Bool := let r1 := hattitudesS bad g x; let r5 := hviewedS_l0 sky r1 ((fun _ => 0), r1.2) 13; (r5.1, r5.2)
def hmetS_l0s (g : Nat → Int) (l : Nat → Int) (c : Nat → Int) (i : Nat) (s0 : (Nat → Int) × (Nat → Int) × Bool) : (Nat → Int) × (Nat → Int) × Bool := let p1 := zSolve6 s0.2.2 l (fun x_ => c (i * 6 + x_)); let p2 := zApply6 p1.2 c (fun x_ => (updF (updF (updF (updF (updF (updF s0.1 (i * 6) (p1.1 0)) (i * 6 + 1) (p1.1 1)) (i * 6 + 2) (p1.1 2)) (i * 6 + 3) (p1.1 3)) (i * 6 + 4) (p1.1 4)) (i * 6 + 5) (p1.1 5)) (i * 6 + x_)); let p3 := hlessS p2.2 (fun x_ => g (7 + i * 6 + x_)) p2.1; ((updF (updF (updF (updF (updF (updF s0.1 (i * 6) (p1.1 0)) (i * 6 + 1) (p1.1 1)) (i * 6 + 2) (p1.1 2)) (i * 6 + 3) (p1.1 3)) (i * 6 + 4) (p1.1 4)) (i * 6 + 5) (p1.1 5)), (updF (updF (updF (updF (updF (updF s0.2.1 (i * 6) (p3.1 0)) (i * 6 + 1) (p3.1 1)) (i * 6 + 2) (p3.1 2)) (i * 6 + 3) (p3.1 3)) (i * 6 + 4) (p3.1 4)) (i * 6 + 5) (p3.1 5)), p3.2)
def hmetS_l0 (g : Nat → Int) (l : Nat → Int) (c : Nat → Int) (z : (Nat → Int) × (Nat → Int) × Bool) : Nat → (Nat → Int) × (Nat → Int) × Bool
 | 0 => z
 | i + 1 => hmetS_l0s g l c i (hmetS_l0 g l c z i)
theorem hmetS_l0_succ (g : Nat → Int) (l : Nat → Int) (c : Nat → Int) (z : (Nat → Int) × (Nat → Int) × Bool) (i : Nat) : hmetS_l0 g l c z (i + 1) = hmetS_l0s g l c i (hmetS_l0 g l c z i) := rfl
def hmetS (bad : Bool) (g : Nat → Int) (l : Nat → Int) (c : Nat → Int) (y : Nat → Int) : (Nat → Int) × Bool := let r5 := hmetS_l0 g l c ((fun _ => 0), (fun _ => 0), bad) 6; let r6 := zApply6 r5.2.2 r5.1 y; let r8 := hturnedS r6.2 ((g 0), (g 1), (g 2), (g 3)) r6.1; let r9 := hbiasedS r8.2 ((g 4), (g 5), (g 6)) r6.1; let r10 := hevenedS r9.2 r5.2.1; ((guessF r8.1 r9.1 r10.1), r10.2)
def hPointsS_l1s (r1 : (Nat → Int) × Bool) (r3 : (Int) × Bool) (k : Nat) (i : Nat) (s1 : (Nat → Int) × Bool) : (Nat → Int) × Bool := let p1 := mulS s1.2 r3.1 (r1.1 (i * 6 + k)); ((updF (updF s1.1 ((1 + k) * 6 + i) p1.1) ((7 + k) * 6 + i) (-p1.1)), p1.2)
def hPointsS_l1 (r1 : (Nat → Int) × Bool) (r3 : (Int) × Bool) (k : Nat) (z : (Nat → Int) × Bool) : Nat → (Nat → Int) × Bool
 | 0 => z
 | i + 1 => hPointsS_l1s r1 r3 k i (hPointsS_l1 r1 r3 k z i)
theorem hPointsS_l1_succ (r1 : (Nat → Int) × Bool) (r3 : (Int) × Bool) (k : Nat) (z : (Nat → Int) × Bool) (i : Nat) : hPointsS_l1 r1 r3 k z (i + 1) = hPointsS_l1s r1 r3 k i (hPointsS_l1 r1 r3 k z i) := rfl
def hPointsS_l0s (r1 : (Nat → Int) × Bool) (r3 : (Int) × Bool) (k : Nat) (s0 : (Nat → Int) × Bool) : (Nat → Int) × Bool := let p1 := hPointsS_l1 r1 r3 k (s0.1, s0.2) 6; (p1.1, p1.2)
def hPointsS_l0 (r1 : (Nat → Int) × Bool) (r3 : (Int) × Bool) (z : (Nat → Int) × Bool) : Nat → (Nat → Int) × Bool
 | 0 => z
 | k + 1 => hPointsS_l0s r1 r3 k (hPointsS_l0 r1 r3 z k)
theorem hPointsS_l0_succ (r1 : (Nat → Int) × Bool) (r3 : (Int) × Bool) (z : (Nat → Int) × Bool) (k : Nat) : hPointsS_l0 r1 r3 z (k + 1) = hPointsS_l0s r1 r3 k (hPointsS_l0 r1 r3 z k) := rfl
def hPointsS (bad : Bool) (g : Nat → Int) : (Nat → Int) × Bool := let r1 := zRoot6 bad (fun x_ => g (7 + x_)); let r3 := sqrtS r1.2 7696581394432; let r4 := hPointsS_l0 r1 r3 ((fun _ => 0), r3.2) 6; (r4.1, r4.2)
def hStartP_l0s  (i : Nat) (s0 : (Nat → Int)) : (Nat → Int) := let p1 := heitherP i 17179869184 16777216; (updF s0 (7 + i * 6 + i) p1)
def hStartP_l0  (z : (Nat → Int)) : Nat → (Nat → Int)
 | 0 => z
 | i + 1 => hStartP_l0s  i (hStartP_l0 z i)
theorem hStartP_l0_succ  (z : (Nat → Int)) (i : Nat) : hStartP_l0 z (i + 1) = hStartP_l0s  i (hStartP_l0 z i) := rfl
def hStartP (q : V4) : Nat → Int := let r3 := hStartP_l0 (guessF q (0, 0, 0) (fun _ => 0)) 6; r3
def hMoveS (bad : Bool) (g : Nat → Int) (v : V3) (ms : Int) : (Nat → Int) × Bool := if ms < 10 then ((fun _ => 0), true) else if ms > 10000 then ((fun _ => 0), true) else let r1 := hPointsS bad g; let r3 := hmovedS r1.2 g r1.1 v ms; let r5 := qUnitS r3.2 ((r3.1 0), (r3.1 1), (r3.1 2), (r3.1 3)); let r6 := haroundS r5.2 r5.1 r3.1 r1.1; let r8 := hmeanS r6.2 r6.1; let r10 := hbesideS r8.2 r6.1 r8.1; let r12 := hproductsS r10.2 r10.1 r10.1; let r14 := hturnedS r12.2 r5.1 r8.1; let r15 := hbiasedS r14.2 ((g 4), (g 5), (g 6)) r8.1; let r16 := partS r15.2 65536 ms 1000; let r17 := partS r16.2 1024 ms 1000; let r18 := hraisedS r17.2 r12.1 r16.1 r17.1; let r19 := hsoundS r18.2 (guessF r14.1 r15.1 r18.1); (r19.1, r19.2)
def hMeetS (bad : Bool) (g : Nat → Int) (sky : Nat → Int) (body : Nat → Int) : ((Nat → Int) × Int × Bool) × Bool := let r1 := hPointsS bad g; let r3 := hunitsS r1.2 sky; let r4 := hviewedS r3.2 g r1.1 (fun i_ => if i_ = 0 then r3.1.1 else if i_ = 1 then r3.1.2.1 else if i_ = 2 then r3.1.2.2.1 else if i_ = 3 then r3.1.2.2.2.1 else if i_ = 4 then r3.1.2.2.2.2.1 else r3.1.2.2.2.2.2); let r5 := hmeanS r4.2 r4.1; let r7 := hbesideS r5.2 r4.1 r5.1; let r9 := hproductsS r7.2 r7.1 r7.1; let r10 := hraisedS r9.2 r9.1 67108864 268435456; let r12 := hproductsS r10.2 r1.1 r7.1; let r14 := hunitsS r12.2 body; let r15 := hjoinedP r14.1; let r16 := hlessS r14.2 (fun i_ => if i_ = 0 then r15.1 else if i_ = 1 then r15.2.1 else if i_ = 2 then r15.2.2.1 else if i_ = 3 then r15.2.2.2.1 else if i_ = 4 then r15.2.2.2.2.1 else r15.2.2.2.2.2) r5.1; let r17 := zRoot6 r16.2 r10.1; let r19 := zSolve6 r17.2 r17.1 r16.1; let r20 := zApply6 r19.2 (matF r16.1) r19.1; if (r20.1 0) > 32985348833280 then ((g, (r20.1 0), false), r20.2) else let r21 := hmetS r20.2 g r17.1 r12.1 r16.1; if r21.2 then (((fun _ => 0), 0, false), r21.2) else ((r21.1, (r20.1 0), true), r21.2)
end Go.Proofs.Ytooehgijllihdaa
namespace Go.Proofs.Ytooehgijllihdaa
open Go.RowKit
@[go_sem] theorem zero_frows (w : World) : Sem.run Try.prog (zeroValue 61) w = .ok (.agg (row 78 (fun _ => 0)).toArray) w := by kernel_rfl
@[go_sem] theorem zero_ints13 (w : World) : Sem.run Try.prog (zeroValue 94) w = .ok (.agg (row 13 (fun _ => 0)).toArray) w := by kernel_rfl
@[go_sem] theorem index_ints13 (g : Nat → Int) (k : Nat) (w : World) (h : (k : Int) < 13) : (Instr.index 94 (.agg (row 13 g).toArray) (.int .i64 (k : Int))).run Try.prog w = .ok (.int .i64 (g k)) w := by
 have hk : k = 0 ∨ k = 1 ∨ k = 2 ∨ k = 3 ∨ k = 4 ∨ k = 5 ∨ k = 6 ∨ k = 7 ∨ k = 8 ∨ k = 9 ∨ k = 10 ∨ k = 11 ∨ k = 12 := by omega
 rcases hk with rfl | rfl | rfl | rfl | rfl | rfl | rfl | rfl | rfl | rfl | rfl | rfl | rfl <;> (show _ = _; kernel_rfl)
@[go_sem] theorem index_frows (g : Nat → Int) (k : Nat) (w : World) (h : (k : Int) < 13) : (Instr.index 61 (.agg (row 78 g).toArray) (.int .i64 (k : Int))).run Try.prog w = .ok (.agg (row 6 fun x_ => g (k * 6 + x_)).toArray) w := by
 have hk : k = 0 ∨ k = 1 ∨ k = 2 ∨ k = 3 ∨ k = 4 ∨ k = 5 ∨ k = 6 ∨ k = 7 ∨ k = 8 ∨ k = 9 ∨ k = 10 ∨ k = 11 ∨ k = 12 := by omega
 rcases hk with rfl | rfl | rfl | rfl | rfl | rfl | rfl | rfl | rfl | rfl | rfl | rfl | rfl <;> (show _ = _; kernel_rfl)
@[go_sem] theorem index_quats13 (g : Nat → Int) (k : Nat) (w : World) (h : (k : Int) < 13) : (Instr.index 75 (.agg (row 52 g).toArray) (.int .i64 (k : Int))).run Try.prog w = .ok (.agg #[.int .i64 (g (k * 4)), .int .i64 (g (k * 4 + 1)), .int .i64 (g (k * 4 + 2)), .int .i64 (g (k * 4 + 3))]) w := by
 have hk : k = 0 ∨ k = 1 ∨ k = 2 ∨ k = 3 ∨ k = 4 ∨ k = 5 ∨ k = 6 ∨ k = 7 ∨ k = 8 ∨ k = 9 ∨ k = 10 ∨ k = 11 ∨ k = 12 := by omega
 rcases hk with rfl | rfl | rfl | rfl | rfl | rfl | rfl | rfl | rfl | rfl | rfl | rfl | rfl <;> (show _ = _; kernel_rfl)
@[go_sem] theorem index_row0 (g : Nat → Int) (w : World) : (Instr.index 34 (.agg (row 6 g).toArray) (.int .i64 0)).run Try.prog w = .ok (.int .i64 (g 0)) w := by kernel_rfl
theorem build_exec {ρ : Operand → Value} {o : Oper} {t : TypeId} {parts : Array (Nat × Operand)} {vs : Array (Nat × Value)} {v : Value} {w : World} (ho : o.op = .build t parts) (hv : (parts.map fun (i, x) => (i, ρ x)) = vs)
  (h : (Instr.build t vs).run Try.prog w = .ok v w) : (execOp ρ o).run Try.prog w = .ok (.value v) w := by
 subst hv
 cases o
 simp only at ho
 subst ho
 simp only [execOp, Sem.run_bind, h, Result.andThen_ok, Sem.run_pure]
def buildGD (a b c d x y z : Int) (p : Nat → Int) : Sem Value := Instr.build 38 #[(0, .agg #[.int .i64 a, .int .i64 b, .int .i64 c, .int .i64 d]), (1, .agg #[.int .i64 x, .int .i64 y, .int .i64 z]), (2, .agg (row 36 p).toArray)]
@[go_sem high] theorem buildG_is (a b c d x y z : Int) (p : Nat → Int) : Instr.build 38 #[(0, .agg #[.int .i64 a, .int .i64 b, .int .i64 c, .int .i64 d]), (1, .agg #[.int .i64 x, .int .i64 y, .int .i64 z]), (2, .agg (row 36 p).toArray)] = buildGD a b c d x y z p := rfl
@[go_sem] theorem buildG_run (a b c d x y z : Int) (p : Nat → Int) (w : World) : (buildGD a b c d x y z p).run Try.prog w = .ok (.agg (row 43 (guessF (a, b, c, d) (x, y, z) p)).toArray) w := by kernel_rfl
def buildQD (a b c d : Int) : Sem Value := Instr.build 38 #[(0, .agg #[.int .i64 a, .int .i64 b, .int .i64 c, .int .i64 d])]
@[go_sem high] theorem buildQ_is (a b c d : Int) : Instr.build 38 #[(0, .agg #[.int .i64 a, .int .i64 b, .int .i64 c, .int .i64 d])] = buildQD a b c d := rfl
@[go_sem] theorem buildQ_run (a b c d : Int) (w : World) : (buildQD a b c d).run Try.prog w = .ok (.agg (row 43 (guessF (a, b, c, d) (0, 0, 0) (fun _ => 0))).toArray) w := by kernel_rfl
def build0D : Sem Value := Instr.build 38 #[]
@[go_sem high] theorem build0_is : Instr.build 38 #[] = build0D := rfl
@[go_sem] theorem build0_run (w : World) : build0D.run Try.prog w = .ok (.agg (row 43 (fun _ => 0)).toArray) w := by kernel_rfl
def buildMD (y : Nat → Int) : Sem Value := Instr.build 36 #[(0, .agg (row 6 y).toArray)]
@[go_sem high] theorem buildM_is (y : Nat → Int) : Instr.build 36 #[(0, .agg (row 6 y).toArray)] = buildMD y := rfl
@[go_sem] theorem buildM_run (y : Nat → Int) (w : World) : (buildMD y).run Try.prog w = .ok (.agg (row 36 (matF y)).toArray) w := by kernel_rfl
end Go.Proofs.Ytooehgijllihdaa
namespace Go.Proofs.Ytooehgijllihdaa
open Go.RowKit
def mfitsS (bad : Bool) (n : Int) : (Bool) × Bool := if n < 1 then (false, true) else if n > 6 then (false, true) else (true, bad)
def mlessS_l0 (p : Nat → Int) (q : Nat → Int) (z : Int × Bool) : Nat → Int × Bool
 | 0 => z
 | k + 1 => let s0 := mlessS_l0 p q z k; let p1 := mulS s0.2 (p k) (q k); let p2 := subS p1.2 s0.1 p1.1; (p2.1, p2.2)
def mlessS (bad : Bool) (s : Int) (p : Nat → Int) (q : Nat → Int) (n : Nat) : (Int) × Bool := let r3 := mlessS_l0 p q (s, bad) n; (r3.1, r3.2)
def msumS_l0 (p : Nat → Int) (q : Nat → Int) (z : Int × Bool) : Nat → Int × Bool
 | 0 => z
 | k + 1 => let s0 := msumS_l0 p q z k; let p1 := mulS s0.2 (p k) (q k); let p2 := addS p1.2 s0.1 p1.1; (p2.1, p2.2)
def msumS (bad : Bool) (p : Nat → Int) (q : Nat → Int) (n : Nat) : (Int) × Bool := let r3 := msumS_l0 p q (0, bad) n; (r3.1, r3.2)
def mpivotS (bad : Bool) (s : Int) : (Int) × Bool := if s < 1 then let r2 := sqrtS true s; (r2.1, r2.2) else let r1 := sqrtS bad s; (r1.1, r1.2)
def msoundMS (bad : Bool) (g : Nat → Int) : (Nat → Int) × Bool := if bad then ((fun _ => 0), bad) else (g, bad)
def msoundRS (bad : Bool) (g : Nat → Int) : (Nat → Int) × Bool := if bad then ((fun _ => 0), bad) else (g, bad)
theorem fits_in (bad : Bool) {n : Nat} (h1 : 1 ≤ n) (h6 : n ≤ 6) : mfitsS bad (n : Int) = (true, bad) := by unfold mfitsS; rw [if_neg (by omega), if_neg (by omega)]
def mRootS_l1 (m : Nat → Int) (i : Nat) (z : (Nat → Int) × Bool) : Nat → (Nat → Int) × Bool
 | 0 => z
 | j + 1 => let s1 := mRootS_l1 m i z j; let p1 := mlessS s1.2 (m (i * 6 + j)) (fun x_ => s1.1 (i * 6 + x_)) (fun x_ => s1.1 (j * 6 + x_)) j; let p2 := divS p1.2 p1.1 (s1.1 (j * 6 + j)); ((updF s1.1 (i * 6 + j) p2.1), p2.2)
def mRootS_l0 (m : Nat → Int) (z : (Nat → Int) × Bool) : Nat → (Nat → Int) × Bool
 | 0 => z
 | i + 1 => let s0 := mRootS_l0 m z i; let p1 := mRootS_l1 m i (s0.1, s0.2) i; let p2 := mlessS p1.2 (m (i * 6 + i)) (fun x_ => p1.1 (i * 6 + x_)) (fun x_ => p1.1 (i * 6 + x_)) i; let p3 := mpivotS p2.2 p2.1; ((updF p1.1 (i * 6 + i) p3.1), p3.2)
def mRootS (bad : Bool) (m : Nat → Int) (n : Nat) : (Nat → Int) × Bool := let r2 := mRootS_l0 m ((fun _ => 0), bad) n; let r3 := msoundMS r2.2 r2.1; (r3.1, r3.2)
def mforwardS_l0 (l : Nat → Int) (p : Nat → Int) (z : (Nat → Int) × Bool) : Nat → (Nat → Int) × Bool
 | 0 => z
 | i + 1 => let s0 := mforwardS_l0 l p z i; let p1 := mlessS s0.2 (p i) (fun x_ => l (i * 6 + x_)) s0.1 i; let p2 := divS p1.2 p1.1 (l (i * 6 + i)); ((updF s0.1 i p2.1), p2.2)
def mforwardS (bad : Bool) (l : Nat → Int) (p : Nat → Int) (n : Nat) : (Nat → Int) × Bool := let r3 := mforwardS_l0 l p ((fun _ => 0), bad) n; (r3.1, r3.2)
def mSolveS_l1 (l : Nat → Int) (s0 : (Nat → Int) × Bool) (i : Nat) (z : Int × Bool) : Nat → Int × Bool
 | 0 => z
 | k + 1 => let s1 := mSolveS_l1 l s0 i z k; let u := i + 1 + k; let p1 := mulS s1.2 (l (u * 6 + i)) (s0.1 u); let p2 := subS p1.2 s1.1 p1.1; (p2.1, p2.2)
def mSolveS_l0 (l : Nat → Int) (n : Nat) (r2 : (Nat → Int) × Bool) (z : (Nat → Int) × Bool) : Nat → (Nat → Int) × Bool
 | 0 => z
 | d + 1 => let s0 := mSolveS_l0 l n r2 z d; let i := n - 1 - d; let p1 := mSolveS_l1 l s0 i ((r2.1 i), s0.2) d; let p2 := divS p1.2 p1.1 (l (i * 6 + i)); ((updF s0.1 i p2.1), p2.2)
def mSolveS (bad : Bool) (l : Nat → Int) (p : Nat → Int) (n : Nat) : (Nat → Int) × Bool := let r2 := mforwardS bad l p n; let r4 := mSolveS_l0 l n r2 ((fun _ => 0), r2.2) n; let r5 := msoundRS r4.2 r4.1; (r5.1, r5.2)
def mApplyS_l0 (m : Nat → Int) (p : Nat → Int) (n : Nat) (z : (Nat → Int) × Bool) : Nat → (Nat → Int) × Bool
 | 0 => z
 | i + 1 => let s0 := mApplyS_l0 m p n z i; let p1 := msumS s0.2 (fun x_ => m (i * 6 + x_)) p n; ((updF s0.1 i p1.1), p1.2)
def mApplyS (bad : Bool) (m : Nat → Int) (p : Nat → Int) (n : Nat) : (Nat → Int) × Bool := let r3 := mApplyS_l0 m p n ((fun _ => 0), bad) n; let r4 := msoundRS r3.2 r3.1; (r4.1, r4.2)
end Go.Proofs.Ytooehgijllihdaa
namespace Go.Proofs.Ytooehgijllihdaa
open Go.RowKit
def Dead (s : Int × Bool) : Prop := s.2 = true ∨ numB s.1 = false
theorem dead_less {p q : Nat → Int} {z : Int × Bool} (h : Dead z) : ∀ k, Dead (mlessS_l0 p q z k)
 | 0 => h
 | k + 1 => by
  have ih := dead_less (p := p) (q := q) h k
  unfold mlessS_l0
  generalize mlessS_l0 p q z k = s at ih ⊢
  refine Or.inl ?_
  dsimp only
  rcases ih with h | h
  ·simp only [h, mulS_true, subS_true]
  ·rw [subS_no (by unfold tk; simp [h])]
theorem dead_div {z : Int × Bool} (h : Dead z) (d : Int) : divS z.2 z.1 d = (0, true) := by
 rcases h with h | h
 ·rw [h, divS_true]
 ·exact partS_no (by unfold tk; simp [h])
theorem dead_sqrt {z : Int × Bool} (h : Dead z) : sqrtS z.2 z.1 = (0, true) := by
 rcases h with h | h
 ·rw [h]; exact sqrtS_no (tk_true _)
 ·exact sqrtS_no (by unfold tk; simp [h])
theorem add_first (b : Bool) (x : Int) : ((addS b x 0).1, (addS b x 0).2) = (x, b) ∨ (Dead (x, b) ∧ Dead ((addS b x 0).1, (addS b x 0).2)) := by
 cases h : tk b [x, 0]
 ·refine Or.inr ⟨?_, by rw [addS_no h]; exact Or.inl rfl⟩
  cases b
  ·refine Or.inr ?_
   show numB x = false
   unfold tk at h
   simpa [show numB 0 = true by decide] using h
  ·exact Or.inl rfl
 ·left
  obtain ⟨rfl, hx, _⟩ := tk_two h
  rw [addS_yes h]
  unfold gv
  rw [Int.add_zero, hx]
  rfl
def pivS (s : Int × Bool) : Int × Bool := if s.1 < 1 then sqrtS true s.1 else sqrtS s.2 s.1
theorem dead_piv {z : Int × Bool} (h : Dead z) : pivS z = (0, true) := by
 unfold pivS
 by_cases c : z.1 < 1
 ·rw [if_pos c]; exact sqrtS_no (tk_true _)
 ·rw [if_neg c]; exact dead_sqrt h
theorem first_div (b : Bool) (x : Int) (p q : Nat → Int) (k : Nat) (d : Int) : divS (mlessS_l0 p q ((addS b x 0).1, (addS b x 0).2) k).2 (mlessS_l0 p q ((addS b x 0).1, (addS b x 0).2) k).1 d = divS (mlessS_l0 p q (x, b) k).2 (mlessS_l0 p q (x, b) k).1 d := by
 rcases add_first b x with h | ⟨h1, h2⟩
 ·rw [h]
 ·rw [dead_div (dead_less h1 k), dead_div (dead_less h2 k)]
theorem first_piv (b : Bool) (x : Int) (p q : Nat → Int) (k : Nat) : pivS (mlessS_l0 p q ((addS b x 0).1, (addS b x 0).2) k) = pivS (mlessS_l0 p q (x, b) k) := by
 rcases add_first b x with h | ⟨h1, h2⟩
 ·rw [h]
 ·rw [dead_piv (dead_less h1 k), dead_piv (dead_less h2 k)]
theorem mpivot_is (s : Int × Bool) : mpivotS s.2 s.1 = pivS s := by
 unfold mpivotS pivS
 by_cases c : s.1 < 1
 ·simp only [if_pos c]
 ·simp only [if_neg c]
theorem mless_is (bad : Bool) (s : Int) (p q : Nat → Int) (k : Nat) : mlessS bad s p q k = mlessS_l0 p q (s, bad) k := rfl
theorem msum_is (bad : Bool) (p q : Nat → Int) (k : Nat) : msumS bad p q k = msumS_l0 p q (0, bad) k := rfl
theorem zRoot_l2_eq (i j : Nat) (s : (Nat → Int) × Bool) (z : Int × Bool) : ∀ k, zRootS_l2 i j s z k = mlessS_l0 (fun x_ => s.1 (i * 6 + x_)) (fun x_ => s.1 (j * 6 + x_)) z k
 | 0 => rfl
 | k + 1 => by unfold zRootS_l2 mlessS_l0; rw [zRoot_l2_eq i j s z k]
theorem zRoot_l1_eq (m : Nat → Int) (i : Nat) (z : (Nat → Int) × Bool) : ∀ j, j ≤ i → zRootS_l1 m i z j = mRootS_l1 m i z j
 | 0, _ => rfl
 | j + 1, h => by
  unfold zRootS_l1 mRootS_l1
  rw [zRoot_l1_eq m i z j (by omega)]
  generalize mRootS_l1 m i z j = s
  dsimp only
  rw [if_neg (by omega), zRoot_l2_eq, first_div, mless_is]
theorem zRoot_l0_eq (m : Nat → Int) (z : (Nat → Int) × Bool) : ∀ i, zRootS_l0 m z i = mRootS_l0 m z i
 | 0 => rfl
 | i + 1 => by
  unfold zRootS_l0 mRootS_l0
  rw [zRoot_l0_eq m z i]
  generalize mRootS_l0 m z i = s
  dsimp only
  unfold zRootS_l1
  rw [zRoot_l1_eq m i _ i (Nat.le_refl i)]
  generalize mRootS_l1 m i (s.1, s.2) i = t
  dsimp only
  rw [if_pos rfl, zRoot_l2_eq, mless_is, mpivot_is, ← first_piv]
  generalize mlessS_l0 _ _ _ i = y
  unfold pivS
  by_cases c : y.1 < 1
  ·rw [if_pos c, if_pos c]
  ·rw [if_neg c, if_neg c]
theorem sound_is (r : (Nat → Int) × Bool) : (if r.2 = true then ((fun _ => 0 : Nat → Int), r.2) else (r.1, r.2)) = ((msoundMS r.2 r.1).1, (msoundMS r.2 r.1).2) := by
 unfold msoundMS
 by_cases c : r.2 = true
 ·simp only [if_pos c]
 ·simp only [if_neg c]
theorem soundR_is (r : (Nat → Int) × Bool) : (if r.2 = true then ((fun _ => 0 : Nat → Int), r.2) else (r.1, r.2)) = ((msoundRS r.2 r.1).1, (msoundRS r.2 r.1).2) := by
 unfold msoundRS
 by_cases c : r.2 = true
 ·simp only [if_pos c]
 ·simp only [if_neg c]
theorem zRoot_eq (bad : Bool) (m : Nat → Int) (n : Nat) : zRootS bad m n = mRootS bad m n := by
 unfold zRootS mRootS
 rw [zRoot_l0_eq]
 exact sound_is _
theorem less_bad {p q : Nat → Int} {z : Int × Bool} (h : z.2 = true) : ∀ k, (mlessS_l0 p q z k).2 = true
 | 0 => h
 | k + 1 => by
  have ih := less_bad (p := p) (q := q) h k
  unfold mlessS_l0
  simp only [ih, mulS_true, subS_true]
theorem root_l1_bad {m : Nat → Int} {i : Nat} {z : (Nat → Int) × Bool} (h : z.2 = true) : ∀ j, (mRootS_l1 m i z j).2 = true
 | 0 => h
 | j + 1 => by
  have ih := root_l1_bad (m := m) (i := i) h j
  unfold mRootS_l1
  generalize mRootS_l1 m i z j = s at ih ⊢
  dsimp only
  rw [mless_is]
  rw [show (mlessS_l0 (fun x_ => s.1 (i * 6 + x_)) (fun x_ => s.1 (j * 6 + x_)) (m (i * 6 + j), s.2) j).2 = true from less_bad ih j, divS_true]
theorem root_l0_bad {m : Nat → Int} {z : (Nat → Int) × Bool} (h : z.2 = true) : ∀ i, (mRootS_l0 m z i).2 = true
 | 0 => h
 | i + 1 => by
  have ih := root_l0_bad (m := m) h i
  unfold mRootS_l0
  generalize mRootS_l0 m z i = s at ih ⊢
  dsimp only
  have hb := root_l1_bad (m := m) (i := i) (z := (s.1, s.2)) ih i
  generalize mRootS_l1 m i (s.1, s.2) i = t at hb ⊢
  rw [mless_is, mpivot_is, dead_piv (Or.inl (less_bad hb i))]
theorem root_bad (m : Nat → Int) (n : Nat) : mRootS true m n = ((fun _ => 0), true) := by
 unfold mRootS
 dsimp only
 rw [root_l0_bad rfl n]
 rfl
theorem zApply_l1_eq (m p : Nat → Int) (i : Nat) (z : Int × Bool) : ∀ k, zApplyS_l1 m p i z k = msumS_l0 (fun x_ => m (i * 6 + x_)) p z k
 | 0 => rfl
 | k + 1 => by unfold zApplyS_l1 msumS_l0; rw [zApply_l1_eq m p i z k]
theorem zApply_l0_eq (m p : Nat → Int) (n : Nat) (z : (Nat → Int) × Bool) : ∀ i, zApplyS_l0 m p n z i = mApplyS_l0 m p n z i
 | 0 => rfl
 | i + 1 => by
  unfold zApplyS_l0 mApplyS_l0
  rw [zApply_l0_eq m p n z i]
  dsimp only
  rw [zApply_l1_eq, msum_is]
theorem zApply_eq (bad : Bool) (m p : Nat → Int) (n : Nat) : zApplyS bad m p n = mApplyS bad m p n := by
 unfold zApplyS mApplyS
 rw [zApply_l0_eq]
 exact soundR_is _
theorem zSolve_l3_eq (l : Nat → Int) (i : Nat) (s : (Nat → Int) × Bool) (z : Int × Bool) : ∀ k, zSolveS_l3 l i s z k = mlessS_l0 (fun x_ => l (i * 6 + x_)) s.1 z k
 | 0 => rfl
 | k + 1 => by unfold zSolveS_l3 mlessS_l0; rw [zSolve_l3_eq l i s z k]
theorem zSolve_l2_eq (l p : Nat → Int) (z : (Nat → Int) × Bool) : ∀ i, zSolveS_l2 l p z i = mforwardS_l0 l p z i
 | 0 => rfl
 | i + 1 => by
  unfold zSolveS_l2 mforwardS_l0
  rw [zSolve_l2_eq l p z i]
  dsimp only
  rw [zSolve_l3_eq, first_div, mless_is]
theorem zSolve_l1_eq (l : Nat → Int) (i : Nat) (s : (Nat → Int) × Bool) (z : Int × Bool) : ∀ k, zSolveS_l1 l i s z k = mSolveS_l1 l s i z k
 | 0 => rfl
 | k + 1 => by unfold zSolveS_l1 mSolveS_l1; rw [zSolve_l1_eq l i s z k]
theorem zSolve_l0_eq (l : Nat → Int) (n : Nat) (r z : (Nat → Int) × Bool) : ∀ d, zSolveS_l0 l n r z d = mSolveS_l0 l n r z d
 | 0 => rfl
 | d + 1 => by
  unfold zSolveS_l0 mSolveS_l0
  rw [zSolve_l0_eq l n r z d]
  dsimp only
  rw [zSolve_l1_eq]
theorem zSolve_eq (bad : Bool) (l p : Nat → Int) (n : Nat) : zSolveS bad l p n = mSolveS bad l p n := by
 unfold zSolveS mSolveS mforwardS
 dsimp only
 rw [zSolve_l2_eq, zSolve_l0_eq]
 exact soundR_is _
end Go.Proofs.Ytooehgijllihdaa
namespace Go.Proofs.Ytooehgijllihdaa
open Go.RowKit
theorem mRoot6_eq (bad : Bool) (m : Nat → Int) : mRootS bad m 6 = zRoot6 bad m := by
 cases bad
 ·rw [zRoot6_good, zRoot_eq]
 ·rw [root_bad]; rfl
theorem sum_bad {p q : Nat → Int} {z : Int × Bool} (h : z.2 = true) : ∀ k, (msumS_l0 p q z k).2 = true
 | 0 => h
 | k + 1 => by
  have ih := sum_bad (p := p) (q := q) h k
  unfold msumS_l0
  simp only [ih, mulS_true, addS_true]
theorem apply_l0_bad {m p : Nat → Int} {n : Nat} {z : (Nat → Int) × Bool} (h : z.2 = true) : ∀ i, (mApplyS_l0 m p n z i).2 = true
 | 0 => h
 | i + 1 => by
  have ih := apply_l0_bad (m := m) (p := p) (n := n) h i
  unfold mApplyS_l0
  generalize mApplyS_l0 m p n z i = s at ih ⊢
  dsimp only
  rw [msum_is]
  exact sum_bad ih n
theorem apply_bad (m p : Nat → Int) (n : Nat) : mApplyS true m p n = ((fun _ => 0), true) := by
 unfold mApplyS
 dsimp only
 rw [apply_l0_bad rfl n]
 rfl
theorem mApply6_eq (bad : Bool) (m p : Nat → Int) : mApplyS bad m p 6 = zApply6 bad m p := by
 cases bad
 ·rw [zApply6_good, zApply_eq]
 ·rw [apply_bad]; rfl
theorem forward_bad {l p : Nat → Int} {z : (Nat → Int) × Bool} (h : z.2 = true) : ∀ i, (mforwardS_l0 l p z i).2 = true
 | 0 => h
 | i + 1 => by
  have ih := forward_bad (l := l) (p := p) h i
  unfold mforwardS_l0
  generalize mforwardS_l0 l p z i = s at ih ⊢
  dsimp only
  rw [mless_is, less_bad ih i, divS_true]
theorem solve_l1_bad {l : Nat → Int} {s : (Nat → Int) × Bool} {i : Nat} {z : Int × Bool} (h : z.2 = true) : ∀ k, (mSolveS_l1 l s i z k).2 = true
 | 0 => h
 | k + 1 => by
  have ih := solve_l1_bad (l := l) (s := s) (i := i) h k
  unfold mSolveS_l1
  simp only [ih, mulS_true, subS_true]
theorem solve_l0_bad {l : Nat → Int} {n : Nat} {r z : (Nat → Int) × Bool} (h : z.2 = true) : ∀ d, (mSolveS_l0 l n r z d).2 = true
 | 0 => h
 | d + 1 => by
  have ih := solve_l0_bad (l := l) (n := n) (r := r) h d
  unfold mSolveS_l0
  generalize mSolveS_l0 l n r z d = s at ih ⊢
  dsimp only
  rw [solve_l1_bad ih d, divS_true]
theorem solve_bad (l p : Nat → Int) (n : Nat) : mSolveS true l p n = ((fun _ => 0), true) := by
 unfold mSolveS mforwardS
 dsimp only
 have hb : (mforwardS_l0 l p ((fun _ => 0), true) n).2 = true := forward_bad rfl n
 generalize mforwardS_l0 l p ((fun _ => 0), true) n = s at hb ⊢
 have hc : (mSolveS_l0 l n (s.1, s.2) ((fun _ => 0), s.2) n).2 = true := solve_l0_bad (z := ((fun _ => 0), s.2)) hb n
 rw [hc]
 rfl
theorem mSolve6_eq (bad : Bool) (l p : Nat → Int) : mSolveS bad l p 6 = zSolve6 bad l p := by
 cases bad
 ·rw [zSolve6_good, zSolve_eq]
 ·rw [solve_bad]; rfl
end Go.Proofs.Ytooehgijllihdaa
namespace Go.Proofs.Ytooehgijllihdaa
open Go.RowKit
set_option maxRecDepth 100000
def awkS : Nat → Int := hStartP (0, 0, 0, 1099511627776)
def awkM : (Nat → Int) × Bool := hMoveS false awkS (0, 0, 0) 1000
theorem awk_s : awkS 7 = 17179869184 ∧ hSpreadS false awkS = (51539607552, false) := by decide +kernel
theorem awk_m : awkM.2 = false ∧ awkM.1 0 = 0 ∧ awkM.1 1 = 0 ∧ awkM.1 2 = 0 ∧ awkM.1 3 = 1099511627776 ∧ 17179869184 < awkM.1 7 := by decide +kernel
end Go.Proofs.Ytooehgijllihdaa
