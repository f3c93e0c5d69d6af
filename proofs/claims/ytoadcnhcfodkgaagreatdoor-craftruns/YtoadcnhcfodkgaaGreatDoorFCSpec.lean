/-
  What package filter's functions answer, as plain steps, for the seat YtoadcnhcfodkgaaGreatDoor. No Go text in sight. (Made by mkfil14.py.)
-/
import Derived.Test.YtoadcnhcfodkgaaGreatDoorFCBase
namespace Go.Proofs.YtoadcnhcfodkgaaGreatDoor
open Go.RowKit

def heitherP (i : Nat) (p : Int) (q : Int) : Int := if (i : Int) < 3 then p else q
def hpartedP (r : Nat → Int) : V3 × V3 := (((r 0), (r 1), (r 2)), ((r 3), (r 4), (r 5)))
def hjoinedP (p : V6) : V6 := p
def hSpreadS (bad : Bool) (g : Nat → Int) : (Int) × Bool := let r1 := addS bad (g 7) (g 14); let r2 := addS r1.2 r1.1 (g 21); (r2.1, r2.2)
def hsoundS (bad : Bool) (g : Nat → Int) : (Nat → Int) × Bool := if bad then ((fun _ => 0), bad) else (g, bad)
def hlessS_l0s (q : Nat → Int) (i : Nat) (s0 : (Nat → Int) × Bool) : (Nat → Int) × Bool := let p1 := subS s0.2 (s0.1 i) (q i); ((updF s0.1 i p1.1), p1.2)
def hlessS_l0 (q : Nat → Int) (z : (Nat → Int) × Bool) : Nat → (Nat → Int) × Bool
  | 0 => z
  | i + 1 => hlessS_l0s q i (hlessS_l0 q z i)
theorem hlessS_l0_succ (q : Nat → Int) (z : (Nat → Int) × Bool) (i : Nat) : hlessS_l0 q z (i + 1) = hlessS_l0s q i (hlessS_l0 q z i) := rfl
def hlessS (bad : Bool) (p : Nat → Int) (q : Nat → Int) : (Nat → Int) × Bool := let r2 := hlessS_l0 q (p, bad) 6; (r2.1, r2.2)
def hmiddleS_l0s (x : Nat → Int) (k : Nat) (s0 : Int × Bool) : Int × Bool := let p1 := addS s0.2 s0.1 (x k); (p1.1, p1.2)
def hmiddleS_l0 (x : Nat → Int) (z : Int × Bool) : Nat → Int × Bool
  | 0 => z
  | k + 1 => hmiddleS_l0s x k (hmiddleS_l0 x z k)
theorem hmiddleS_l0_succ (x : Nat → Int) (z : Int × Bool) (k : Nat) : hmiddleS_l0 x z (k + 1) = hmiddleS_l0s x k (hmiddleS_l0 x z k) := rfl
def hmiddleS (bad : Bool) (x : Nat → Int) : (Int) × Bool := let r2 := hmiddleS_l0 x ((x 0), bad) 13; let r3 := partS r2.2 r2.1 1 14; (r3.1, r3.2)
def hmeanS_l1s (x : Nat → Int) (i : Nat) (k : Nat) (s1 : (Nat → Int)) : (Nat → Int) := (updF s1 k (x (k * 6 + i)))
def hmeanS_l1 (x : Nat → Int) (i : Nat) (z : (Nat → Int)) : Nat → (Nat → Int)
  | 0 => z
  | k + 1 => hmeanS_l1s x i k (hmeanS_l1 x i z k)
theorem hmeanS_l1_succ (x : Nat → Int) (i : Nat) (z : (Nat → Int)) (k : Nat) : hmeanS_l1 x i z (k + 1) = hmeanS_l1s x i k (hmeanS_l1 x i z k) := rfl
def hmeanS_l0s (x : Nat → Int) (i : Nat) (s0 : (Nat → Int) × Bool) : (Nat → Int) × Bool := let p1 := hmeanS_l1 x i (fun _ => 0) 13; let p2 := hmiddleS s0.2 p1; ((updF s0.1 i p2.1), p2.2)
def hmeanS_l0 (x : Nat → Int) (z : (Nat → Int) × Bool) : Nat → (Nat → Int) × Bool
  | 0 => z
  | i + 1 => hmeanS_l0s x i (hmeanS_l0 x z i)
theorem hmeanS_l0_succ (x : Nat → Int) (z : (Nat → Int) × Bool) (i : Nat) : hmeanS_l0 x z (i + 1) = hmeanS_l0s x i (hmeanS_l0 x z i) := rfl
def hmeanS (bad : Bool) (x : Nat → Int) : (Nat → Int) × Bool := let r1 := hmeanS_l0 x ((fun _ => 0), bad) 6; (r1.1, r1.2)
def hproductsS_l2s (x : Nat → Int) (y : Nat → Int) (i : Nat) (j : Nat) (k : Nat) (s2 : (Nat → Int) × Bool) : (Nat → Int) × Bool := let p1 := mulS s2.2 (x (k * 6 + i)) (y (k * 6 + j)); ((updF s2.1 k p1.1), p1.2)
def hproductsS_l2 (x : Nat → Int) (y : Nat → Int) (i : Nat) (j : Nat) (z : (Nat → Int) × Bool) : Nat → (Nat → Int) × Bool
  | 0 => z
  | k + 1 => hproductsS_l2s x y i j k (hproductsS_l2 x y i j z k)
theorem hproductsS_l2_succ (x : Nat → Int) (y : Nat → Int) (i : Nat) (j : Nat) (z : (Nat → Int) × Bool) (k : Nat) : hproductsS_l2 x y i j z (k + 1) = hproductsS_l2s x y i j k (hproductsS_l2 x y i j z k) := rfl
def hproductsS_l1s (x : Nat → Int) (y : Nat → Int) (i : Nat) (j : Nat) (s1 : (Nat → Int) × Bool) : (Nat → Int) × Bool := let p1 := hproductsS_l2 x y i j ((fun _ => 0), s1.2) 13; let p2 := hmiddleS p1.2 p1.1; ((updF s1.1 (i * 6 + j) p2.1), p2.2)
def hproductsS_l1 (x : Nat → Int) (y : Nat → Int) (i : Nat) (z : (Nat → Int) × Bool) : Nat → (Nat → Int) × Bool
  | 0 => z
  | j + 1 => hproductsS_l1s x y i j (hproductsS_l1 x y i z j)
theorem hproductsS_l1_succ (x : Nat → Int) (y : Nat → Int) (i : Nat) (z : (Nat → Int) × Bool) (j : Nat) : hproductsS_l1 x y i z (j + 1) = hproductsS_l1s x y i j (hproductsS_l1 x y i z j) := rfl
def hproductsS_l0s (x : Nat → Int) (y : Nat → Int) (i : Nat) (s0 : (Nat → Int) × Bool) : (Nat → Int) × Bool := let p1 := hproductsS_l1 x y i (s0.1, s0.2) 6; (p1.1, p1.2)
def hproductsS_l0 (x : Nat → Int) (y : Nat → Int) (z : (Nat → Int) × Bool) : Nat → (Nat → Int) × Bool
  | 0 => z
  | i + 1 => hproductsS_l0s x y i (hproductsS_l0 x y z i)
theorem hproductsS_l0_succ (x : Nat → Int) (y : Nat → Int) (z : (Nat → Int) × Bool) (i : Nat) : hproductsS_l0 x y z (i + 1) = hproductsS_l0s x y i (hproductsS_l0 x y z i) := rfl
def hproductsS (bad : Bool) (x : Nat → Int) (y : Nat → Int) : (Nat → Int) × Bool := let r1 := hproductsS_l0 x y ((fun _ => 0), bad) 6; (r1.1, r1.2)
def hbesideS_l0s (m : Nat → Int) (k : Nat) (s0 : (Nat → Int) × Bool) : (Nat → Int) × Bool := let p1 := hlessS s0.2 (fun x_ => s0.1 (k * 6 + x_)) m; ((updF (updF (updF (updF (updF (updF s0.1 (k * 6) (p1.1 0)) (k * 6 + 1) (p1.1 1)) (k * 6 + 2) (p1.1 2)) (k * 6 + 3) (p1.1 3)) (k * 6 + 4) (p1.1 4)) (k * 6 + 5) (p1.1 5)), p1.2)
def hbesideS_l0 (m : Nat → Int) (z : (Nat → Int) × Bool) : Nat → (Nat → Int) × Bool
  | 0 => z
  | k + 1 => hbesideS_l0s m k (hbesideS_l0 m z k)
theorem hbesideS_l0_succ (m : Nat → Int) (z : (Nat → Int) × Bool) (k : Nat) : hbesideS_l0 m z (k + 1) = hbesideS_l0s m k (hbesideS_l0 m z k) := rfl
def hbesideS (bad : Bool) (x : Nat → Int) (m : Nat → Int) : (Nat → Int) × Bool := let r2 := hbesideS_l0 m (x, bad) 13; (r2.1, r2.2)
def hraisedS_l0s (p : Int) (q : Int) (i : Nat) (s0 : (Nat → Int) × Bool) : (Nat → Int) × Bool := let p1 := heitherP i p q; let p2 := addS s0.2 (s0.1 (i * 6 + i)) p1; ((updF s0.1 (i * 6 + i) p2.1), p2.2)
def hraisedS_l0 (p : Int) (q : Int) (z : (Nat → Int) × Bool) : Nat → (Nat → Int) × Bool
  | 0 => z
  | i + 1 => hraisedS_l0s p q i (hraisedS_l0 p q z i)
theorem hraisedS_l0_succ (p : Int) (q : Int) (z : (Nat → Int) × Bool) (i : Nat) : hraisedS_l0 p q z (i + 1) = hraisedS_l0s p q i (hraisedS_l0 p q z i) := rfl
def hraisedS (bad : Bool) (m : Nat → Int) (p : Int) (q : Int) : (Nat → Int) × Bool := let r1 := hraisedS_l0 p q (m, bad) 6; (r1.1, r1.2)
def hevenedS_l1s (m : Nat → Int) (i : Nat) (j : Nat) (s1 : (Nat → Int) × Bool) : (Nat → Int) × Bool := let p1 := addS s1.2 (m (i * 6 + j)) (m (j * 6 + i)); let p2 := partS p1.2 p1.1 1 2; ((updF s1.1 (i * 6 + j) p2.1), p2.2)
def hevenedS_l1 (m : Nat → Int) (i : Nat) (z : (Nat → Int) × Bool) : Nat → (Nat → Int) × Bool
  | 0 => z
  | j + 1 => hevenedS_l1s m i j (hevenedS_l1 m i z j)
theorem hevenedS_l1_succ (m : Nat → Int) (i : Nat) (z : (Nat → Int) × Bool) (j : Nat) : hevenedS_l1 m i z (j + 1) = hevenedS_l1s m i j (hevenedS_l1 m i z j) := rfl
def hevenedS_l0s (m : Nat → Int) (i : Nat) (s0 : (Nat → Int) × Bool) : (Nat → Int) × Bool := let p1 := hevenedS_l1 m i (s0.1, s0.2) 6; (p1.1, p1.2)
def hevenedS_l0 (m : Nat → Int) (z : (Nat → Int) × Bool) : Nat → (Nat → Int) × Bool
  | 0 => z
  | i + 1 => hevenedS_l0s m i (hevenedS_l0 m z i)
theorem hevenedS_l0_succ (m : Nat → Int) (z : (Nat → Int) × Bool) (i : Nat) : hevenedS_l0 m z (i + 1) = hevenedS_l0s m i (hevenedS_l0 m z i) := rfl
def hevenedS (bad : Bool) (m : Nat → Int) : (Nat → Int) × Bool := let r1 := hevenedS_l0 m ((fun _ => 0), bad) 6; (r1.1, r1.2)
def hunitsS (bad : Bool) (v : Nat → Int) : (V6) × Bool := let r1 := vUnitS bad ((v 0), (v 1), (v 2)); let r2 := vUnitS r1.2 ((v 3), (v 4), (v 5)); ((r1.1.1, r1.1.2.1, r1.1.2.2, r2.1.1, r2.1.2.1, r2.1.2.2), r2.2)
def hturnedS (bad : Bool) (q : V4) (r : Nat → Int) : (V4) × Bool := let r1 := hpartedP r; let r2 := qFromRodS bad r1.1; let r3 := qMulS r2.2 r2.1 q; let r4 := qUnitS r3.2 r3.1; (r4.1, r4.2)
def hbiasedS (bad : Bool) (v : V3) (r : Nat → Int) : (V3) × Bool := let r1 := hpartedP r; let r2 := vAddS bad v r1.2; (r2.1, r2.2)
def hattitudesS_l0s (g : Nat → Int) (x : Nat → Int) (k : Nat) (s0 : (Nat → Int) × Bool) : (Nat → Int) × Bool := let p1 := hpartedP (fun x_ => x (k * 6 + x_)); let p2 := qFromRodS s0.2 p1.1; let p3 := qMulS p2.2 p2.1 ((g 0), (g 1), (g 2), (g 3)); ((updF (updF (updF (updF s0.1 (k * 4) p3.1.1) (k * 4 + 1) p3.1.2.1) (k * 4 + 2) p3.1.2.2.1) (k * 4 + 3) p3.1.2.2.2), p3.2)
def hattitudesS_l0 (g : Nat → Int) (x : Nat → Int) (z : (Nat → Int) × Bool) : Nat → (Nat → Int) × Bool
  | 0 => z
  | k + 1 => hattitudesS_l0s g x k (hattitudesS_l0 g x z k)
theorem hattitudesS_l0_succ (g : Nat → Int) (x : Nat → Int) (z : (Nat → Int) × Bool) (k : Nat) : hattitudesS_l0 g x z (k + 1) = hattitudesS_l0s g x k (hattitudesS_l0 g x z k) := rfl
def hattitudesS (bad : Bool) (g : Nat → Int) (x : Nat → Int) : (Nat → Int) × Bool := let r5 := hattitudesS_l0 g x ((fun _ => 0), bad) 13; (r5.1, r5.2)
def hmovedS_l0s (x : Nat → Int) (ms : Int) (r3 : (V3) × Bool) (k : Nat) (s0 : (Nat → Int) × Bool) : (Nat → Int) × Bool := let p1 := hpartedP (fun x_ => x (k * 6 + x_)); let p2 := vSubS s0.2 r3.1 p1.2; let p3 := partS p2.2 p2.1.1 ms 1000; let p4 := partS p3.2 p2.1.2.1 ms 1000; let p5 := partS p4.2 p2.1.2.2 ms 1000; let p6 := qFromRodS p5.2 (p3.1, p4.1, p5.1); let p7 := qMulS p6.2 p6.1 ((s0.1 (k * 4)), (s0.1 (k * 4 + 1)), (s0.1 (k * 4 + 2)), (s0.1 (k * 4 + 3))); ((updF (updF (updF (updF s0.1 (k * 4) p7.1.1) (k * 4 + 1) p7.1.2.1) (k * 4 + 2) p7.1.2.2.1) (k * 4 + 3) p7.1.2.2.2), p7.2)
def hmovedS_l0 (x : Nat → Int) (ms : Int) (r3 : (V3) × Bool) (z : (Nat → Int) × Bool) : Nat → (Nat → Int) × Bool
  | 0 => z
  | k + 1 => hmovedS_l0s x ms r3 k (hmovedS_l0 x ms r3 z k)
theorem hmovedS_l0_succ (x : Nat → Int) (ms : Int) (r3 : (V3) × Bool) (z : (Nat → Int) × Bool) (k : Nat) : hmovedS_l0 x ms r3 z (k + 1) = hmovedS_l0s x ms r3 k (hmovedS_l0 x ms r3 z k) := rfl
def hmovedS (bad : Bool) (g : Nat → Int) (x : Nat → Int) (v : V3) (ms : Int) : (Nat → Int) × Bool := let r1 := hattitudesS bad g x; let r3 := vSubS r1.2 v ((g 4), (g 5), (g 6)); let r13 := hmovedS_l0 x ms r3 (r1.1, r3.2) 13; (r13.1, r13.2)
def haroundS_l0s (q : V4) (y : Nat → Int) (x : Nat → Int) (k : Nat) (s0 : (Nat → Int) × Bool) : (Nat → Int) × Bool := let p1 := hpartedP (fun x_ => x (k * 6 + x_)); let p2 := qBackS q; let p3 := qMulS s0.2 ((y (k * 4)), (y (k * 4 + 1)), (y (k * 4 + 2)), (y (k * 4 + 3))) p2; let p4 := qToRodS p3.2 p3.1; let p5 := hjoinedP (p4.1.1, p4.1.2.1, p4.1.2.2, p1.2.1, p1.2.2.1, p1.2.2.2); ((updF (updF (updF (updF (updF (updF s0.1 (k * 6) p5.1) (k * 6 + 1) p5.2.1) (k * 6 + 2) p5.2.2.1) (k * 6 + 3) p5.2.2.2.1) (k * 6 + 4) p5.2.2.2.2.1) (k * 6 + 5) p5.2.2.2.2.2), p4.2)
def haroundS_l0 (q : V4) (y : Nat → Int) (x : Nat → Int) (z : (Nat → Int) × Bool) : Nat → (Nat → Int) × Bool
  | 0 => z
  | k + 1 => haroundS_l0s q y x k (haroundS_l0 q y x z k)
theorem haroundS_l0_succ (q : V4) (y : Nat → Int) (x : Nat → Int) (z : (Nat → Int) × Bool) (k : Nat) : haroundS_l0 q y x z (k + 1) = haroundS_l0s q y x k (haroundS_l0 q y x z k) := rfl
def haroundS (bad : Bool) (q : V4) (y : Nat → Int) (x : Nat → Int) : (Nat → Int) × Bool := let r3 := haroundS_l0 q y x ((fun _ => 0), bad) 13; (r3.1, r3.2)
def hviewedS_l0s (sky : Nat → Int) (r1 : (Nat → Int) × Bool) (k : Nat) (s0 : (Nat → Int) × Bool) : (Nat → Int) × Bool := let p1 := qTurnS s0.2 ((r1.1 (k * 4)), (r1.1 (k * 4 + 1)), (r1.1 (k * 4 + 2)), (r1.1 (k * 4 + 3))) ((sky 0), (sky 1), (sky 2)); let p2 := qTurnS p1.2 ((r1.1 (k * 4)), (r1.1 (k * 4 + 1)), (r1.1 (k * 4 + 2)), (r1.1 (k * 4 + 3))) ((sky 3), (sky 4), (sky 5)); let p3 := hjoinedP (p1.1.1, p1.1.2.1, p1.1.2.2, p2.1.1, p2.1.2.1, p2.1.2.2); ((updF (updF (updF (updF (updF (updF s0.1 (k * 6) p3.1) (k * 6 + 1) p3.2.1) (k * 6 + 2) p3.2.2.1) (k * 6 + 3) p3.2.2.2.1) (k * 6 + 4) p3.2.2.2.2.1) (k * 6 + 5) p3.2.2.2.2.2), p2.2)
def hviewedS_l0 (sky : Nat → Int) (r1 : (Nat → Int) × Bool) (z : (Nat → Int) × Bool) : Nat → (Nat → Int) × Bool
  | 0 => z
  | k + 1 => hviewedS_l0s sky r1 k (hviewedS_l0 sky r1 z k)
theorem hviewedS_l0_succ (sky : Nat → Int) (r1 : (Nat → Int) × Bool) (z : (Nat → Int) × Bool) (k : Nat) : hviewedS_l0 sky r1 z (k + 1) = hviewedS_l0s sky r1 k (hviewedS_l0 sky r1 z k) := rfl
def hviewedS (bad : Bool) (g : Nat → Int) (x : Nat → Int) (sky : Nat → Int) : (Nat → Int) × Bool := let r1 := hattitudesS bad g x; let r5 := hviewedS_l0 sky r1 ((fun _ => 0), r1.2) 13; (r5.1, r5.2)
def hmetS_l0s (g : Nat → Int) (l : Nat → Int) (c : Nat → Int) (i : Nat) (s0 : (Nat → Int) × (Nat → Int) × Bool) : (Nat → Int) × (Nat → Int) × Bool := let p1 := zSolve6 s0.2.2 l (fun x_ => c (i * 6 + x_)); let p2 := zApply6 p1.2 c (fun x_ => (updF (updF (updF (updF (updF (updF s0.1 (i * 6) (p1.1 0)) (i * 6 + 1) (p1.1 1)) (i * 6 + 2) (p1.1 2)) (i * 6 + 3) (p1.1 3)) (i * 6 + 4) (p1.1 4)) (i * 6 + 5) (p1.1 5)) (i * 6 + x_)); let p3 := hlessS p2.2 (fun x_ => g (7 + i * 6 + x_)) p2.1; ((updF (updF (updF (updF (updF (updF s0.1 (i * 6) (p1.1 0)) (i * 6 + 1) (p1.1 1)) (i * 6 + 2) (p1.1 2)) (i * 6 + 3) (p1.1 3)) (i * 6 + 4) (p1.1 4)) (i * 6 + 5) (p1.1 5)), (updF (updF (updF (updF (updF (updF s0.2.1 (i * 6) (p3.1 0)) (i * 6 + 1) (p3.1 1)) (i * 6 + 2) (p3.1 2)) (i * 6 + 3) (p3.1 3)) (i * 6 + 4) (p3.1 4)) (i * 6 + 5) (p3.1 5)), p3.2)
def hmetS_l0 (g : Nat → Int) (l : Nat → Int) (c : Nat → Int) (z : (Nat → Int) × (Nat → Int) × Bool) : Nat → (Nat → Int) × (Nat → Int) × Bool
  | 0 => z
  | i + 1 => hmetS_l0s g l c i (hmetS_l0 g l c z i)
theorem hmetS_l0_succ (g : Nat → Int) (l : Nat → Int) (c : Nat → Int) (z : (Nat → Int) × (Nat → Int) × Bool) (i : Nat) : hmetS_l0 g l c z (i + 1) = hmetS_l0s g l c i (hmetS_l0 g l c z i) := rfl
def hmetS (bad : Bool) (g : Nat → Int) (l : Nat → Int) (c : Nat → Int) (y : Nat → Int) : (Nat → Int) × Bool := let r5 := hmetS_l0 g l c ((fun _ => 0), (fun _ => 0), bad) 6; let r6 := zApply6 r5.2.2 r5.1 y; let r8 := hturnedS r6.2 ((g 0), (g 1), (g 2), (g 3)) r6.1; let r9 := hbiasedS r8.2 ((g 4), (g 5), (g 6)) r6.1; let r10 := hevenedS r9.2 r5.2.1; ((guessF r8.1 r9.1 r10.1), r10.2)
def hPointsS_l1s (r1 : (Nat → Int) × Bool) (r3 : (Int) × Bool) (k : Nat) (i : Nat) (s1 : (Nat → Int) × Bool) : (Nat → Int) × Bool := let p1 := mulS s1.2 r3.1 (r1.1 (i * 6 + k)); ((updF (updF s1.1 ((1 + k) * 6 + i) p1.1) ((7 + k) * 6 + i) (-p1.1)), p1.2)
def hPointsS_l1 (r1 : (Nat → Int) × Bool) (r3 : (Int) × Bool) (k : Nat) (z : (Nat → Int) × Bool) : Nat → (Nat → Int) × Bool
  | 0 => z
  | i + 1 => hPointsS_l1s r1 r3 k i (hPointsS_l1 r1 r3 k z i)
theorem hPointsS_l1_succ (r1 : (Nat → Int) × Bool) (r3 : (Int) × Bool) (k : Nat) (z : (Nat → Int) × Bool) (i : Nat) : hPointsS_l1 r1 r3 k z (i + 1) = hPointsS_l1s r1 r3 k i (hPointsS_l1 r1 r3 k z i) := rfl
def hPointsS_l0s (r1 : (Nat → Int) × Bool) (r3 : (Int) × Bool) (k : Nat) (s0 : (Nat → Int) × Bool) : (Nat → Int) × Bool := let p1 := hPointsS_l1 r1 r3 k (s0.1, s0.2) 6; (p1.1, p1.2)
def hPointsS_l0 (r1 : (Nat → Int) × Bool) (r3 : (Int) × Bool) (z : (Nat → Int) × Bool) : Nat → (Nat → Int) × Bool
  | 0 => z
  | k + 1 => hPointsS_l0s r1 r3 k (hPointsS_l0 r1 r3 z k)
theorem hPointsS_l0_succ (r1 : (Nat → Int) × Bool) (r3 : (Int) × Bool) (z : (Nat → Int) × Bool) (k : Nat) : hPointsS_l0 r1 r3 z (k + 1) = hPointsS_l0s r1 r3 k (hPointsS_l0 r1 r3 z k) := rfl
def hPointsS (bad : Bool) (g : Nat → Int) : (Nat → Int) × Bool := let r1 := zRoot6 bad (fun x_ => g (7 + x_)); let r3 := sqrtS r1.2 7696581394432; let r4 := hPointsS_l0 r1 r3 ((fun _ => 0), r3.2) 6; (r4.1, r4.2)
def hStartP_l0s  (i : Nat) (s0 : (Nat → Int)) : (Nat → Int) := let p1 := heitherP i 17179869184 16777216; (updF s0 (7 + i * 6 + i) p1)
def hStartP_l0  (z : (Nat → Int)) : Nat → (Nat → Int)
  | 0 => z
  | i + 1 => hStartP_l0s  i (hStartP_l0 z i)
theorem hStartP_l0_succ  (z : (Nat → Int)) (i : Nat) : hStartP_l0 z (i + 1) = hStartP_l0s  i (hStartP_l0 z i) := rfl
def hStartP (q : V4) : Nat → Int := let r3 := hStartP_l0 (guessF q (0, 0, 0) (fun _ => 0)) 6; r3
def hMoveS (bad : Bool) (g : Nat → Int) (v : V3) (ms : Int) : (Nat → Int) × Bool := if ms < 10 then ((fun _ => 0), true) else if ms > 10000 then ((fun _ => 0), true) else let r1 := hPointsS bad g; let r3 := hmovedS r1.2 g r1.1 v ms; let r5 := qUnitS r3.2 ((r3.1 0), (r3.1 1), (r3.1 2), (r3.1 3)); let r6 := haroundS r5.2 r5.1 r3.1 r1.1; let r8 := hmeanS r6.2 r6.1; let r10 := hbesideS r8.2 r6.1 r8.1; let r12 := hproductsS r10.2 r10.1 r10.1; let r14 := hturnedS r12.2 r5.1 r8.1; let r15 := hbiasedS r14.2 ((g 4), (g 5), (g 6)) r8.1; let r16 := partS r15.2 65536 ms 1000; let r17 := partS r16.2 1024 ms 1000; let r18 := hraisedS r17.2 r12.1 r16.1 r17.1; let r19 := hsoundS r18.2 (guessF r14.1 r15.1 r18.1); (r19.1, r19.2)
def hMeetS (bad : Bool) (g : Nat → Int) (sky : Nat → Int) (body : Nat → Int) : ((Nat → Int) × Int × Bool) × Bool := let r1 := hPointsS bad g; let r3 := hunitsS r1.2 sky; let r4 := hviewedS r3.2 g r1.1 (fun i_ => if i_ = 0 then r3.1.1 else if i_ = 1 then r3.1.2.1 else if i_ = 2 then r3.1.2.2.1 else if i_ = 3 then r3.1.2.2.2.1 else if i_ = 4 then r3.1.2.2.2.2.1 else r3.1.2.2.2.2.2); let r5 := hmeanS r4.2 r4.1; let r7 := hbesideS r5.2 r4.1 r5.1; let r9 := hproductsS r7.2 r7.1 r7.1; let r10 := hraisedS r9.2 r9.1 67108864 268435456; let r12 := hproductsS r10.2 r1.1 r7.1; let r14 := hunitsS r12.2 body; let r15 := hjoinedP r14.1; let r16 := hlessS r14.2 (fun i_ => if i_ = 0 then r15.1 else if i_ = 1 then r15.2.1 else if i_ = 2 then r15.2.2.1 else if i_ = 3 then r15.2.2.2.1 else if i_ = 4 then r15.2.2.2.2.1 else r15.2.2.2.2.2) r5.1; let r17 := zRoot6 r16.2 r10.1; let r19 := zSolve6 r17.2 r17.1 r16.1; let r20 := zApply6 r19.2 (matF r16.1) r19.1; if (r20.1 0) > 32985348833280 then ((g, (r20.1 0), false), r20.2) else let r21 := hmetS r20.2 g r17.1 r12.1 r16.1; if r21.2 then (((fun _ => 0), 0, false), r21.2) else ((r21.1, (r20.1 0), true), r21.2)
end Go.Proofs.YtoadcnhcfodkgaaGreatDoor
