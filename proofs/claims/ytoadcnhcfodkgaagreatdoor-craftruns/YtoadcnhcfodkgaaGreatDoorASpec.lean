/-
  What package mat's functions answer, as plain steps, for the seat YtoadcnhcfodkgaaGreatDoor. No Go text in sight. (Made by mkmat.py.)
-/
import Derived.Test.YtoadcnhcfodkgaaGreatDoorVSpec
import Derived.Test.YtoadcnhcfodkgaaGreatDoorVPart
namespace Go.Proofs.YtoadcnhcfodkgaaGreatDoor
open Go.RowKit

def mfitsS (bad : Bool) (n : Int) : (Bool) × Bool := if n < 1 then (false, true) else if n > 6 then (false, true) else (true, bad)
def mlessS_l0 (p : Nat → Int) (q : Nat → Int) (z : Int × Bool) : Nat → Int × Bool
  | 0 => z
  | k + 1 => let s0 := mlessS_l0 p q z k; let p1 := mulS s0.2 (p k) (q k); let p2 := subS p1.2 s0.1 p1.1; (p2.1, p2.2)
def mlessS (bad : Bool) (s : Int) (p : Nat → Int) (q : Nat → Int) (n : Nat) : (Int) × Bool := let r3 := mlessS_l0 p q (s, bad) n; (r3.1, r3.2)
def msumS_l0 (p : Nat → Int) (q : Nat → Int) (z : Int × Bool) : Nat → Int × Bool
  | 0 => z
  | k + 1 => let s0 := msumS_l0 p q z k; let p1 := mulS s0.2 (p k) (q k); let p2 := addS p1.2 s0.1 p1.1; (p2.1, p2.2)
def msumS (bad : Bool) (p : Nat → Int) (q : Nat → Int) (n : Nat) : (Int) × Bool := let r3 := msumS_l0 p q (0, bad) n; (r3.1, r3.2)
def mpivotS (bad : Bool) (s : Int) : (Int) × Bool := if s < 1 then let r2 := sqrtS true s; (r2.1, r2.2) else let r1 := sqrtS bad s; (r1.1, r1.2)
def msoundMS (bad : Bool) (g : Nat → Int) : (Nat → Int) × Bool := if bad then ((fun _ => 0), bad) else (g, bad)
def msoundRS (bad : Bool) (g : Nat → Int) : (Nat → Int) × Bool := if bad then ((fun _ => 0), bad) else (g, bad)
theorem fits_in (bad : Bool) {n : Nat} (h1 : 1 ≤ n) (h6 : n ≤ 6) : mfitsS bad (n : Int) = (true, bad) := by unfold mfitsS; rw [if_neg (by omega), if_neg (by omega)]
theorem fits_out (bad : Bool) {n : Int} (h : ¬ (1 ≤ n ∧ n ≤ 6)) : mfitsS bad n = (false, true) := by
  unfold mfitsS
  by_cases c : n < 1
  · rw [if_pos c]
  · rw [if_neg c, if_pos (by omega)]
def mRootS_l1 (m : Nat → Int) (i : Nat) (z : (Nat → Int) × Bool) : Nat → (Nat → Int) × Bool
  | 0 => z
  | j + 1 => let s1 := mRootS_l1 m i z j; let p1 := mlessS s1.2 (m (i * 6 + j)) (fun x_ => s1.1 (i * 6 + x_)) (fun x_ => s1.1 (j * 6 + x_)) j; let p2 := divS p1.2 p1.1 (s1.1 (j * 6 + j)); ((updF s1.1 (i * 6 + j) p2.1), p2.2)
def mRootS_l0 (m : Nat → Int) (z : (Nat → Int) × Bool) : Nat → (Nat → Int) × Bool
  | 0 => z
  | i + 1 => let s0 := mRootS_l0 m z i; let p1 := mRootS_l1 m i (s0.1, s0.2) i; let p2 := mlessS p1.2 (m (i * 6 + i)) (fun x_ => p1.1 (i * 6 + x_)) (fun x_ => p1.1 (i * 6 + x_)) i; let p3 := mpivotS p2.2 p2.1; ((updF p1.1 (i * 6 + i) p3.1), p3.2)
def mRootS (bad : Bool) (m : Nat → Int) (n : Nat) : (Nat → Int) × Bool := let r2 := mRootS_l0 m ((fun _ => 0), bad) n; let r3 := msoundMS r2.2 r2.1; (r3.1, r3.2)
def mforwardS_l0 (l : Nat → Int) (p : Nat → Int) (z : (Nat → Int) × Bool) : Nat → (Nat → Int) × Bool
  | 0 => z
  | i + 1 => let s0 := mforwardS_l0 l p z i; let p1 := mlessS s0.2 (p i) (fun x_ => l (i * 6 + x_)) s0.1 i; let p2 := divS p1.2 p1.1 (l (i * 6 + i)); ((updF s0.1 i p2.1), p2.2)
def mforwardS (bad : Bool) (l : Nat → Int) (p : Nat → Int) (n : Nat) : (Nat → Int) × Bool := let r3 := mforwardS_l0 l p ((fun _ => 0), bad) n; (r3.1, r3.2)
def mSolveS_l1 (l : Nat → Int) (s0 : (Nat → Int) × Bool) (i : Nat) (z : Int × Bool) : Nat → Int × Bool
  | 0 => z
  | k + 1 => let s1 := mSolveS_l1 l s0 i z k; let u := i + 1 + k; let p1 := mulS s1.2 (l (u * 6 + i)) (s0.1 u); let p2 := subS p1.2 s1.1 p1.1; (p2.1, p2.2)
def mSolveS_l0 (l : Nat → Int) (n : Nat) (r2 : (Nat → Int) × Bool) (z : (Nat → Int) × Bool) : Nat → (Nat → Int) × Bool
  | 0 => z
  | d + 1 => let s0 := mSolveS_l0 l n r2 z d; let i := n - 1 - d; let p1 := mSolveS_l1 l s0 i ((r2.1 i), s0.2) d; let p2 := divS p1.2 p1.1 (l (i * 6 + i)); ((updF s0.1 i p2.1), p2.2)
def mSolveS (bad : Bool) (l : Nat → Int) (p : Nat → Int) (n : Nat) : (Nat → Int) × Bool := let r2 := mforwardS bad l p n; let r4 := mSolveS_l0 l n r2 ((fun _ => 0), r2.2) n; let r5 := msoundRS r4.2 r4.1; (r5.1, r5.2)
def mSquareS_l1 (l : Nat → Int) (n : Nat) (i : Nat) (z : (Nat → Int) × Bool) : Nat → (Nat → Int) × Bool
  | 0 => z
  | j + 1 => let s1 := mSquareS_l1 l n i z j; let p1 := msumS s1.2 (fun x_ => l (i * 6 + x_)) (fun x_ => l (j * 6 + x_)) n; ((updF s1.1 (i * 6 + j) p1.1), p1.2)
def mSquareS_l0 (l : Nat → Int) (n : Nat) (z : (Nat → Int) × Bool) : Nat → (Nat → Int) × Bool
  | 0 => z
  | i + 1 => let s0 := mSquareS_l0 l n z i; let p1 := mSquareS_l1 l n i (s0.1, s0.2) n; (p1.1, p1.2)
def mSquareS (bad : Bool) (l : Nat → Int) (n : Nat) : (Nat → Int) × Bool := let r2 := mSquareS_l0 l n ((fun _ => 0), bad) n; let r3 := msoundMS r2.2 r2.1; (r3.1, r3.2)
def mApplyS_l0 (m : Nat → Int) (p : Nat → Int) (n : Nat) (z : (Nat → Int) × Bool) : Nat → (Nat → Int) × Bool
  | 0 => z
  | i + 1 => let s0 := mApplyS_l0 m p n z i; let p1 := msumS s0.2 (fun x_ => m (i * 6 + x_)) p n; ((updF s0.1 i p1.1), p1.2)
def mApplyS (bad : Bool) (m : Nat → Int) (p : Nat → Int) (n : Nat) : (Nat → Int) × Bool := let r3 := mApplyS_l0 m p n ((fun _ => 0), bad) n; let r4 := msoundRS r3.2 r3.1; (r4.1, r4.2)
def mRootNS (_ : Bool) (_ : Nat → Int) (_ : Int) : (Nat → Int) × Bool := ((fun _ => 0), true)
def mSolveNS (_ : Bool) (_ : Nat → Int) (_ : Nat → Int) (_ : Int) : (Nat → Int) × Bool := ((fun _ => 0), true)
def mSquareNS (_ : Bool) (_ : Nat → Int) (_ : Int) : (Nat → Int) × Bool := ((fun _ => 0), true)
def mApplyNS (_ : Bool) (_ : Nat → Int) (_ : Nat → Int) (_ : Int) : (Nat → Int) × Bool := ((fun _ => 0), true)
end Go.Proofs.YtoadcnhcfodkgaaGreatDoor
