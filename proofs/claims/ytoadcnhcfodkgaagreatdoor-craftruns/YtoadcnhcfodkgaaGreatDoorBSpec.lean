/-
  What package alidaderef06's functions answer, as plain steps, for the seat YtoadcnhcfodkgaaGreatDoor. No Go text in sight. (Made by mkref06.py.)
-/
import Derived.Test.YtoadcnhcfodkgaaGreatDoorVSpec
import Derived.Test.YtoadcnhcfodkgaaGreatDoorVPart
namespace Go.Proofs.YtoadcnhcfodkgaaGreatDoor
open Go.RowKit

def zsizeS (bad : Bool) (n : Int) : (Bool) × Bool := if n < 1 then (false, true) else if n > 6 then (false, true) else (!bad, bad)
theorem size_in {bad : Bool} (hb : Hid (bad = false)) {n : Nat} (h1 : 1 ≤ n) (h6 : n ≤ 6) : zsizeS bad (n : Int) = (true, bad) := by unfold zsizeS; rw [if_neg (by omega), if_neg (by omega), hb.out]; rfl
theorem size_bad (n : Int) : zsizeS true n = (false, true) := by
  unfold zsizeS
  by_cases c : n < 1
  · rw [if_pos c]
  · rw [if_neg c]
    by_cases d : n > 6
    · rw [if_pos d]
    · rw [if_neg d]; rfl
theorem size_out (bad : Bool) {n : Int} (h : ¬ (1 ≤ n ∧ n ≤ 6)) : zsizeS bad n = (false, true) := by
  unfold zsizeS
  by_cases c : n < 1
  · rw [if_pos c]
  · rw [if_neg c, if_pos (by omega)]
def zSquareS_l2 (l : Nat → Int) (i : Nat) (j : Nat) (z : Int × Bool) : Nat → Int × Bool
  | 0 => z
  | k + 1 => let s2 := zSquareS_l2 l i j z k; let p1 := mulS s2.2 (l (i * 6 + k)) (l (j * 6 + k)); let p2 := addS p1.2 s2.1 p1.1; (p2.1, p2.2)
def zSquareS_l1 (l : Nat → Int) (n : Nat) (i : Nat) (z : (Nat → Int) × Bool) : Nat → (Nat → Int) × Bool
  | 0 => z
  | j + 1 => let s1 := zSquareS_l1 l n i z j; let p1 := zSquareS_l2 l i j (0, s1.2) n; ((updF s1.1 (i * 6 + j) p1.1), p1.2)
def zSquareS_l0 (l : Nat → Int) (n : Nat) (z : (Nat → Int) × Bool) : Nat → (Nat → Int) × Bool
  | 0 => z
  | i + 1 => let s0 := zSquareS_l0 l n z i; let p1 := zSquareS_l1 l n i (s0.1, s0.2) n; (p1.1, p1.2)
def zSquareS (bad : Bool) (l : Nat → Int) (n : Nat) : (Nat → Int) × Bool := let r3 := zSquareS_l0 l n ((fun _ => 0), bad) n; if r3.2 then ((fun _ => 0), r3.2) else (r3.1, r3.2)
def zApplyS_l1 (m : Nat → Int) (p : Nat → Int) (i : Nat) (z : Int × Bool) : Nat → Int × Bool
  | 0 => z
  | k + 1 => let s1 := zApplyS_l1 m p i z k; let p1 := mulS s1.2 (m (i * 6 + k)) (p k); let p2 := addS p1.2 s1.1 p1.1; (p2.1, p2.2)
def zApplyS_l0 (m : Nat → Int) (p : Nat → Int) (n : Nat) (z : (Nat → Int) × Bool) : Nat → (Nat → Int) × Bool
  | 0 => z
  | i + 1 => let s0 := zApplyS_l0 m p n z i; let p1 := zApplyS_l1 m p i (0, s0.2) n; ((updF s0.1 i p1.1), p1.2)
def zApplyS (bad : Bool) (m : Nat → Int) (p : Nat → Int) (n : Nat) : (Nat → Int) × Bool := let r2 := zApplyS_l0 m p n ((fun _ => 0), bad) n; if r2.2 then ((fun _ => 0), r2.2) else (r2.1, r2.2)
def zRootS_l2 (i : Nat) (j : Nat) (s1 : (Nat → Int) × Bool) (z : Int × Bool) : Nat → Int × Bool
  | 0 => z
  | k + 1 => let s2 := zRootS_l2 i j s1 z k; let p1 := mulS s2.2 (s1.1 (i * 6 + k)) (s1.1 (j * 6 + k)); let p2 := subS p1.2 s2.1 p1.1; (p2.1, p2.2)
def zRootS_l1 (m : Nat → Int) (i : Nat) (z : (Nat → Int) × Bool) : Nat → (Nat → Int) × Bool
  | 0 => z
  | j + 1 => let s1 := zRootS_l1 m i z j; let p1 := addS s1.2 (m (i * 6 + j)) 0; let p2 := zRootS_l2 i j s1 (p1.1, p1.2) j; if (i : Int) = (j : Int) then if p2.1 < 1 then let p3 := sqrtS true p2.1; ((updF s1.1 (i * 6 + j) p3.1), p3.2) else let p4 := sqrtS p2.2 p2.1; ((updF s1.1 (i * 6 + j) p4.1), p4.2) else let p4 := divS p2.2 p2.1 (s1.1 (j * 6 + j)); ((updF s1.1 (i * 6 + j) p4.1), p4.2)
def zRootS_l0 (m : Nat → Int) (z : (Nat → Int) × Bool) : Nat → (Nat → Int) × Bool
  | 0 => z
  | i + 1 => let s0 := zRootS_l0 m z i; let p1 := zRootS_l1 m i (s0.1, s0.2) (i + 1); (p1.1, p1.2)
def zRootS (bad : Bool) (m : Nat → Int) (n : Nat) : (Nat → Int) × Bool := let r3 := zRootS_l0 m ((fun _ => 0), bad) n; if r3.2 then ((fun _ => 0), r3.2) else (r3.1, r3.2)
def zSolveS_l3 (l : Nat → Int) (i : Nat) (s2 : (Nat → Int) × Bool) (z : Int × Bool) : Nat → Int × Bool
  | 0 => z
  | k + 1 => let s3 := zSolveS_l3 l i s2 z k; let p1 := mulS s3.2 (l (i * 6 + k)) (s2.1 k); let p2 := subS p1.2 s3.1 p1.1; (p2.1, p2.2)
def zSolveS_l2 (l : Nat → Int) (p : Nat → Int) (z : (Nat → Int) × Bool) : Nat → (Nat → Int) × Bool
  | 0 => z
  | i + 1 => let s2 := zSolveS_l2 l p z i; let p1 := addS s2.2 (p i) 0; let p2 := zSolveS_l3 l i s2 (p1.1, p1.2) i; let p3 := divS p2.2 p2.1 (l (i * 6 + i)); ((updF s2.1 i p3.1), p3.2)
def zSolveS_l1 (l : Nat → Int) (i : Nat) (s0 : (Nat → Int) × Bool) (z : Int × Bool) : Nat → Int × Bool
  | 0 => z
  | k + 1 => let s1 := zSolveS_l1 l i s0 z k; let u := i + 1 + k; let p1 := mulS s1.2 (l (u * 6 + i)) (s0.1 u); let p2 := subS p1.2 s1.1 p1.1; (p2.1, p2.2)
def zSolveS_l0 (l : Nat → Int) (n : Nat) (r3 : (Nat → Int) × Bool) (z : (Nat → Int) × Bool) : Nat → (Nat → Int) × Bool
  | 0 => z
  | d + 1 => let s0 := zSolveS_l0 l n r3 z d; let i := n - 1 - d; let p1 := zSolveS_l1 l i s0 ((r3.1 i), s0.2) d; let p2 := divS p1.2 p1.1 (l (i * 6 + i)); ((updF s0.1 i p2.1), p2.2)
def zSolveS (bad : Bool) (l : Nat → Int) (p : Nat → Int) (n : Nat) : (Nat → Int) × Bool := let r3 := zSolveS_l2 l p ((fun _ => 0), bad) n; let r4 := zSolveS_l0 l n r3 ((fun _ => 0), r3.2) n; if r4.2 then ((fun _ => 0), r4.2) else (r4.1, r4.2)
def zRootNS (_ : Bool) (_ : Nat → Int) (_ : Int) : (Nat → Int) × Bool := ((fun _ => 0), true)
def zSolveNS (_ : Bool) (_ : Nat → Int) (_ : Nat → Int) (_ : Int) : (Nat → Int) × Bool := ((fun _ => 0), true)
def zSquareNS (_ : Bool) (_ : Nat → Int) (_ : Int) : (Nat → Int) × Bool := ((fun _ => 0), true)
def zApplyNS (_ : Bool) (_ : Nat → Int) (_ : Nat → Int) (_ : Int) : (Nat → Int) × Bool := ((fun _ => 0), true)
end Go.Proofs.YtoadcnhcfodkgaaGreatDoor
