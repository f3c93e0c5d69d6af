/-
  Roots, and what is solved by them, of six rows: the code's and the document's are the same, in bad flows too, for the seat YtoadcnhcfodkgaaGreatDoor. No Go text in sight.
-/
import Derived.Test.YtoadcnhcfodkgaaGreatDoorMEq
import Derived.Test.YtoadcnhcfodkgaaGreatDoorFRSix
namespace Go.Proofs.YtoadcnhcfodkgaaGreatDoor
open Go.RowKit

theorem mRoot6_eq (bad : Bool) (m : Nat → Int) : mRootS bad m 6 = zRoot6 bad m := by
  cases bad
  · rw [zRoot6_good, zRoot_eq]
  · rw [root_bad]; rfl
theorem sum_bad {p q : Nat → Int} {z : Int × Bool} (h : z.2 = true) : ∀ k, (msumS_l0 p q z k).2 = true
  | 0 => h
  | k + 1 => by
    have ih := sum_bad (p := p) (q := q) h k
    unfold msumS_l0
    simp only [ih, mulS_true, addS_true]
theorem apply_l0_bad {m p : Nat → Int} {n : Nat} {z : (Nat → Int) × Bool} (h : z.2 = true) : ∀ i, (mApplyS_l0 m p n z i).2 = true
  | 0 => h
  | i + 1 => by
    have ih := apply_l0_bad (m := m) (p := p) (n := n) h i
    unfold mApplyS_l0
    generalize mApplyS_l0 m p n z i = s at ih ⊢
    dsimp only
    rw [msum_is]
    exact sum_bad ih n
theorem apply_bad (m p : Nat → Int) (n : Nat) : mApplyS true m p n = ((fun _ => 0), true) := by
  unfold mApplyS
  dsimp only
  rw [apply_l0_bad rfl n]
  rfl
theorem mApply6_eq (bad : Bool) (m p : Nat → Int) : mApplyS bad m p 6 = zApply6 bad m p := by
  cases bad
  · rw [zApply6_good, zApply_eq]
  · rw [apply_bad]; rfl
theorem forward_bad {l p : Nat → Int} {z : (Nat → Int) × Bool} (h : z.2 = true) : ∀ i, (mforwardS_l0 l p z i).2 = true
  | 0 => h
  | i + 1 => by
    have ih := forward_bad (l := l) (p := p) h i
    unfold mforwardS_l0
    generalize mforwardS_l0 l p z i = s at ih ⊢
    dsimp only
    rw [mless_is, less_bad ih i, divS_true]
theorem solve_l1_bad {l : Nat → Int} {s : (Nat → Int) × Bool} {i : Nat} {z : Int × Bool} (h : z.2 = true) : ∀ k, (mSolveS_l1 l s i z k).2 = true
  | 0 => h
  | k + 1 => by
    have ih := solve_l1_bad (l := l) (s := s) (i := i) h k
    unfold mSolveS_l1
    simp only [ih, mulS_true, subS_true]
theorem solve_l0_bad {l : Nat → Int} {n : Nat} {r z : (Nat → Int) × Bool} (h : z.2 = true) : ∀ d, (mSolveS_l0 l n r z d).2 = true
  | 0 => h
  | d + 1 => by
    have ih := solve_l0_bad (l := l) (n := n) (r := r) h d
    unfold mSolveS_l0
    generalize mSolveS_l0 l n r z d = s at ih ⊢
    dsimp only
    rw [solve_l1_bad ih d, divS_true]
theorem solve_bad (l p : Nat → Int) (n : Nat) : mSolveS true l p n = ((fun _ => 0), true) := by
  unfold mSolveS mforwardS
  dsimp only
  have hb : (mforwardS_l0 l p ((fun _ => 0), true) n).2 = true := forward_bad rfl n
  generalize mforwardS_l0 l p ((fun _ => 0), true) n = s at hb ⊢
  have hc : (mSolveS_l0 l n (s.1, s.2) ((fun _ => 0), s.2) n).2 = true := solve_l0_bad (z := ((fun _ => 0), s.2)) hb n
  rw [hc]
  rfl
theorem mSolve6_eq (bad : Bool) (l p : Nat → Int) : mSolveS bad l p 6 = zSolve6 bad l p := by
  cases bad
  · rw [zSolve6_good, zSolve_eq]
  · rw [solve_bad]; rfl
end Go.Proofs.YtoadcnhcfodkgaaGreatDoor
