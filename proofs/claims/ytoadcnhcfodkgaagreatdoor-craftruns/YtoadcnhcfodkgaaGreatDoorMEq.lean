/-
  Package mat's steps and the reference's are the same, for the seat YtoadcnhcfodkgaaGreatDoor. No Go text in sight.
-/
import Derived.Test.YtoadcnhcfodkgaaGreatDoorASpec
import Derived.Test.YtoadcnhcfodkgaaGreatDoorBSpec
import Derived.Test.YtoadcnhcfodkgaaGreatDoorVNear
namespace Go.Proofs.YtoadcnhcfodkgaaGreatDoor
open Go.RowKit

/-- What no step makes anything of. -/
def Dead (s : Int × Bool) : Prop := s.2 = true ∨ numB s.1 = false
theorem dead_less {p q : Nat → Int} {z : Int × Bool} (h : Dead z) : ∀ k, Dead (mlessS_l0 p q z k)
  | 0 => h
  | k + 1 => by
    have ih := dead_less (p := p) (q := q) h k
    unfold mlessS_l0
    generalize mlessS_l0 p q z k = s at ih ⊢
    refine Or.inl ?_
    dsimp only
    rcases ih with h | h
    · simp only [h, mulS_true, subS_true]
    · rw [subS_no (by unfold tk; simp [h])]
theorem dead_div {z : Int × Bool} (h : Dead z) (d : Int) : divS z.2 z.1 d = (0, true) := by
  rcases h with h | h
  · rw [h, divS_true]
  · exact partS_no (by unfold tk; simp [h])
theorem dead_sqrt {z : Int × Bool} (h : Dead z) : sqrtS z.2 z.1 = (0, true) := by
  rcases h with h | h
  · rw [h]; exact sqrtS_no (tk_true _)
  · exact sqrtS_no (by unfold tk; simp [h])
theorem add_first (b : Bool) (x : Int) : ((addS b x 0).1, (addS b x 0).2) = (x, b) ∨ (Dead (x, b) ∧ Dead ((addS b x 0).1, (addS b x 0).2)) := by
  cases h : tk b [x, 0]
  · refine Or.inr ⟨?_, by rw [addS_no h]; exact Or.inl rfl⟩
    cases b
    · refine Or.inr ?_
      show numB x = false
      unfold tk at h
      simpa [show numB 0 = true by decide] using h
    · exact Or.inl rfl
  · left
    obtain ⟨rfl, hx, _⟩ := tk_two h
    rw [addS_yes h]
    unfold gv
    rw [Int.add_zero, hx]
    rfl
/-- What stands on the diagonal. -/
def pivS (s : Int × Bool) : Int × Bool := if s.1 < 1 then sqrtS true s.1 else sqrtS s.2 s.1
theorem dead_piv {z : Int × Bool} (h : Dead z) : pivS z = (0, true) := by
  unfold pivS
  by_cases c : z.1 < 1
  · rw [if_pos c]; exact sqrtS_no (tk_true _)
  · rw [if_neg c]; exact dead_sqrt h
theorem first_div (b : Bool) (x : Int) (p q : Nat → Int) (k : Nat) (d : Int) : divS (mlessS_l0 p q ((addS b x 0).1, (addS b x 0).2) k).2 (mlessS_l0 p q ((addS b x 0).1, (addS b x 0).2) k).1 d = divS (mlessS_l0 p q (x, b) k).2 (mlessS_l0 p q (x, b) k).1 d := by
  rcases add_first b x with h | ⟨h1, h2⟩
  · rw [h]
  · rw [dead_div (dead_less h1 k), dead_div (dead_less h2 k)]
theorem first_piv (b : Bool) (x : Int) (p q : Nat → Int) (k : Nat) : pivS (mlessS_l0 p q ((addS b x 0).1, (addS b x 0).2) k) = pivS (mlessS_l0 p q (x, b) k) := by
  rcases add_first b x with h | ⟨h1, h2⟩
  · rw [h]
  · rw [dead_piv (dead_less h1 k), dead_piv (dead_less h2 k)]
theorem mpivot_is (s : Int × Bool) : mpivotS s.2 s.1 = pivS s := by
  unfold mpivotS pivS
  by_cases c : s.1 < 1
  · simp only [if_pos c]
  · simp only [if_neg c]
theorem mless_is (bad : Bool) (s : Int) (p q : Nat → Int) (k : Nat) : mlessS bad s p q k = mlessS_l0 p q (s, bad) k := rfl
theorem msum_is (bad : Bool) (p q : Nat → Int) (k : Nat) : msumS bad p q k = msumS_l0 p q (0, bad) k := rfl

/-! ### Roots -/
theorem zRoot_l2_eq (i j : Nat) (s : (Nat → Int) × Bool) (z : Int × Bool) : ∀ k, zRootS_l2 i j s z k = mlessS_l0 (fun x_ => s.1 (i * 6 + x_)) (fun x_ => s.1 (j * 6 + x_)) z k
  | 0 => rfl
  | k + 1 => by unfold zRootS_l2 mlessS_l0; rw [zRoot_l2_eq i j s z k]
theorem zRoot_l1_eq (m : Nat → Int) (i : Nat) (z : (Nat → Int) × Bool) : ∀ j, j ≤ i → zRootS_l1 m i z j = mRootS_l1 m i z j
  | 0, _ => rfl
  | j + 1, h => by
    unfold zRootS_l1 mRootS_l1
    rw [zRoot_l1_eq m i z j (by omega)]
    generalize mRootS_l1 m i z j = s
    dsimp only
    rw [if_neg (by omega), zRoot_l2_eq, first_div, mless_is]
theorem zRoot_l0_eq (m : Nat → Int) (z : (Nat → Int) × Bool) : ∀ i, zRootS_l0 m z i = mRootS_l0 m z i
  | 0 => rfl
  | i + 1 => by
    unfold zRootS_l0 mRootS_l0
    rw [zRoot_l0_eq m z i]
    generalize mRootS_l0 m z i = s
    dsimp only
    unfold zRootS_l1
    rw [zRoot_l1_eq m i _ i (Nat.le_refl i)]
    generalize mRootS_l1 m i (s.1, s.2) i = t
    dsimp only
    rw [if_pos rfl, zRoot_l2_eq, mless_is, mpivot_is, ← first_piv]
    generalize mlessS_l0 _ _ _ i = y
    unfold pivS
    by_cases c : y.1 < 1
    · rw [if_pos c, if_pos c]
    · rw [if_neg c, if_neg c]
theorem sound_is (r : (Nat → Int) × Bool) : (if r.2 = true then ((fun _ => 0 : Nat → Int), r.2) else (r.1, r.2)) = ((msoundMS r.2 r.1).1, (msoundMS r.2 r.1).2) := by
  unfold msoundMS
  by_cases c : r.2 = true
  · simp only [if_pos c]
  · simp only [if_neg c]
theorem soundR_is (r : (Nat → Int) × Bool) : (if r.2 = true then ((fun _ => 0 : Nat → Int), r.2) else (r.1, r.2)) = ((msoundRS r.2 r.1).1, (msoundRS r.2 r.1).2) := by
  unfold msoundRS
  by_cases c : r.2 = true
  · simp only [if_pos c]
  · simp only [if_neg c]
theorem zRoot_eq (bad : Bool) (m : Nat → Int) (n : Nat) : zRootS bad m n = mRootS bad m n := by
  unfold zRootS mRootS
  rw [zRoot_l0_eq]
  exact sound_is _
theorem less_bad {p q : Nat → Int} {z : Int × Bool} (h : z.2 = true) : ∀ k, (mlessS_l0 p q z k).2 = true
  | 0 => h
  | k + 1 => by
    have ih := less_bad (p := p) (q := q) h k
    unfold mlessS_l0
    simp only [ih, mulS_true, subS_true]
theorem root_l1_bad {m : Nat → Int} {i : Nat} {z : (Nat → Int) × Bool} (h : z.2 = true) : ∀ j, (mRootS_l1 m i z j).2 = true
  | 0 => h
  | j + 1 => by
    have ih := root_l1_bad (m := m) (i := i) h j
    unfold mRootS_l1
    generalize mRootS_l1 m i z j = s at ih ⊢
    dsimp only
    rw [mless_is]
    rw [show (mlessS_l0 (fun x_ => s.1 (i * 6 + x_)) (fun x_ => s.1 (j * 6 + x_)) (m (i * 6 + j), s.2) j).2 = true from less_bad ih j, divS_true]
theorem root_l0_bad {m : Nat → Int} {z : (Nat → Int) × Bool} (h : z.2 = true) : ∀ i, (mRootS_l0 m z i).2 = true
  | 0 => h
  | i + 1 => by
    have ih := root_l0_bad (m := m) h i
    unfold mRootS_l0
    generalize mRootS_l0 m z i = s at ih ⊢
    dsimp only
    have hb := root_l1_bad (m := m) (i := i) (z := (s.1, s.2)) ih i
    generalize mRootS_l1 m i (s.1, s.2) i = t at hb ⊢
    rw [mless_is, mpivot_is, dead_piv (Or.inl (less_bad hb i))]
theorem root_bad (m : Nat → Int) (n : Nat) : mRootS true m n = ((fun _ => 0), true) := by
  unfold mRootS
  dsimp only
  rw [root_l0_bad rfl n]
  rfl

/-! ### Sums -/
theorem zSquare_l2_eq (l : Nat → Int) (i j : Nat) (z : Int × Bool) : ∀ k, zSquareS_l2 l i j z k = msumS_l0 (fun x_ => l (i * 6 + x_)) (fun x_ => l (j * 6 + x_)) z k
  | 0 => rfl
  | k + 1 => by unfold zSquareS_l2 msumS_l0; rw [zSquare_l2_eq l i j z k]
theorem zSquare_l1_eq (l : Nat → Int) (n i : Nat) (z : (Nat → Int) × Bool) : ∀ j, zSquareS_l1 l n i z j = mSquareS_l1 l n i z j
  | 0 => rfl
  | j + 1 => by
    unfold zSquareS_l1 mSquareS_l1
    rw [zSquare_l1_eq l n i z j]
    dsimp only
    rw [zSquare_l2_eq, msum_is]
theorem zSquare_l0_eq (l : Nat → Int) (n : Nat) (z : (Nat → Int) × Bool) : ∀ i, zSquareS_l0 l n z i = mSquareS_l0 l n z i
  | 0 => rfl
  | i + 1 => by
    unfold zSquareS_l0 mSquareS_l0
    rw [zSquare_l0_eq l n z i]
    dsimp only
    rw [zSquare_l1_eq]
theorem zSquare_eq (bad : Bool) (l : Nat → Int) (n : Nat) : zSquareS bad l n = mSquareS bad l n := by
  unfold zSquareS mSquareS
  rw [zSquare_l0_eq]
  exact sound_is _
theorem zApply_l1_eq (m p : Nat → Int) (i : Nat) (z : Int × Bool) : ∀ k, zApplyS_l1 m p i z k = msumS_l0 (fun x_ => m (i * 6 + x_)) p z k
  | 0 => rfl
  | k + 1 => by unfold zApplyS_l1 msumS_l0; rw [zApply_l1_eq m p i z k]
theorem zApply_l0_eq (m p : Nat → Int) (n : Nat) (z : (Nat → Int) × Bool) : ∀ i, zApplyS_l0 m p n z i = mApplyS_l0 m p n z i
  | 0 => rfl
  | i + 1 => by
    unfold zApplyS_l0 mApplyS_l0
    rw [zApply_l0_eq m p n z i]
    dsimp only
    rw [zApply_l1_eq, msum_is]
theorem zApply_eq (bad : Bool) (m p : Nat → Int) (n : Nat) : zApplyS bad m p n = mApplyS bad m p n := by
  unfold zApplyS mApplyS
  rw [zApply_l0_eq]
  exact soundR_is _

/-! ### What is solved -/
theorem zSolve_l3_eq (l : Nat → Int) (i : Nat) (s : (Nat → Int) × Bool) (z : Int × Bool) : ∀ k, zSolveS_l3 l i s z k = mlessS_l0 (fun x_ => l (i * 6 + x_)) s.1 z k
  | 0 => rfl
  | k + 1 => by unfold zSolveS_l3 mlessS_l0; rw [zSolve_l3_eq l i s z k]
theorem zSolve_l2_eq (l p : Nat → Int) (z : (Nat → Int) × Bool) : ∀ i, zSolveS_l2 l p z i = mforwardS_l0 l p z i
  | 0 => rfl
  | i + 1 => by
    unfold zSolveS_l2 mforwardS_l0
    rw [zSolve_l2_eq l p z i]
    dsimp only
    rw [zSolve_l3_eq, first_div, mless_is]
theorem zSolve_l1_eq (l : Nat → Int) (i : Nat) (s : (Nat → Int) × Bool) (z : Int × Bool) : ∀ k, zSolveS_l1 l i s z k = mSolveS_l1 l s i z k
  | 0 => rfl
  | k + 1 => by unfold zSolveS_l1 mSolveS_l1; rw [zSolve_l1_eq l i s z k]
theorem zSolve_l0_eq (l : Nat → Int) (n : Nat) (r z : (Nat → Int) × Bool) : ∀ d, zSolveS_l0 l n r z d = mSolveS_l0 l n r z d
  | 0 => rfl
  | d + 1 => by
    unfold zSolveS_l0 mSolveS_l0
    rw [zSolve_l0_eq l n r z d]
    dsimp only
    rw [zSolve_l1_eq]
theorem zSolve_eq (bad : Bool) (l p : Nat → Int) (n : Nat) : zSolveS bad l p n = mSolveS bad l p n := by
  unfold zSolveS mSolveS mforwardS
  dsimp only
  rw [zSolve_l2_eq, zSolve_l0_eq]
  exact soundR_is _
end Go.Proofs.YtoadcnhcfodkgaaGreatDoor
