/-
  What package mat's functions answer, whatever n is, for the seat Ytcnbcdnjogopdaa.
-/
import Derived.Test.YtcnbcdnjogopdaaARoot
import Derived.Test.YtcnbcdnjogopdaaASolve
import Derived.Test.YtcnbcdnjogopdaaASquare
import Derived.Test.YtcnbcdnjogopdaaAApply
import Derived.Test.YtcnbcdnjogopdaaANone
namespace Go.Proofs.Ytcnbcdnjogopdaa
open Go.RowKit

def aRootS (bad : Bool) (m : Nat → Int) (n : Int) : (Nat → Int) × Bool := if 1 ≤ n ∧ n ≤ 6 then mRootS bad m n.toNat else ((fun _ => 0), true)
theorem aRoot_in (bad : Bool) (m : Nat → Int) {k : Nat} (h1 : 1 ≤ k) (h6 : k ≤ 6) : aRootS bad m (k : Int) = mRootS bad m k := by unfold aRootS; rw [if_pos (by omega)]; rfl
theorem aRoot_out (bad : Bool) (m : Nat → Int) {n : Int} (h : ¬ (1 ≤ n ∧ n ≤ 6)) : aRootS bad m n = ((fun _ => 0), true) := if_neg h
theorem aRoot_any (b : Nat) (bad : Bool) (m : Nat → Int) (n : Int) (w : World) (hw : Fl b bad w) :
    Calls Try.prog 10 #[.pointer (some ⟨b, 0, none⟩), .agg (row 36 m).toArray, .int .i64 n] w fun e w' => e = .returned (.agg (row 36 (aRootS bad m n).1).toArray) ∧ Fl b (aRootS bad m n).2 w' ∧ Kept b w w' := by
  by_cases h : 1 ≤ n ∧ n ≤ 6
  · obtain ⟨k, rfl⟩ := Int.eq_ofNat_of_zero_le (show 0 ≤ n by omega)
    rw [aRoot_in bad m (by omega) (by omega)]
    exact mRoot_any b bad m k w hw (by omega) (by omega)
  · rw [aRoot_out bad m h]
    exact mRootN_any b bad m n w hw (fits_out bad h)
def aSolveS (bad : Bool) (l p : Nat → Int) (n : Int) : (Nat → Int) × Bool := if 1 ≤ n ∧ n ≤ 6 then mSolveS bad l p n.toNat else ((fun _ => 0), true)
theorem aSolve_in (bad : Bool) (l p : Nat → Int) {k : Nat} (h1 : 1 ≤ k) (h6 : k ≤ 6) : aSolveS bad l p (k : Int) = mSolveS bad l p k := by unfold aSolveS; rw [if_pos (by omega)]; rfl
theorem aSolve_out (bad : Bool) (l p : Nat → Int) {n : Int} (h : ¬ (1 ≤ n ∧ n ≤ 6)) : aSolveS bad l p n = ((fun _ => 0), true) := if_neg h
theorem aSolve_any (b : Nat) (bad : Bool) (l p : Nat → Int) (n : Int) (w : World) (hw : Fl b bad w) :
    Calls Try.prog 12 #[.pointer (some ⟨b, 0, none⟩), .agg (row 36 l).toArray, .agg (row 6 p).toArray, .int .i64 n] w fun e w' => e = .returned (.agg (row 6 (aSolveS bad l p n).1).toArray) ∧ Fl b (aSolveS bad l p n).2 w' ∧ Kept b w w' := by
  by_cases h : 1 ≤ n ∧ n ≤ 6
  · obtain ⟨k, rfl⟩ := Int.eq_ofNat_of_zero_le (show 0 ≤ n by omega)
    rw [aSolve_in bad l p (by omega) (by omega)]
    exact mSolve_any b bad l p k w hw (by omega) (by omega)
  · rw [aSolve_out bad l p h]
    exact mSolveN_any b bad l p n w hw (fits_out bad h)
def aSquareS (bad : Bool) (l : Nat → Int) (n : Int) : (Nat → Int) × Bool := if 1 ≤ n ∧ n ≤ 6 then mSquareS bad l n.toNat else ((fun _ => 0), true)
theorem aSquare_in (bad : Bool) (l : Nat → Int) {k : Nat} (h1 : 1 ≤ k) (h6 : k ≤ 6) : aSquareS bad l (k : Int) = mSquareS bad l k := by unfold aSquareS; rw [if_pos (by omega)]; rfl
theorem aSquare_out (bad : Bool) (l : Nat → Int) {n : Int} (h : ¬ (1 ≤ n ∧ n ≤ 6)) : aSquareS bad l n = ((fun _ => 0), true) := if_neg h
theorem aSquare_any (b : Nat) (bad : Bool) (l : Nat → Int) (n : Int) (w : World) (hw : Fl b bad w) :
    Calls Try.prog 14 #[.pointer (some ⟨b, 0, none⟩), .agg (row 36 l).toArray, .int .i64 n] w fun e w' => e = .returned (.agg (row 36 (aSquareS bad l n).1).toArray) ∧ Fl b (aSquareS bad l n).2 w' ∧ Kept b w w' := by
  by_cases h : 1 ≤ n ∧ n ≤ 6
  · obtain ⟨k, rfl⟩ := Int.eq_ofNat_of_zero_le (show 0 ≤ n by omega)
    rw [aSquare_in bad l (by omega) (by omega)]
    exact mSquare_any b bad l k w hw (by omega) (by omega)
  · rw [aSquare_out bad l h]
    exact mSquareN_any b bad l n w hw (fits_out bad h)
def aApplyS (bad : Bool) (m p : Nat → Int) (n : Int) : (Nat → Int) × Bool := if 1 ≤ n ∧ n ≤ 6 then mApplyS bad m p n.toNat else ((fun _ => 0), true)
theorem aApply_in (bad : Bool) (m p : Nat → Int) {k : Nat} (h1 : 1 ≤ k) (h6 : k ≤ 6) : aApplyS bad m p (k : Int) = mApplyS bad m p k := by unfold aApplyS; rw [if_pos (by omega)]; rfl
theorem aApply_out (bad : Bool) (m p : Nat → Int) {n : Int} (h : ¬ (1 ≤ n ∧ n ≤ 6)) : aApplyS bad m p n = ((fun _ => 0), true) := if_neg h
theorem aApply_any (b : Nat) (bad : Bool) (m p : Nat → Int) (n : Int) (w : World) (hw : Fl b bad w) :
    Calls Try.prog 16 #[.pointer (some ⟨b, 0, none⟩), .agg (row 36 m).toArray, .agg (row 6 p).toArray, .int .i64 n] w fun e w' => e = .returned (.agg (row 6 (aApplyS bad m p n).1).toArray) ∧ Fl b (aApplyS bad m p n).2 w' ∧ Kept b w w' := by
  by_cases h : 1 ≤ n ∧ n ≤ 6
  · obtain ⟨k, rfl⟩ := Int.eq_ofNat_of_zero_le (show 0 ≤ n by omega)
    rw [aApply_in bad m p (by omega) (by omega)]
    exact mApply_any b bad m p k w hw (by omega) (by omega)
  · rw [aApply_out bad m p h]
    exact mApplyN_any b bad m p n w hw (fits_out bad h)
end Go.Proofs.Ytcnbcdnjogopdaa
