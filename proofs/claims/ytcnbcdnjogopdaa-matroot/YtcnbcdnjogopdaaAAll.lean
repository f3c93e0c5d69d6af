/-
  What the reference's functions answer, whatever n is, for the seat Ytcnbcdnjogopdaa.
-/
import Derived.Test.YtcnbcdnjogopdaaACode
import Derived.Test.YtcnbcdnjogopdaaBRoot
import Derived.Test.YtcnbcdnjogopdaaBSolve
import Derived.Test.YtcnbcdnjogopdaaBSquare
import Derived.Test.YtcnbcdnjogopdaaBApply
import Derived.Test.YtcnbcdnjogopdaaBNone
import Derived.Test.YtcnbcdnjogopdaaMEq
namespace Go.Proofs.Ytcnbcdnjogopdaa
open Go.RowKit

theorem yRoot_any (b : Nat) (bad : Bool) (m : Nat → Int) (n : Int) (w : World) (hw : Fl b bad w) :
    Calls Try.prog 11 #[.pointer (some ⟨b, 0, none⟩), .agg (row 36 m).toArray, .int .i64 n] w fun e w' => e = .returned (.agg (row 36 (aRootS bad m n).1).toArray) ∧ Fl b (aRootS bad m n).2 w' ∧ Kept b w w' := by
  by_cases h : 1 ≤ n ∧ n ≤ 6
  · obtain ⟨k, rfl⟩ := Int.eq_ofNat_of_zero_le (show 0 ≤ n by omega)
    rw [aRoot_in bad m (by omega) (by omega)]
    cases bad
    · have r := zRoot_any b false m k w hw rfl (by omega) (by omega)
      rw [zRoot_eq] at r
      exact r
    · rw [root_bad]
      exact zRootN_any b true m k w hw (size_bad k)
  · rw [aRoot_out bad m h]
    exact zRootN_any b bad m n w hw (size_out bad h)
theorem ySolve_any (b : Nat) (bad : Bool) (l p : Nat → Int) (n : Int) (w : World) (hw : Fl b bad w) (hb : bad = false) :
    Calls Try.prog 13 #[.pointer (some ⟨b, 0, none⟩), .agg (row 36 l).toArray, .agg (row 6 p).toArray, .int .i64 n] w fun e w' => e = .returned (.agg (row 6 (aSolveS bad l p n).1).toArray) ∧ Fl b (aSolveS bad l p n).2 w' ∧ Kept b w w' := by
  by_cases h : 1 ≤ n ∧ n ≤ 6
  · obtain ⟨k, rfl⟩ := Int.eq_ofNat_of_zero_le (show 0 ≤ n by omega)
    rw [aSolve_in bad l p (by omega) (by omega)]
    have r := zSolve_any b bad l p k w hw hb (by omega) (by omega)
    rw [zSolve_eq] at r
    exact r
  · rw [aSolve_out bad l p h]
    exact zSolveN_any b bad l p n w hw (size_out bad h)
theorem ySquare_any (b : Nat) (bad : Bool) (l : Nat → Int) (n : Int) (w : World) (hw : Fl b bad w) (hb : bad = false) :
    Calls Try.prog 15 #[.pointer (some ⟨b, 0, none⟩), .agg (row 36 l).toArray, .int .i64 n] w fun e w' => e = .returned (.agg (row 36 (aSquareS bad l n).1).toArray) ∧ Fl b (aSquareS bad l n).2 w' ∧ Kept b w w' := by
  by_cases h : 1 ≤ n ∧ n ≤ 6
  · obtain ⟨k, rfl⟩ := Int.eq_ofNat_of_zero_le (show 0 ≤ n by omega)
    rw [aSquare_in bad l (by omega) (by omega)]
    have r := zSquare_any b bad l k w hw hb (by omega) (by omega)
    rw [zSquare_eq] at r
    exact r
  · rw [aSquare_out bad l h]
    exact zSquareN_any b bad l n w hw (size_out bad h)
theorem yApply_any (b : Nat) (bad : Bool) (m p : Nat → Int) (n : Int) (w : World) (hw : Fl b bad w) (hb : bad = false) :
    Calls Try.prog 17 #[.pointer (some ⟨b, 0, none⟩), .agg (row 36 m).toArray, .agg (row 6 p).toArray, .int .i64 n] w fun e w' => e = .returned (.agg (row 6 (aApplyS bad m p n).1).toArray) ∧ Fl b (aApplyS bad m p n).2 w' ∧ Kept b w w' := by
  by_cases h : 1 ≤ n ∧ n ≤ 6
  · obtain ⟨k, rfl⟩ := Int.eq_ofNat_of_zero_le (show 0 ≤ n by omega)
    rw [aApply_in bad m p (by omega) (by omega)]
    have r := zApply_any b bad m p k w hw hb (by omega) (by omega)
    rw [zApply_eq] at r
    exact r
  · rw [aApply_out bad m p h]
    exact zApplyN_any b bad m p n w hw (size_out bad h)
end Go.Proofs.Ytcnbcdnjogopdaa
