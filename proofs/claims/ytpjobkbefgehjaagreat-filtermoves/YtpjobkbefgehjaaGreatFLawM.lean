/-
  The document's Move answers what package filter's does, for the seat YtpjobkbefgehjaaGreat.
-/
import Derived.Test.YtpjobkbefgehjaaGreatFRMove
import Derived.Test.YtpjobkbefgehjaaGreatJB
import Derived.Test.YtpjobkbefgehjaaGreatJC
namespace Go.Proofs.YtpjobkbefgehjaaGreat
open Go.RowKit

theorem move_same (g : Nat → Int) (v : V3) (ms : Int) : (fMoveS false g v ms).2 = (hMoveS false g v ms).2 ∧ row 43 (fMoveS false g v ms).1 = row 43 (hMoveS false g v ms).1 := by
 by_cases h1 : ms < 10
 ·rw [fMoveS_lo h1, fMove_true]
  unfold hMoveS
  rw [if_pos h1]
  exact ⟨rfl, rfl⟩
 ·by_cases h2 : ms > 10000
  ·rw [fMoveS_hi h2, fMove_true]
   unfold hMoveS
   rw [if_neg h1, if_pos h2]
   exact ⟨rfl, rfl⟩
  ·rw [fMoveS_in (by omega) (by omega)]
   obtain ⟨e, c⟩ := move_core false g v ms h1 h2
   exact ⟨e.symm, row_congr (fun i hi => (c i hi).symm)⟩
theorem fMoveC_any (b : Nat) (bad : Bool) (g : Nat → Int) (v : V3) (ms : Int) (w : World) (hw : Fl b bad w) (hb : bad = false) :
  Calls Tryz.prog 7 #[.pointer (some ⟨b, 0, none⟩), .agg (row 43 g).toArray, .agg #[.int .i64 v.1, .int .i64 v.2.1, .int .i64 v.2.2], .int .i64 ms] w fun e w' => e = .returned (.agg (row 43 ((hMoveS bad g v ms).1)).toArray) ∧ Fl b (hMoveS bad g v ms).2 w' ∧ Kept b w w' := by
 subst hb
 obtain ⟨e1, e2⟩ := move_same g v ms
 rw [← e1, ← e2]
 exact fMove_any b false g v ms w hw
end Go.Proofs.YtpjobkbefgehjaaGreat
