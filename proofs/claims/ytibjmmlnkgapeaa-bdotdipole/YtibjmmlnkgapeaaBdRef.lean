/-
  What the reference's Step and Dipole answer is what the code's do, for the seat Ytibjmmlnkgapeaa. (Made by mkbdot.py.)
-/
import Derived.Test.YtibjmmlnkgapeaaBdEq
import Derived.Test.YtibjmmlnkgapeaaBdRStep
import Derived.Test.YtibjmmlnkgapeaaBdRDip
import Derived.Handy
import Derived.Deep.RegionHeld3
namespace Go.Proofs.Ytibjmmlnkgapeaa
open Go.RowKit

theorem rStep_any (b : Nat) (bad : Bool) (d : Dr) (v : V3) (k : Int) (w : World) (hw : Fl b bad w) (hd : -9223372036854775808 ≤ d.2.1 ∧ d.2.1 ≤ 9223372036854775807) (ht : -9223372036854775808 ≤ k ∧ k ≤ 9223372036854775807) :
    Calls Try.prog 9 #[.pointer (some ⟨b, 0, none⟩), .agg #[.bool d.1, .int .i64 d.2.1, .int .i64 d.2.2.1, .int .i64 d.2.2.2.1, .int .i64 d.2.2.2.2.1, .int .i64 d.2.2.2.2.2.1, .int .i64 d.2.2.2.2.2.2.1, .int .i64 d.2.2.2.2.2.2.2], .agg #[.int .i64 v.1, .int .i64 v.2.1, .int .i64 v.2.2], .int .i64 k] w fun e w' => e = .returned (.agg #[.bool ((bStepS bad d v k).1.1), .int .i64 ((bStepS bad d v k).1.2.1), .int .i64 ((bStepS bad d v k).1.2.2.1), .int .i64 ((bStepS bad d v k).1.2.2.2.1), .int .i64 ((bStepS bad d v k).1.2.2.2.2.1), .int .i64 ((bStepS bad d v k).1.2.2.2.2.2.1), .int .i64 ((bStepS bad d v k).1.2.2.2.2.2.2.1), .int .i64 ((bStepS bad d v k).1.2.2.2.2.2.2.2)]) ∧ Fl b (bStepS bad d v k).2 w' ∧ Kept b w w' := by
  obtain ⟨o, d⟩ := d
  by_cases c : 10 ≤ k - d.1 ∧ k - d.1 ≤ 10000
  · cases o
    · rw [step0_eq bad (false, d) v k rfl]
      exact rStep_no b bad d v k (k - d.1) w hw hd ht c.1 c.2 (show k = d.1 + (k - d.1) by omega)
    · have g : goesS (true, d) k = true := by unfold goesS; simp; exact c
      rw [step_eq bad d v k g]
      exact rStep_in b bad d v k (k - d.1) w hw hd ht c.1 c.2 (show k = d.1 + (k - d.1) by omega)
  · cases o
    · rw [step0_eq bad (false, d) v k rfl]
      exact rStep_off b bad d v k w hw hd ht c
    · have g : goesS (true, d) k = false := by unfold goesS; simp; omega
      rw [step0_eq bad (true, d) v k g]
      exact rStep_out b bad d v k w hw hd ht c
theorem rDip_any (b : Nat) (bad : Bool) (d : Dr) (w : World) (hw : Fl b bad w) :
    Calls Try.prog 11 #[.pointer (some ⟨b, 0, none⟩), .agg #[.bool d.1, .int .i64 d.2.1, .int .i64 d.2.2.1, .int .i64 d.2.2.2.1, .int .i64 d.2.2.2.2.1, .int .i64 d.2.2.2.2.2.1, .int .i64 d.2.2.2.2.2.2.1, .int .i64 d.2.2.2.2.2.2.2]] w fun e w' => e = .returned (.agg #[.int .i64 ((bDipS bad d).1.1), .int .i64 ((bDipS bad d).1.2.1), .int .i64 ((bDipS bad d).1.2.2)]) ∧ Fl b (bDipS bad d).2 w' ∧ Kept b w w' := by
  obtain ⟨o, d⟩ := d
  cases o
  · exact rDip_off b bad d w hw
  · have h := rDip_on b bad d w hw
    rw [dip_eq] at h
    exact h
end Go.Proofs.Ytibjmmlnkgapeaa
