/-
  What the reference's vectors answer is what the code's do, for the seat Ytnfaafdoefpomaa. (Made by mksun.py.)
-/
import Derived.Test.YtnfaafdoefpomaaVNear
import Derived.Test.YtnfaafdoefpomaaUCode
import Derived.Handy
import Derived.Deep.RegionHeld3
namespace Go.Proofs.Ytnfaafdoefpomaa
open Go.RowKit

theorem xSub_any (b : Nat) (bad : Bool) (p : V3) (q : V3) (w : World) (hw : Fl b bad w) :
    Calls Try.prog 31 #[.pointer (some ⟨b, 0, none⟩), .agg #[.int .i64 p.1, .int .i64 p.2.1, .int .i64 p.2.2], .agg #[.int .i64 q.1, .int .i64 q.2.1, .int .i64 q.2.2]] w fun e w' => e = .returned (.agg #[.int .i64 ((vSubS bad p q).1.1), .int .i64 ((vSubS bad p q).1.2.1), .int .i64 ((vSubS bad p q).1.2.2)]) ∧ Fl b (vSubS bad p q).2 w' ∧ Kept b w w' := by
  have h := uSub_any b bad p q w hw
  rw [uSub_eq] at h
  exact h
theorem xScale_any (b : Nat) (bad : Bool) (p : V3) (k : Int) (w : World) (hw : Fl b bad w) :
    Calls Try.prog 32 #[.pointer (some ⟨b, 0, none⟩), .agg #[.int .i64 p.1, .int .i64 p.2.1, .int .i64 p.2.2], .int .i64 k] w fun e w' => e = .returned (.agg #[.int .i64 ((vScaleS bad p k).1.1), .int .i64 ((vScaleS bad p k).1.2.1), .int .i64 ((vScaleS bad p k).1.2.2)]) ∧ Fl b (vScaleS bad p k).2 w' ∧ Kept b w w' := by
  have h := uScale_any b bad p k w hw
  rw [uScale_eq] at h
  exact h
theorem xDot_any (b : Nat) (bad : Bool) (p : V3) (q : V3) (w : World) (hw : Fl b bad w) :
    Calls Try.prog 29 #[.pointer (some ⟨b, 0, none⟩), .agg #[.int .i64 p.1, .int .i64 p.2.1, .int .i64 p.2.2], .agg #[.int .i64 q.1, .int .i64 q.2.1, .int .i64 q.2.2]] w fun e w' => e = .returned (.int .i64 ((vDotS bad p q).1)) ∧ Fl b (vDotS bad p q).2 w' ∧ Kept b w w' := by
  have h := uDot_any b bad p q w hw
  rw [uDot_eq] at h
  exact h
theorem xNorm_any (b : Nat) (bad : Bool) (p : V3) (w : World) (hw : Fl b bad w) :
    Calls Try.prog 30 #[.pointer (some ⟨b, 0, none⟩), .agg #[.int .i64 p.1, .int .i64 p.2.1, .int .i64 p.2.2]] w fun e w' => e = .returned (.int .i64 ((vNormS bad p).1)) ∧ Fl b (vNormS bad p).2 w' ∧ Kept b w w' := by
  have h := uNorm_any b bad p w hw
  rw [uNorm_eq] at h
  exact h
end Go.Proofs.Ytnfaafdoefpomaa
