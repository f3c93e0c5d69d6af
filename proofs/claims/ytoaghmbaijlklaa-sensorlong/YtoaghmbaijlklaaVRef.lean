/-
  What the reference's vectors answer is what the code's do, for the seat Ytoaghmbaijlklaa. (Made by mksun.py.)
-/
import Derived.Test.YtoaghmbaijlklaaVNear
import Derived.Test.YtoaghmbaijlklaaUCode
import Derived.Handy
import Derived.Deep.RegionHeld3
namespace Go.Proofs.Ytoaghmbaijlklaa
open Go.RowKit

theorem xNorm_any (b : Nat) (bad : Bool) (p : V3) (w : World) (hw : Fl b bad w) :
    Calls Try.prog 22 #[.pointer (some ⟨b, 0, none⟩), .agg #[.int .i64 p.1, .int .i64 p.2.1, .int .i64 p.2.2]] w fun e w' => e = .returned (.int .i64 ((vNormS bad p).1)) ∧ Fl b (vNormS bad p).2 w' ∧ Kept b w w' := by
  have h := uNorm_any b bad p w hw
  rw [uNorm_eq] at h
  exact h
end Go.Proofs.Ytoaghmbaijlklaa
