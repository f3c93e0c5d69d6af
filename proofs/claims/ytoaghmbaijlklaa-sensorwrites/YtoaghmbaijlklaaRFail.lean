/-
  The reference's Fail, for the seat Ytoaghmbaijlklaa.
-/
import Derived.Test.YtoaghmbaijlklaaVMem
import Derived.Handy
namespace Go.Proofs.Ytoaghmbaijlklaa
open Go.RowKit

set_option maxHeartbeats 400000 in
theorem rFail_any (b : Nat) (bad : Bool) (w : World) (hw : Fl b bad w) :
    Calls Try.prog 33 #[.pointer (some ⟨b, 0, none⟩)] w fun e w' => e = .returned (.tuple #[]) ∧ Fl b true w' ∧ Kept b w w' := by
  have HW : Hid _ := hw
  obtain ⟨hc, hf, hl⟩ := hw
  go_enter Try.func33, Try.ntmps33
  go_wp2
  go_end0
  exact ⟨rfl, HW.out.set true, (Kept.refl _ _).setCell _⟩

end Go.Proofs.Ytoaghmbaijlklaa
