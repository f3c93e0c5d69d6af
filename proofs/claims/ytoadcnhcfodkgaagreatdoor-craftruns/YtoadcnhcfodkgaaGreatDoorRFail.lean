/-
  The reference's Fail, for the seat YtoadcnhcfodkgaaGreatDoor.
-/
import Derived.Test.YtoadcnhcfodkgaaGreatDoorVMem
import Derived.Handy
namespace Go.Proofs.YtoadcnhcfodkgaaGreatDoor
open Go.RowKit

set_option maxHeartbeats 400000 in
theorem rFail_any (b : Nat) (bad : Bool) (w : World) (hw : Fl b bad w) :
    Calls Tryz.prog 68 #[.pointer (some ⟨b, 0, none⟩)] w fun e w' => e = .returned (.tuple #[]) ∧ Fl b true w' ∧ Kept b w w' := by
  have HW : Hid _ := hw
  obtain ⟨hc, hf, hl⟩ := hw
  go_enter Tryz.func68, Tryz.ntmps68
  go_wp2
  go_end0
  exact ⟨rfl, HW.out.set true, (Kept.refl _ _).setCell _⟩

end Go.Proofs.YtoadcnhcfodkgaaGreatDoor
