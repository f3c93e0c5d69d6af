/-
  Walks of package alidaderef06, for the seat Ytcnbcdnjogopdaa. (Made by mkref06.py.)
-/
import Derived.Test.YtcnbcdnjogopdaaBSpec
import Derived.Test.YtcnbcdnjogopdaaRMeth
import Derived.Test.YtcnbcdnjogopdaaRFail
import Derived.Handy
import Derived.Deep.RegionHeld3
namespace Go.Proofs.Ytcnbcdnjogopdaa
open Go.RowKit

set_option maxRecDepth 100000 in
set_option maxHeartbeats 2000000 in
theorem zsize_any (b : Nat) (bad : Bool) (n : Int) (w : World) (hw : Fl b bad w) :
    Calls Try.prog 24 #[.pointer (some ⟨b, 0, none⟩), .int .i64 n] w fun e w' => e = .returned (.bool ((zsizeS bad n).1)) ∧ Fl b (zsizeS bad n).2 w' ∧ Kept b w w' := by
  have hl := hw.lies
  go_enter Try.func24, Try.ntmps24
  by_cases hc1 : n < 1
  · have Hhc1 : Hid (n < 1) := hc1
    go_wp2_with fail
    refine (rFail_any b bad  _ hw).mono ?_
    rintro e w1 ⟨rfl, f1, k1⟩
    have K1 : Kept b w w1 := Kept.trans (Kept.refl b w) k1
    have z1 := K1.size
    clear k1
    have c2_BF := f1.cell
    go_wp2
    clear c2_BF
    go_ret
    have hs : zsizeS bad n = (false, true) := by unfold zsizeS; rw [if_pos (by have := Hhc1.out; omega)]
    rw [hs]
    exact ⟨rfl, f1, K1⟩
  · have Hhc1 : Hid (¬ n < 1) := hc1
    by_cases hc2 : n > 6
    · have Hhc2 : Hid (n > 6) := hc2
      go_wp2_with fail
      refine (rFail_any b bad  _ hw).mono ?_
      rintro e w1 ⟨rfl, f1, k1⟩
      have K1 : Kept b w w1 := Kept.trans (Kept.refl b w) k1
      have z1 := K1.size
      clear k1
      have c2_BF := f1.cell
      go_wp2
      clear c2_BF
      go_ret
      have hs : zsizeS bad n = (false, true) := by unfold zsizeS; rw [if_neg (by have := Hhc1.out; omega)]; rw [if_pos (by have := Hhc2.out; omega)]
      rw [hs]
      exact ⟨rfl, f1, K1⟩
    · have Hhc2 : Hid (¬ n > 6) := hc2
      have c1_BF := hw.cell
      go_wp2
      clear c1_BF
      go_ret
      have hs : zsizeS bad n = (!bad, bad) := by unfold zsizeS; rw [if_neg (by have := Hhc1.out; omega)]; rw [if_neg (by have := Hhc2.out; omega)]
      rw [hs]
      exact ⟨rfl, hw, (Kept.refl b w)⟩
end Go.Proofs.Ytcnbcdnjogopdaa
