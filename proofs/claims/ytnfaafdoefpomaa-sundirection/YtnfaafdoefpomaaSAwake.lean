/-
  awake, for the seat Ytnfaafdoefpomaa. (Made by mksun.py.)
-/
import Derived.Test.YtnfaafdoefpomaaSDir
import Derived.Test.YtnfaafdoefpomaaSShad
import Derived.Test.YtnfaafdoefpomaaVEqv
import Derived.Handy
import Derived.Deep.RegionHeld3
namespace Go.Proofs.Ytnfaafdoefpomaa
open Go.RowKit

theorem awake_shad : shadS false ((-7696581394432), 0, 0) (1099511627776, 0, 0) = (true, false) := by decide +kernel
theorem awake_dir : dirS false 0 = ((215887509060, -989172191073, -428785236983), false) := by decide +kernel
set_option maxRecDepth 100000 in
set_option maxHeartbeats 4000000 in
theorem awake_any  (w : World) :
    Calls Try.prog 7 #[] w fun e w' => e = .returned (.bool true) ∧ Below w.heap.size w w' := by
  go_enter Try.func7, Try.ntmps7
  have y1_low : w.heap.size ≤ w.heap.size := (Below.refl w.heap.size w).size
  go_wp2_with fail
  refine (sShad_any w.heap.size false ((-7696581394432), 0, 0) (1099511627776, 0, 0) _ (Fl_at _ _ _ _ (by simp))).mono ?_
  rintro e w1 ⟨rfl, f1, k1⟩
  rw [awake_shad] at f1 ⊢
  dsimp only at f1 ⊢
  have K1 : Below w.heap.size w w1 := k1.on (bel_al (Below.refl w.heap.size w) _) (by omega)
  have z1 := f1.lies
  clear k1
  have c2_B0 := f1.cell
  go_wp2_with fail
  refine (sDir_any w.heap.size false 0 _ f1).mono ?_
  rintro e w2 ⟨rfl, f2, k2⟩
  rw [awake_dir] at f2 ⊢
  dsimp only at f2 ⊢
  have K2 : Below w.heap.size w w2 := k2.on K1 (by omega)
  have z2 := f2.lies
  clear c2_B0 K1 f1 k2
  go_wp2
  go_ret
  exact ⟨rfl, K2⟩
end Go.Proofs.Ytnfaafdoefpomaa
