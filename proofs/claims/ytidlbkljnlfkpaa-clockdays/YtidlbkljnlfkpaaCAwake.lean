/-
  awake, for the seat Ytidlbkljnlfkpaa. (Made by mkclock.py.)
-/
import Derived.Test.YtidlbkljnlfkpaaCCDays
import Derived.Handy
import Derived.Deep.RegionHeld3
namespace Go.Proofs.Ytidlbkljnlfkpaa
open Go.RowKit

theorem awake_days : cDaysS false 43200000 = (549755813888, false) := by decide +kernel
theorem awake_zero : cRight 0 = true := by decide
theorem awake_minus : cRight (-1) = false := by decide
set_option maxRecDepth 100000 in
set_option maxHeartbeats 4000000 in
theorem awake_any  (w : World) :
    Calls Try.prog 6 #[] w fun e w' => e = .returned (.bool true) ∧ Below w.heap.size w w' := by
  go_enter Try.func6, Try.ntmps6
  have y1_low : w.heap.size ≤ w.heap.size := (Below.refl w.heap.size w).size
  go_wp2_with fail
  refine (cDays_any w.heap.size false 43200000 _ (Fl_at _ _ _ _ (by simp))).mono ?_
  rintro e w1 ⟨rfl, f1, k1⟩
  rw [awake_days] at f1 ⊢
  dsimp only at f1 ⊢
  have K1 : Below w.heap.size w w1 := k1.on (bel_al (Below.refl w.heap.size w) _) (by omega)
  have z1 := f1.lies
  clear k1
  have c2_B0 := f1.cell
  go_wp2_with fail
  refine (cRight_any 0 _).mono ?_
  rintro e w2 ⟨rfl, k2⟩
  rw [awake_zero]
  try dsimp only
  have K2 : Below w.heap.size w w2 := bel_then K1 k2
  have B0_2 : Fl w.heap.size false w2 := f1.below k2
  have z2 := B0_2.lies
  clear c2_B0 K1 f1 k2
  go_wp2_with fail
  refine (cRight_any (-1) _).mono ?_
  rintro e w3 ⟨rfl, k3⟩
  rw [awake_minus]
  try dsimp only
  have K3 : Below w.heap.size w w3 := bel_then K2 k3
  have B0_3 : Fl w.heap.size false w3 := B0_2.below k3
  have z3 := B0_3.lies
  clear K2 B0_2 k3
  go_wp2
  go_ret
  exact ⟨rfl, K3⟩
end Go.Proofs.Ytidlbkljnlfkpaa
