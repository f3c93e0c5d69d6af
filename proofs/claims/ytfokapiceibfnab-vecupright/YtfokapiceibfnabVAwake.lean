/-
  The laws' own helpers (alidadelaw03.flows, awake), for the seat Ytfokapiceibfnab. (Made by mklaw03.py.)
-/
import Derived.Test.YtfokapiceibfnabVCode
import Derived.Test.YtfokapiceibfnabVEqv
import Derived.Handy
namespace Go.Proofs.Ytfokapiceibfnab
open Go.RowKit

theorem awake_num : vCrossS false (1099511627776, 0, 0) (0, 1099511627776, 0) = ((0, 0, 1099511627776), false) := by decide +kernel

set_option maxHeartbeats 400000 in
theorem awake_any (w : World) : Calls Try.prog 4 #[] w fun e w' => e = .returned (.bool true) ∧ Below w.heap.size w w' := by
  go_enter Try.func4, Try.ntmps4
  go_wp2_with fail
  refine (vCross_any w.heap.size false (1099511627776, 0, 0) (0, 1099511627776, 0) _ (Fl_new _ _ _)).mono ?_
  rintro e w1 ⟨rfl, h2, h3⟩
  rw [awake_num] at h2 ⊢
  have H3 : Hid (Below w.heap.size w w1) := h3.below ((Below.refl _ _).alloc (Nat.le_refl _) _) (Nat.le_refl _) (by simp)
  have f1 := h2.cell
  have f2 := h2.lies
  clear h2 h3
  go_wp2
  go_ret
  exact ⟨rfl, bel_al H3.out _⟩
end Go.Proofs.Ytfokapiceibfnab
