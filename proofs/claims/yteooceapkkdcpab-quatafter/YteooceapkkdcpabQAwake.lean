/-
  The laws' own helpers (alidadelaw04.flows, awake), for the seat Yteooceapkkdcpab. (Made by mklaw04.py.)
-/
import Derived.Test.YteooceapkkdcpabQRod
import Derived.Test.YteooceapkkdcpabQEq
import Derived.Handy
namespace Go.Proofs.Yteooceapkkdcpab
open Go.RowKit

theorem awake_num : qFromRodS false (0, 0, 0) = ((0, 0, 0, 1099511627776), false) := by decide +kernel

set_option maxHeartbeats 400000 in
theorem awake_any (w : World) : Calls Try.prog 5 #[] w fun e w' => e = .returned (.bool true) ∧ Below w.heap.size w w' := by
  go_enter Try.func5, Try.ntmps5
  go_wp2_with fail
  refine (qFromRod_any w.heap.size false (0, 0, 0) _ (Fl_new _ _ _)).mono ?_
  rintro e w1 ⟨rfl, h2, h3⟩
  rw [awake_num] at h2 ⊢
  have H3 : Hid (Below w.heap.size w w1) := h3.below ((Below.refl _ _).alloc (Nat.le_refl _) _) (Nat.le_refl _) (by simp)
  have f1 := h2.cell
  have f2 := h2.lies
  clear h2 h3
  go_wp2
  go_ret
  exact ⟨rfl, bel_al H3.out _⟩
end Go.Proofs.Yteooceapkkdcpab
