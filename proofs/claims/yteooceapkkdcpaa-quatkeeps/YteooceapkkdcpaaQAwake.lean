/-
  The laws' own helpers (alidadelaw04.flows, awake), for the seat Yteooceapkkdcpaa. (Made by mklaw04.py.)
-/
import Derived.Test.YteooceapkkdcpaaQRod
import Derived.Test.YteooceapkkdcpaaQEq
import Derived.Handy
namespace Go.Proofs.Yteooceapkkdcpaa
open Go.RowKit

set_option maxHeartbeats 400000 in
theorem flows_any (bad : Bool) (w : World) :
    Calls Try.prog 9 #[.bool bad] w fun e w' => e = .returned (.tuple #[.pointer (some ⟨w.heap.size, 0, none⟩), .pointer (some ⟨w.heap.size + 1, 0, none⟩)]) ∧ w' = (w.alloc (.cells #[.bool bad] 32)).alloc (.cells #[.bool bad] 33) := by
  go_enter Try.func9, Try.ntmps9
  go_wp2
  refine bodyPost_ret (v := .tuple #[.pointer (some ⟨w.heap.size, 0, none⟩), .pointer (some ⟨w.heap.size + 1, 0, none⟩)]) (by simp [results, Try.results9, go_sem]) rfl ?_
  exact ⟨rfl, rfl⟩

theorem awake_num : qFromRodS false (0, 0, 0) = ((0, 0, 0, 1099511627776), false) := by decide +kernel

set_option maxHeartbeats 400000 in
theorem awake_any (w : World) : Calls Try.prog 8 #[] w fun e w' => e = .returned (.bool true) ∧ Below w.heap.size w w' := by
  go_enter Try.func8, Try.ntmps8
  go_wp2_with fail
  refine (qFromRod_any w.heap.size false (0, 0, 0) _ (Fl_new _ _ _)).mono ?_
  rintro e w1 ⟨rfl, h2, h3⟩
  rw [awake_num] at h2 ⊢
  have H3 : Hid (Below w.heap.size w w1) := h3.below ((Below.refl _ _).alloc (Nat.le_refl _) _) (Nat.le_refl _) (by simp)
  have f1 := h2.cell
  have f2 := h2.lies
  clear h2 h3
  go_wp2
  go_ret
  exact ⟨rfl, bel_al H3.out _⟩
end Go.Proofs.Yteooceapkkdcpaa
