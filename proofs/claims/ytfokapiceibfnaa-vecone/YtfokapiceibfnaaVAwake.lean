/-
  The laws' own helpers (alidadelaw03.flows, awake), for the seat Ytfokapiceibfnaa. (Made by mklaw03.py.)
-/
import Derived.Test.YtfokapiceibfnaaVCode
import Derived.Test.YtfokapiceibfnaaVEqv
import Derived.Handy
namespace Go.Proofs.Ytfokapiceibfnaa
open Go.RowKit

set_option maxHeartbeats 400000 in
theorem flows_any (bad : Bool) (w : World) :
    Calls Try.prog 10 #[.bool bad] w fun e w' => e = .returned (.tuple #[.pointer (some ⟨w.heap.size, 0, none⟩), .pointer (some ⟨w.heap.size + 1, 0, none⟩)]) ∧ w' = (w.alloc (.cells #[.bool bad] 32)).alloc (.cells #[.bool bad] 33) := by
  go_enter Try.func10, Try.ntmps10
  go_wp2
  refine bodyPost_ret (v := .tuple #[.pointer (some ⟨w.heap.size, 0, none⟩), .pointer (some ⟨w.heap.size + 1, 0, none⟩)]) (by simp [results, Try.results10, go_sem]) rfl ?_
  exact ⟨rfl, rfl⟩

theorem awake_num : vCrossS false (1099511627776, 0, 0) (0, 1099511627776, 0) = ((0, 0, 1099511627776), false) := by decide +kernel

set_option maxHeartbeats 400000 in
theorem awake_any (w : World) : Calls Try.prog 9 #[] w fun e w' => e = .returned (.bool true) ∧ Below w.heap.size w w' := by
  go_enter Try.func9, Try.ntmps9
  go_wp2_with fail
  refine (vCross_any w.heap.size false (1099511627776, 0, 0) (0, 1099511627776, 0) _ (Fl_new _ _ _)).mono ?_
  rintro e w1 ⟨rfl, h2, h3⟩
  rw [awake_num] at h2 ⊢
  have H3 : Hid (Below w.heap.size w w1) := h3.below ((Below.refl _ _).alloc (Nat.le_refl _) _) (Nat.le_refl _) (by simp)
  have f1 := h2.cell
  have f2 := h2.lies
  clear h2 h3
  go_wp2
  go_ret
  exact ⟨rfl, bel_al H3.out _⟩
end Go.Proofs.Ytfokapiceibfnaa
