/-
  FrameSums, walked, for the seat Ytgklpebdfpfdeaa.
-/
import Derived.Test.YtgklpebdfpfdeaaNSum
namespace Go.Proofs.Ytgklpebdfpfdeaa
open Go.RowKit

theorem sum_nine : sumU [49, 50, 51, 52, 53, 54, 55, 56, 57] = 10673 := by decide +kernel
set_option maxHeartbeats 1000000 in
set_option maxRecDepth 100000 in
theorem FrameSums_any (s : ByteArray) (w : World) : Calls Try.prog 3 #[.string s] w fun e w' => e = .returned (.bool true) ∧ Below w.heap.size w w' := by
  have h9 := fun W => sum_any ⟨#[49, 50, 51, 52, 53, 54, 55, 56, 57]⟩ W (by decide)
  rw [sum_nine] at h9
  by_cases h : 5000 < s.size
  · go_enter Try.func3, Try.ntmps3
    go_wp2_with (go_at_call 9; refine (h9 _).mono ?_; rintro e w1 ⟨rfl, rfl⟩)
    go_ret
    exact ⟨rfl, Below.refl _ _⟩
  · have ha := fun W => sum_any s W (by omega)
    have hb := fun W => rsum_any s W (by omega)
    generalize sumU s.data.toList = q at ha hb
    go_enter Try.func3, Try.ntmps3
    go_wp2_with fail
    refine (h9 _).mono ?_
    rintro e w1 ⟨rfl, rfl⟩
    go_wp2_with (first | (go_at_call 9; refine (ha _).mono ?_; rintro e w1 ⟨rfl, rfl⟩) | (go_at_call 10; refine (hb _).mono ?_; rintro e w1 ⟨rfl, rfl⟩))
    go_ret
    exact ⟨rfl, Below.refl _ _⟩
end Go.Proofs.Ytgklpebdfpfdeaa
