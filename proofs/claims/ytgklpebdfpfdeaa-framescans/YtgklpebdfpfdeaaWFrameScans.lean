/-
  FrameScans, walked, for the seat Ytgklpebdfpfdeaa.
-/
import Derived.Test.YtgklpebdfpfdeaaNAwake
import Derived.Test.YtgklpebdfpfdeaaNRScan
namespace Go.Proofs.Ytgklpebdfpfdeaa
open Go.RowKit

set_option maxHeartbeats 1000000 in
set_option maxRecDepth 100000 in
theorem FrameScans_any (s : ByteArray) (w : World) : Calls Try.prog 6 #[.string s] w fun e w' => e = .returned (.bool true) ∧ Below w.heap.size w w' := by
  by_cases h : 3000 < s.size
  · go_enter Try.func6, Try.ntmps6
    go_wp2_with (go_at_call 11; refine (awake_any _).mono ?_; rintro e w1 ⟨rfl, hb1⟩)
    go_ret
    exact ⟨rfl, hb1⟩
  · have ha := fun W => scan_any s W (by omega)
    have hb := fun W => rscan_any s W (by omega)
    have hbd := scanL_bound _ s.data.toList (Nat.le_refl _)
    have hl : s.data.toList.length = s.size := rfl
    generalize s.data.toList = L at ha hb hbd hl
    go_enter Try.func6, Try.ntmps6
    go_wp2_with (first
      | (go_at_call 11; refine (awake_any _).mono ?_; rintro e w1 ⟨rfl, hb1⟩)
      | (go_at_call 16; refine (ha _).mono ?_; rintro e w2 ⟨v, r, rfl, hr, hv, hb2⟩)
      | (go_at_call 17; refine (hb _).mono ?_; rintro e w3 ⟨u, q, rfl, hq, hu, hb3⟩; obtain rfl : q = r := ByteArray.ext (Array.toList_inj.1 (hq.trans hr.symm)))
      | (go_at_call 18; refine (same_any _ _ _ _ _ _ (hv.below hb3) hu (by omega)).mono ?_; rintro e w4 ⟨rfl, hb4⟩))
    go_ret
    have h12 := hb1.trans (hb2.mono hb1.size)
    have h13 := h12.trans (hb3.mono h12.size)
    exact ⟨rfl, h13.trans (hb4.mono h13.size)⟩
end Go.Proofs.Ytgklpebdfpfdeaa
