/-
  The walks of trig.Asin and Acos, for the seat Ytndimdodendonaa.
-/
import Derived.Test.YtndimdodendonaaTAtan
import Derived.Handy
namespace Go.Proofs.Ytndimdodendonaa
open Go.RowKit

set_option maxHeartbeats 400000 in
theorem Asin_any (b : Nat) (bad : Bool) (s : Int) (w : World) (hs : -9223372036854775808 ≤ s ∧ s ≤ 9223372036854775807) (hw : Fl b bad w) :
    Calls Try.prog 16 #[.pointer (some ⟨b, 0, none⟩), .int .i64 s] w fun e w' => e = .returned (.int .i64 (asinS bad s).1) ∧ Fl b (asinS bad s).2 w' ∧ Kept b w w' := by
  by_cases c : s < -1099511627776 ∨ 1099511627776 < s
  · have HV : Hid (asinS bad s = (0, true)) := if_pos c
    by_cases c1 : s < -1099511627776
    · clear c hs
      go_enter Try.func16, Try.ntmps16
      go_wp2_with fail
      refine (Fail_any b bad _ hw).mono ?_
      rintro e w1 ⟨rfl, h2, h3⟩
      have H2 : Hid _ := h2
      have H3 : Hid _ := h3
      clear h2 h3 hw
      go_wp2
      go_ret
      rw [HV.out]
      exact ⟨rfl, H2.out, H3.out⟩
    · have c2 : 1099511627776 < s := by omega
      clear c hs
      go_enter Try.func16, Try.ntmps16
      go_wp2_with fail
      refine (Fail_any b bad _ hw).mono ?_
      rintro e w1 ⟨rfl, h2, h3⟩
      have H2 : Hid _ := h2
      have H3 : Hid _ := h3
      clear h2 h3 hw
      go_wp2
      go_ret
      rw [HV.out]
      exact ⟨rfl, H2.out, H3.out⟩
  · have HV : Hid (asinS bad s = atanS (asinR bad s).2 s (asinR bad s).1) := if_neg c
    have HF : Hid _ := sqrtS_fits (asinQ bad s).2 (asinQ bad s).1
    have HS : Hid _ := hs
    have c1 : -1099511627776 ≤ s := by omega
    have c2 : s ≤ 1099511627776 := by omega
    clear c hs
    go_enter Try.func16, Try.ntmps16
    go_wp2_with fail
    refine (Mul_any b bad _ _ _ hw).mono ?_
    rintro e w1 ⟨rfl, h2, h3⟩
    have H3 : Hid _ := h3
    clear h3 hw
    go_wp2_with fail
    refine (Sub_any b _ _ _ _ h2).mono ?_
    rintro e w2 ⟨rfl, h4, h5⟩
    have H5 : Hid _ := H3.out.trans h5
    clear h2 h5 H3
    go_wp2_with fail
    refine (Sqrt_any b _ _ _ h4).mono ?_
    rintro e w3 ⟨rfl, h6, h7⟩
    have H7 : Hid _ := H5.out.trans h7
    clear h4 h7 H5
    go_wp2_with fail
    refine (Atan2_any b _ _ _ _ HS.out HF.out h6).mono ?_
    rintro e w4 ⟨rfl, h8, h9⟩
    have H8 : Hid _ := h8
    have H9 : Hid _ := H7.out.trans h9
    clear h6 h8 h9 H7
    go_wp2
    go_ret
    rw [HV.out]
    exact ⟨rfl, H8.out, H9.out⟩

set_option maxHeartbeats 400000 in
theorem Acos_any (b : Nat) (bad : Bool) (s : Int) (w : World) (hs : -9223372036854775808 ≤ s ∧ s ≤ 9223372036854775807) (hw : Fl b bad w) :
    Calls Try.prog 18 #[.pointer (some ⟨b, 0, none⟩), .int .i64 s] w fun e w' => e = .returned (.int .i64 (acosS bad s).1) ∧ Fl b (acosS bad s).2 w' ∧ Kept b w w' := by
  have HS : Hid _ := hs
  clear hs
  go_enter Try.func18, Try.ntmps18
  go_wp2_with fail
  refine (Asin_any b bad _ _ HS.out hw).mono ?_
  rintro e w1 ⟨rfl, h2, h3⟩
  have H3 : Hid _ := h3
  clear h3 hw
  go_wp2_with fail
  refine (Sub_any b _ _ _ _ h2).mono ?_
  rintro e w2 ⟨rfl, h4, h5⟩
  have H4 : Hid _ := h4
  have H5 : Hid _ := H3.out.trans h5
  clear h2 h4 h5 H3
  go_wp2
  go_ret
  unfold acosS
  exact ⟨rfl, H4.out, H5.out⟩
end Go.Proofs.Ytndimdodendonaa
