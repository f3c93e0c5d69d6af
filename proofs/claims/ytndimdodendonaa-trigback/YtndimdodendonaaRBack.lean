/-
  The walks of the reference's Asin and Acos (alidaderef02), for the seat Ytndimdodendonaa.
-/
import Derived.Test.YtndimdodendonaaRAtan
import Derived.Handy
namespace Go.Proofs.Ytndimdodendonaa
open Go.RowKit

set_option maxHeartbeats 400000 in
theorem rFail_any (b : Nat) (bad : Bool) (w : World) (hw : Fl b bad w) :
    Calls Try.prog 41 #[.pointer (some ⟨b, 0, none⟩)] w fun e w' => e = .returned (.tuple #[]) ∧ Fl b true w' ∧ Kept b w w' := by
  have HW : Hid _ := hw
  obtain ⟨hc, hf, hl⟩ := hw
  go_enter Try.func41, Try.ntmps41
  go_wp2
  go_end0
  exact ⟨rfl, HW.out.set true, (Kept.refl b w).setCell _⟩

set_option maxHeartbeats 400000 in
theorem rAsin_t (b : Nat) (s : Int) (w : World) (hs : -9223372036854775808 ≤ s ∧ s ≤ 9223372036854775807) (c1 : -1099511627776 ≤ s) (c2 : s ≤ 1099511627776) (hw : Fl b true w) :
    Calls Try.prog 17 #[.pointer (some ⟨b, 0, none⟩), .int .i64 s] w fun e w' => e = .returned (.int .i64 (asinS true s).1) ∧ Fl b (asinS true s).2 w' ∧ Kept b w w' := by
  have HV : Hid _ := asinS_t s hs
  have H0 : Hid _ := hw
  have f1 := hw.cell
  clear hs hw
  go_enter Try.func17, Try.ntmps17
  go_wp2
  go_ret
  rw [HV.out]
  exact ⟨rfl, H0.out, Kept.refl _ _⟩

set_option maxHeartbeats 400000 in
theorem rAsin_any (b : Nat) (bad : Bool) (s : Int) (w : World) (hs : -9223372036854775808 ≤ s ∧ s ≤ 9223372036854775807) (hw : Fl b bad w) :
    Calls Try.prog 17 #[.pointer (some ⟨b, 0, none⟩), .int .i64 s] w fun e w' => e = .returned (.int .i64 (asinS bad s).1) ∧ Fl b (asinS bad s).2 w' ∧ Kept b w w' := by
  by_cases c : s < -1099511627776 ∨ 1099511627776 < s
  · have HV : Hid (asinS bad s = (0, true)) := if_pos c
    by_cases c1 : 1099511627776 < s
    · clear c hs
      go_enter Try.func17, Try.ntmps17
      go_wp2_with fail
      refine (rFail_any b bad _ hw).mono ?_
      rintro e w1 ⟨rfl, h2, h3⟩
      have H2 : Hid _ := h2
      have H3 : Hid _ := h3
      have f1 := h2.cell
      clear h2 h3 hw
      go_wp2
      go_ret
      rw [HV.out]
      exact ⟨rfl, H2.out, H3.out⟩
    · have c2 : s < -1099511627776 := by omega
      clear c hs
      go_enter Try.func17, Try.ntmps17
      go_wp2_with fail
      refine (rFail_any b bad _ hw).mono ?_
      rintro e w1 ⟨rfl, h2, h3⟩
      have H2 : Hid _ := h2
      have H3 : Hid _ := h3
      have f1 := h2.cell
      clear h2 h3 hw
      go_wp2
      go_ret
      rw [HV.out]
      exact ⟨rfl, H2.out, H3.out⟩
  · have c1 : -1099511627776 ≤ s := by omega
    have c2 : s ≤ 1099511627776 := by omega
    cases bad
    · have HV : Hid (asinS false s = atanS (asinR false s).2 s (asinR false s).1) := if_neg c
      have HF : Hid _ := sqrtS_fits (asinQ false s).2 (asinQ false s).1
      have HS : Hid _ := hs
      have f1 := hw.cell
      clear c hs
      go_enter Try.func17, Try.ntmps17
      go_wp2_with fail
      refine (rMul_any b false _ _ _ hw).mono ?_
      rintro e w1 ⟨rfl, h2, h3⟩
      have H3 : Hid _ := h3
      clear h3 hw f1
      go_wp2_with fail
      refine (rSub_any b _ _ _ _ h2).mono ?_
      rintro e w2 ⟨rfl, h4, h5⟩
      have H5 : Hid _ := H3.out.trans h5
      clear h2 h5 H3
      go_wp2_with fail
      refine (rSqrt_any b _ _ _ h4).mono ?_
      rintro e w3 ⟨rfl, h6, h7⟩
      have H7 : Hid _ := H5.out.trans h7
      clear h4 h7 H5
      go_wp2_with fail
      refine (rAtan2_any b _ _ _ _ HS.out HF.out h6).mono ?_
      rintro e w4 ⟨rfl, h8, h9⟩
      have H8 : Hid _ := h8
      have H9 : Hid _ := H7.out.trans h9
      clear h6 h8 h9 H7
      go_wp2
      go_ret
      rw [HV.out]
      exact ⟨rfl, H8.out, H9.out⟩
    · exact rAsin_t b s w hs c1 c2 hw

theorem acosS_no {bad : Bool} {s : Int} (h : (asinS bad s).2 = true) : acosS bad s = (0, true) := by
  unfold acosS; rw [h]; rfl
theorem acosS_yes {bad : Bool} {s : Int} (hs : -9223372036854775808 ≤ s ∧ s ≤ 9223372036854775807) (h : (asinS bad s).2 = false) : acosS bad s = (1727108826179 - (asinS bad s).1, false) := by
  have b := asinS_bd bad s hs
  unfold acosS; rw [h]
  exact subS_good _ _ rfl (numB_of (by omega)) (numB_of (by omega))

set_option maxHeartbeats 400000 in
theorem rAcos_any (b : Nat) (bad : Bool) (s : Int) (w : World) (hs : -9223372036854775808 ≤ s ∧ s ≤ 9223372036854775807) (hw : Fl b bad w) :
    Calls Try.prog 19 #[.pointer (some ⟨b, 0, none⟩), .int .i64 s] w fun e w' => e = .returned (.int .i64 (acosS bad s).1) ∧ Fl b (acosS bad s).2 w' ∧ Kept b w w' := by
  have HS : Hid _ := hs
  have hb := asinS_bd bad s hs
  clear hs
  go_enter Try.func19, Try.ntmps19
  go_wp2_with fail
  refine (rAsin_any b bad _ _ HS.out hw).mono ?_
  rintro e w1 ⟨rfl, h2, h3⟩
  have H2 : Hid _ := h2
  have H3 : Hid _ := h3
  have f1 := h2.cell
  clear h2 h3 hw
  cases c : (asinS bad s).2
  · have HV : Hid _ := acosS_yes HS.out c
    rw [c] at f1 H2
    clear c
    go_wp2
    go_ret
    rw [HV.out]
    exact ⟨rfl, H2.out, H3.out⟩
  · have HV : Hid _ := acosS_no c
    rw [c] at f1 H2
    clear c
    go_wp2
    go_ret
    rw [HV.out]
    exact ⟨rfl, H2.out, H3.out⟩
end Go.Proofs.Ytndimdodendonaa
