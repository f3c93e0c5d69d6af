/-
  The walks of package fixed's methods, for the seat YtoadcnhcfodkgaaGreatDoor.
-/
import Derived.Test.YtoadcnhcfodkgaaGreatDoorFlow
import Derived.Test.YtoadcnhcfodkgaaGreatDoorLoops
import Derived.Handy
namespace Go.Proofs.YtoadcnhcfodkgaaGreatDoor
open Go.RowKit


set_option maxHeartbeats 400000 in
theorem Add_any (b : Nat) (bad : Bool) (x y : Int) (w : World) (hw : Fl b bad w) :
    Calls Tryz.prog 134 #[.pointer (some ⟨b, 0, none⟩), .int .i64 x, .int .i64 y] w fun e w' => e = .returned (.int .i64 (addS bad x y).1) ∧ Fl b (addS bad x y).2 w' ∧ Kept b w w' := by
  go_enter Tryz.func134, Tryz.ntmps134
  go_wp2_with fail
  refine (takes2 b bad x y w hw).mono ?_
  rintro e w1 ⟨rfl, h2, h3⟩
  cases c : tk bad [x, y]
  · rw [c] at h2
    have HS : Hid _ := addS_no c
    have H2 : Hid _ := h2
    have H3 : Hid _ := h3
    clear c h2 h3 hw
    go_wp2
    go_ret
    rw [HS.out]
    exact ⟨rfl, H2.out, H3.out⟩
  · rw [c] at h2
    have HS : Hid _ := addS_yes c
    have H3 : Hid _ := h3
    clear h3
    have ht := tk_two c
    have hx := numB_bd ht.2.1
    have hy := numB_bd ht.2.2
    clear c hw ht
    go_wp2_with fail
    refine (gives_any b _ _ h2).mono ?_
    rintro e w2 ⟨rfl, h4, h5⟩
    go_wp2
    go_ret
    rw [HS.out]
    rw [gv_wrap (x + y) (by omega)] at h4 ⊢
    exact ⟨rfl, h4, H3.out.trans h5⟩
set_option maxHeartbeats 400000 in
theorem Sub_any (b : Nat) (bad : Bool) (x y : Int) (w : World) (hw : Fl b bad w) :
    Calls Tryz.prog 122 #[.pointer (some ⟨b, 0, none⟩), .int .i64 x, .int .i64 y] w fun e w' => e = .returned (.int .i64 (subS bad x y).1) ∧ Fl b (subS bad x y).2 w' ∧ Kept b w w' := by
  go_enter Tryz.func122, Tryz.ntmps122
  go_wp2_with fail
  refine (takes2 b bad x y w hw).mono ?_
  rintro e w1 ⟨rfl, h2, h3⟩
  cases c : tk bad [x, y]
  · rw [c] at h2
    have HS : Hid _ := subS_no c
    have H2 : Hid _ := h2
    have H3 : Hid _ := h3
    clear c h2 h3 hw
    go_wp2
    go_ret
    rw [HS.out]
    exact ⟨rfl, H2.out, H3.out⟩
  · rw [c] at h2
    have HS : Hid _ := subS_yes c
    have H3 : Hid _ := h3
    clear h3
    have ht := tk_two c
    have hx := numB_bd ht.2.1
    have hy := numB_bd ht.2.2
    clear c hw ht
    go_wp2_with fail
    refine (gives_any b _ _ h2).mono ?_
    rintro e w2 ⟨rfl, h4, h5⟩
    go_wp2
    go_ret
    rw [HS.out]
    rw [gv_wrap (x - y) (by omega)] at h4 ⊢
    exact ⟨rfl, h4, H3.out.trans h5⟩

set_option maxHeartbeats 400000 in
theorem Mul_any (b : Nat) (bad : Bool) (x y : Int) (w : World) (hw : Fl b bad w) :
    Calls Tryz.prog 127 #[.pointer (some ⟨b, 0, none⟩), .int .i64 x, .int .i64 y] w fun e w' => e = .returned (.int .i64 (mulS bad x y).1) ∧ Fl b (mulS bad x y).2 w' ∧ Kept b w w' := by
  go_enter Tryz.func127, Tryz.ntmps127
  go_wp2_with fail
  refine (takes2 b bad x y w hw).mono ?_
  rintro e w1 ⟨rfl, h2, h3⟩
  cases c : tk bad [x, y]
  · rw [c] at h2
    have HS : Hid _ := mulS_no c
    have H2 : Hid _ := h2
    have H3 : Hid _ := h3
    clear c h2 h3 hw
    go_wp2
    go_ret
    rw [HS.out]
    exact ⟨rfl, H2.out, H3.out⟩
  · rw [c] at h2
    have HS : Hid _ := mulS_yes c
    have H2 : Hid _ := h2
    have H3 : Hid _ := h3
    have ht := tk_two c
    have hx := sz_bd ht.2.1
    have hy := sz_bd ht.2.2
    have HX : Hid _ := ht.2.1
    have HY : Hid _ := ht.2.2
    clear c hw ht h2 h3
    go_wp2_with fail
    refine (size_any x _ HX.out).mono ?_
    rintro e w2 ⟨rfl, rfl⟩
    go_wp2_with fail
    refine (size_any y _ HY.out).mono ?_
    rintro e w2 ⟨rfl, rfl⟩
    go_wp2_with fail
    refine (product_any (sz x) (sz y) _ hx.1 (by omega) hy.1 (by omega)).mono ?_
    rintro e w3 ⟨rfl, h4⟩
    have H4 : Hid _ := h4
    clear h4
    go_wp2_with fail
    refine (shifted_any (sz x * sz y) _ (sz_mul_bd HX.out HY.out).1 (by have := sz_mul_bd HX.out HY.out; omega)).mono ?_
    rintro e w4 ⟨rfl, h5⟩
    have hf : Fl b false w4 := ((H2.out.below H4.out).alloc _).below h5
    have HK : Hid (Kept b w w4) := ((H3.out.trans (Kept.of_below H4.out)).trans (Kept.alloc b _ _)).trans (Kept.of_below h5)
    have HB : Hid _ := sat_bd ((sz x * sz y + 549755813888) / 1099511627776) (by have := sz_mul_bd HX.out HY.out; omega)
    clear h5
    go_wp2_with fail
    refine (signed_any b _ _ _ hf HB.out.1 HB.out.2).mono ?_
    rintro e w5 ⟨rfl, h6, h7⟩
    go_wp2
    go_ret
    rw [HS.out]
    rw [sat_out] at h6 ⊢
    exact ⟨rfl, h6, HK.out.trans h7⟩

set_option maxHeartbeats 400000 in
theorem Part_any (b : Nat) (bad : Bool) (x p q : Int) (w : World) (hw : Fl b bad w) :
    Calls Tryz.prog 151 #[.pointer (some ⟨b, 0, none⟩), .int .i64 x, .int .i64 p, .int .i64 q] w fun e w' => e = .returned (.int .i64 (partS bad x p q).1) ∧ Fl b (partS bad x p q).2 w' ∧ Kept b w w' := by
  go_enter Tryz.func151, Tryz.ntmps151
  go_wp2_with fail
  refine (takes3 b bad x p q w hw).mono ?_
  rintro e w1 ⟨rfl, h2, h3⟩
  cases c : tk bad [x, p, q]
  · rw [c] at h2
    have HS : Hid _ := partS_no c
    have H2 : Hid _ := h2
    have H3 : Hid _ := h3
    clear c h2 h3 hw
    go_wp2
    go_ret
    rw [HS.out]
    exact ⟨rfl, H2.out, H3.out⟩
  · rw [c] at h2
    have H2 : Hid _ := h2
    have H3 : Hid _ := h3
    clear hw h2 h3
    by_cases q0 : q = 0
    · subst q0
      have HS : Hid _ := partS_zero (bad := bad) (a := x) (p := p)
      clear c
      go_wp2_with fail
      refine (Fail_any b _ _ H2.out).mono ?_
      rintro e w2 ⟨rfl, h4, h5⟩
      go_wp2
      go_ret
      rw [HS.out]
      exact ⟨rfl, h4, H3.out.trans h5⟩
    · have q1 : (q == 0) = false := by simpa using q0
      have q2 : (q != 0) = true := by simpa using q0
      have HS : Hid _ := partS_yes c q2
      have ht := tk_three c
      have hx := sz_bd ht.2.1
      have hp := sz_bd ht.2.2.1
      have hq := sz_bd ht.2.2.2
      have hq1 := sz_pos q2
      have HX : Hid _ := ht.2.1
      have HP : Hid _ := ht.2.2.1
      have HQ : Hid _ := ht.2.2.2
      clear c ht q0 q2
      go_wp2_with fail
      refine (size_any x _ HX.out).mono ?_
      rintro e w2 ⟨rfl, rfl⟩
      go_wp2_with fail
      refine (size_any p _ HP.out).mono ?_
      rintro e w2 ⟨rfl, rfl⟩
      go_wp2_with fail
      refine (product_any (sz x) (sz p) _ hx.1 (by omega) hp.1 (by omega)).mono ?_
      rintro e w3 ⟨rfl, h4⟩
      have H4 : Hid _ := h4
      clear h4
      go_wp2_with fail
      refine (size_any q _ HQ.out).mono ?_
      rintro e w2 ⟨rfl, rfl⟩
      go_wp2_with fail
      refine (quotient_any (sz x * sz p) (sz q) _ (sz_mul_bd HX.out HP.out).1 (sz_mul_bd HX.out HP.out).2 hq1 hq.2).mono ?_
      rintro e w4 ⟨rfl, h5⟩
      have hf : Fl b false w4 := (H2.out.below H4.out).below h5
      have HK : Hid (Kept b w w4) := (H3.out.trans (Kept.of_below H4.out)).trans (Kept.of_below h5)
      have HB : Hid _ := sat_bd (rnd (sz x * sz p) (sz q)) (rnd_nonneg (sz_mul_bd HX.out HP.out).1 hq1)
      clear h5
      go_wp2_with fail
      refine (signed_any b _ _ _ hf HB.out.1 HB.out.2).mono ?_
      rintro e w5 ⟨rfl, h6, h7⟩
      go_wp2
      go_ret
      rw [HS.out]
      rw [sat_out] at h6 ⊢
      exact ⟨rfl, h6, HK.out.trans h7⟩

set_option maxHeartbeats 400000 in
theorem Div_any (b : Nat) (bad : Bool) (x y : Int) (w : World) (hw : Fl b bad w) :
    Calls Tryz.prog 211 #[.pointer (some ⟨b, 0, none⟩), .int .i64 x, .int .i64 y] w fun e w' => e = .returned (.int .i64 (divS bad x y).1) ∧ Fl b (divS bad x y).2 w' ∧ Kept b w w' := by
  go_enter Tryz.func211, Tryz.ntmps211
  go_wp2_with fail
  refine (Part_any b bad x 1099511627776 y w hw).mono ?_
  rintro e w1 ⟨rfl, h2, h3⟩
  go_wp2
  go_ret
  exact ⟨rfl, h2, h3⟩

set_option maxHeartbeats 400000 in
theorem Sqrt_any (b : Nat) (bad : Bool) (x : Int) (w : World) (hw : Fl b bad w) :
    Calls Tryz.prog 210 #[.pointer (some ⟨b, 0, none⟩), .int .i64 x] w fun e w' => e = .returned (.int .i64 (sqrtS bad x).1) ∧ Fl b (sqrtS bad x).2 w' ∧ Kept b w w' := by
  go_enter Tryz.func210, Tryz.ntmps210
  go_wp2_with fail
  refine (takes1 b bad x w hw).mono ?_
  rintro e w1 ⟨rfl, h2, h3⟩
  cases c : tk bad [x]
  · rw [c] at h2
    have HS : Hid _ := sqrtS_no c
    have H2 : Hid _ := h2
    have H3 : Hid _ := h3
    clear c h2 h3 hw
    go_wp2
    go_ret
    rw [HS.out]
    exact ⟨rfl, H2.out, H3.out⟩
  · rw [c] at h2
    have H2 : Hid _ := h2
    have H3 : Hid _ := h3
    clear hw h2 h3
    by_cases x0 : 0 ≤ x
    · have HS : Hid _ := sqrtS_yes c x0
      have ht := tk_one c
      have hx := sz_bd ht.2
      have HX : Hid _ := ht.2
      have HE : Hid (sz x = x) := sz_nonneg x0
      clear c ht
      go_wp2_with fail
      refine (size_any x _ HX.out).mono ?_
      rintro e w2 ⟨rfl, rfl⟩
      rw [HE.out] at hx ⊢
      go_wp2_with fail
      refine (product_any x 1099511627776 _ x0 (by omega) (by omega) (by omega)).mono ?_
      rintro e w3 ⟨rfl, h4⟩
      have H4 : Hid _ := h4
      clear h4
      go_wp2_with fail
      refine (root_any (x * 1099511627776) _).mono ?_
      rintro e w4 ⟨rfl, h5⟩
      have hf : Fl b false w4 := (H2.out.below H4.out).below h5
      have HK : Hid (Kept b w w4) := (H3.out.trans (Kept.of_below H4.out)).trans (Kept.of_below h5)
      have HB : Hid _ := isq_bd (x * 1099511627776) (by omega) (by omega)
      clear h5
      go_wp2_with fail
      refine (signed_any b _ _ _ hf HB.out.1 HB.out.2).mono ?_
      rintro e w5 ⟨rfl, h6, h7⟩
      go_wp2
      go_ret
      rw [HS.out]
      exact ⟨rfl, h6, HK.out.trans h7⟩
    · have HS : Hid _ := sqrtS_low (bad := bad) x0
      have x1 : x < 0 := by omega
      clear c x0
      go_wp2_with fail
      refine (Fail_any b _ _ H2.out).mono ?_
      rintro e w2 ⟨rfl, h4, h5⟩
      go_wp2
      go_ret
      rw [HS.out]
      exact ⟨rfl, h4, H3.out.trans h5⟩

set_option maxHeartbeats 400000 in
theorem Mod_any (b : Nat) (bad : Bool) (x y : Int) (w : World) (hw : Fl b bad w) :
    Calls Tryz.prog 212 #[.pointer (some ⟨b, 0, none⟩), .int .i64 x, .int .i64 y] w fun e w' => e = .returned (.int .i64 (modS bad x y).1) ∧ Fl b (modS bad x y).2 w' ∧ Kept b w w' := by
  go_enter Tryz.func212, Tryz.ntmps212
  go_wp2_with fail
  refine (takes2 b bad x y w hw).mono ?_
  rintro e w1 ⟨rfl, h2, h3⟩
  cases c : tk bad [x, y]
  · rw [c] at h2
    have HS : Hid _ := modS_no c
    have H2 : Hid _ := h2
    have H3 : Hid _ := h3
    clear c h2 h3 hw
    go_wp2
    go_ret
    rw [HS.out]
    exact ⟨rfl, H2.out, H3.out⟩
  · rw [c] at h2
    have H2 : Hid _ := h2
    have H3 : Hid _ := h3
    have ht := tk_two c
    have hx := numB_bd ht.2.1
    have hy := numB_bd ht.2.2
    clear hw h2 h3 ht
    by_cases y0 : 0 < y
    · have HS : Hid _ := modS_yes c y0
      have HM : Hid _ := tmod_low x y y0
      have hb := tmod_bd x y y0
      have d0 : (y == 0) = false := by simp; omega
      clear c
      go_wp2
      · go_ret
        rw [HS.out]
        exact ⟨ret_int (HM.out.1 (by assumption)), H2.out, H3.out⟩
      · go_ret
        rw [HS.out]
        exact ⟨ret_int (HM.out.2 (by assumption)), H2.out, H3.out⟩
    · have HS : Hid _ := modS_low (bad := bad) (a := x) y0
      have y1 : y ≤ 0 := by omega
      clear c y0
      go_wp2_with fail
      refine (Fail_any b _ _ H2.out).mono ?_
      rintro e w2 ⟨rfl, h4, h5⟩
      go_wp2
      go_ret
      rw [HS.out]
      exact ⟨rfl, h4, H3.out.trans h5⟩
end Go.Proofs.YtoadcnhcfodkgaaGreatDoor
