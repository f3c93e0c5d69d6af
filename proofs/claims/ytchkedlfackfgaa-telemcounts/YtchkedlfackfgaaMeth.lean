/-
  The walks of package fixed's methods, for the seat Ytchkedlfackfgaa.
-/
import Derived.Test.YtchkedlfackfgaaFlow
import Derived.Test.YtchkedlfackfgaaLoops
import Derived.Handy
namespace Go.Proofs.Ytchkedlfackfgaa
open Go.RowKit


set_option maxHeartbeats 400000 in
theorem Part_any (b : Nat) (bad : Bool) (x p q : Int) (w : World) (hw : Fl b bad w) :
    Calls Try.prog 23 #[.pointer (some ⟨b, 0, none⟩), .int .i64 x, .int .i64 p, .int .i64 q] w fun e w' => e = .returned (.int .i64 (partS bad x p q).1) ∧ Fl b (partS bad x p q).2 w' ∧ Kept b w w' := by
  go_enter Try.func23, Try.ntmps23
  go_wp2_with fail
  refine (takes3 b bad x p q w hw).mono ?_
  rintro e w1 ⟨rfl, h2, h3⟩
  cases c : tk bad [x, p, q]
  · rw [c] at h2
    have HS : Hid _ := partS_no c
    have H2 : Hid _ := h2
    have H3 : Hid _ := h3
    clear c h2 h3 hw
    go_wp2
    go_ret
    rw [HS.out]
    exact ⟨rfl, H2.out, H3.out⟩
  · rw [c] at h2
    have H2 : Hid _ := h2
    have H3 : Hid _ := h3
    clear hw h2 h3
    by_cases q0 : q = 0
    · subst q0
      have HS : Hid _ := partS_zero (bad := bad) (a := x) (p := p)
      clear c
      go_wp2_with fail
      refine (Fail_any b _ _ H2.out).mono ?_
      rintro e w2 ⟨rfl, h4, h5⟩
      go_wp2
      go_ret
      rw [HS.out]
      exact ⟨rfl, h4, H3.out.trans h5⟩
    · have q1 : (q == 0) = false := by simpa using q0
      have q2 : (q != 0) = true := by simpa using q0
      have HS : Hid _ := partS_yes c q2
      have ht := tk_three c
      have hx := sz_bd ht.2.1
      have hp := sz_bd ht.2.2.1
      have hq := sz_bd ht.2.2.2
      have hq1 := sz_pos q2
      have HX : Hid _ := ht.2.1
      have HP : Hid _ := ht.2.2.1
      have HQ : Hid _ := ht.2.2.2
      clear c ht q0 q2
      go_wp2_with fail
      refine (size_any x _ HX.out).mono ?_
      rintro e w2 ⟨rfl, rfl⟩
      go_wp2_with fail
      refine (size_any p _ HP.out).mono ?_
      rintro e w2 ⟨rfl, rfl⟩
      go_wp2_with fail
      refine (product_any (sz x) (sz p) _ hx.1 (by omega) hp.1 (by omega)).mono ?_
      rintro e w3 ⟨rfl, h4⟩
      have H4 : Hid _ := h4
      clear h4
      go_wp2_with fail
      refine (size_any q _ HQ.out).mono ?_
      rintro e w2 ⟨rfl, rfl⟩
      go_wp2_with fail
      refine (quotient_any (sz x * sz p) (sz q) _ (sz_mul_bd HX.out HP.out).1 (sz_mul_bd HX.out HP.out).2 hq1 hq.2).mono ?_
      rintro e w4 ⟨rfl, h5⟩
      have hf : Fl b false w4 := (H2.out.below H4.out).below h5
      have HK : Hid (Kept b w w4) := (H3.out.trans (Kept.of_below H4.out)).trans (Kept.of_below h5)
      have HB : Hid _ := sat_bd (rnd (sz x * sz p) (sz q)) (rnd_nonneg (sz_mul_bd HX.out HP.out).1 hq1)
      clear h5
      go_wp2_with fail
      refine (signed_any b _ _ _ hf HB.out.1 HB.out.2).mono ?_
      rintro e w5 ⟨rfl, h6, h7⟩
      go_wp2
      go_ret
      rw [HS.out]
      rw [sat_out] at h6 ⊢
      exact ⟨rfl, h6, HK.out.trans h7⟩

end Go.Proofs.Ytchkedlfackfgaa
