/-
  The walks of the reference's methods (alidaderef01), for the seat Ytchkedlfackfgaa.
-/
import Derived.Test.YtchkedlfackfgaaRQuo
import Derived.Handy
namespace Go.Proofs.Ytchkedlfackfgaa
open Go.RowKit

set_option maxHeartbeats 400000 in
theorem rratio_any (b : Nat) (x p q : Int) (w : World) (hw : Fl b false w) (hx : numB x = true) (hp : numB p = true) (hq : numB q = true) :
    Calls Try.prog 36 #[.pointer (some ⟨b, 0, none⟩), .int .i64 x, .int .i64 p, .int .i64 q] w fun e w' => e = .returned (.int .i64 (ratS x p q).1) ∧ Fl b (ratS x p q).2 w' ∧ Kept b w w' := by
  have HX : Hid _ := hx
  have HP : Hid _ := hp
  have HQ : Hid _ := hq
  have HW : Hid _ := hw
  have sx := sz_bd hx
  have sp := sz_bd hp
  have sq := sz_bd hq
  have HM : Hid _ := sz_mul_bd hx hp
  clear hx hp hq hw
  by_cases c : q = 0 ∨ 4611686018427387904 < sz x * sz p / sz q
  · have HS : Hid (ratS x p q = (0, true)) := ratS_no c
    have HC : Hid (sz q = 0 ∨ 4611686018427387904 < sz x * sz p / sz q) := (by rcases c with c | c; exact .inl (sz_zero c); exact .inr c)
    clear c
    go_enter Try.func36, Try.ntmps36
    go_wp2_with fail
    refine (rsize_any x _ HX.out).mono ?_
    rintro e w1 ⟨rfl, rfl⟩
    go_wp2_with fail
    refine (rsize_any p _ HP.out).mono ?_
    rintro e w1 ⟨rfl, rfl⟩
    go_wp2_with fail
    refine (rTimes_any (sz x) (sz p) _ ⟨sx.1, by omega⟩ ⟨sp.1, by omega⟩).mono ?_
    rintro e w3 ⟨rfl, h4⟩
    have H4 : Hid _ := h4
    clear h4
    go_wp2_with fail
    refine (rsize_any q _ HQ.out).mono ?_
    rintro e w1 ⟨rfl, rfl⟩
    go_wp2_with fail
    refine (rRounded_no (sz x * sz p) (sz q) _ HM.out.1 (by have := HM.out; omega) sq.1 sq.2 HC.out).mono ?_
    rintro e w4 ⟨rfl, h5⟩
    have HF : Hid _ := (HW.out.below H4.out).below h5
    have HK : Hid (Kept b _ w4) := (Kept.of_below H4.out).trans (Kept.of_below h5)
    clear h5
    have f1 := HF.out.cell
    have f2 := HF.out.free
    go_wp2
    go_ret
    rw [HS.out]
    exact ⟨rfl, HF.out.set true, HK.out.setCell _⟩
  · have c1 : sz x * sz p / sz q ≤ 4611686018427387904 := by omega
    have c2 : (q != 0) = true := by simp; omega
    have HS : Hid _ := ratS_yes x p q c2
    have s1 := sz_pos c2
    have HC : Hid _ := c1
    have HN : Hid _ := rnd_nonneg HM.out.1 s1
    have HN2 : Hid _ := rnd_top s1 c1
    clear c c1 c2
    go_enter Try.func36, Try.ntmps36
    go_wp2_with fail
    refine (rsize_any x _ HX.out).mono ?_
    rintro e w1 ⟨rfl, rfl⟩
    go_wp2_with fail
    refine (rsize_any p _ HP.out).mono ?_
    rintro e w1 ⟨rfl, rfl⟩
    go_wp2_with fail
    refine (rTimes_any (sz x) (sz p) _ ⟨sx.1, by omega⟩ ⟨sp.1, by omega⟩).mono ?_
    rintro e w3 ⟨rfl, h4⟩
    have H4 : Hid _ := h4
    clear h4
    go_wp2_with fail
    refine (rsize_any q _ HQ.out).mono ?_
    rintro e w1 ⟨rfl, rfl⟩
    go_wp2_with fail
    refine (rRounded_yes (sz x * sz p) (sz q) _ HM.out.1 (by have := HM.out; omega) s1 sq.2 HC.out).mono ?_
    rintro e w4 ⟨rfl, h5⟩
    have HF : Hid _ := (HW.out.below H4.out).below h5
    have HK : Hid (Kept b _ w4) := (Kept.of_below H4.out).trans (Kept.of_below h5)
    clear h5 s1 sx sp sq
    generalize rnd (sz x * sz p) (sz q) = r at *
    go_wp2_with fail
    all_goals
      refine (rgive_any b _ _ _ HF.out HN.out HN2.out).mono ?_
      rintro e w5 ⟨rfl, h6, h7⟩
      go_wp2
      go_ret
      rw [HS.out]
      first | rw [decide_eq_true (show x < 0 by omega)] | rw [decide_eq_false (show ¬ x < 0 by omega)]
      first | rw [decide_eq_true (show p < 0 by omega)] | rw [decide_eq_false (show ¬ p < 0 by omega)]
      first | rw [decide_eq_true (show q < 0 by omega)] | rw [decide_eq_false (show ¬ q < 0 by omega)]
      exact ⟨rfl, h6, HK.out.trans h7⟩

set_option maxHeartbeats 400000 in
theorem rPart_any (b : Nat) (bad : Bool) (x p q : Int) (w : World) (hw : Fl b bad w) :
    Calls Try.prog 24 #[.pointer (some ⟨b, 0, none⟩), .int .i64 x, .int .i64 p, .int .i64 q] w fun e w' => e = .returned (.int .i64 (partS bad x p q).1) ∧ Fl b (partS bad x p q).2 w' ∧ Kept b w w' := by
  go_enter Try.func24, Try.ntmps24
  go_wp2_with fail
  refine (rtake3 b bad x p q w hw).mono ?_
  rintro e w1 ⟨rfl, h2, h3⟩
  cases c : tk bad [x, p, q]
  · rw [c] at h2
    have HS : Hid _ := partS_no c
    have H2 : Hid _ := h2
    have H3 : Hid _ := h3
    clear c h2 h3 hw
    go_wp2
    go_ret
    rw [HS.out]
    exact ⟨rfl, H2.out, H3.out⟩
  · rw [c] at h2
    have HS : Hid _ := partS_rat c
    have H3 : Hid _ := h3
    have ht := tk_three c
    have HX : Hid _ := ht.2.1
    have HP : Hid _ := ht.2.2.1
    have HQ : Hid _ := ht.2.2.2
    clear c hw ht h3
    go_wp2_with fail
    refine (rratio_any b x p q _ h2 HX.out HP.out HQ.out).mono ?_
    rintro e w2 ⟨rfl, h4, h5⟩
    go_wp2
    go_ret
    rw [HS.out]
    exact ⟨rfl, h4, H3.out.trans h5⟩

end Go.Proofs.Ytchkedlfackfgaa
