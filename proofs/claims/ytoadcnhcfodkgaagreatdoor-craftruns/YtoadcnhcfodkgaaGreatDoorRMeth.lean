/-
  The walks of the reference's methods (alidaderef01), for the seat YtoadcnhcfodkgaaGreatDoor.
-/
import Derived.Test.YtoadcnhcfodkgaaGreatDoorRQuo
import Derived.Handy
namespace Go.Proofs.YtoadcnhcfodkgaaGreatDoor
open Go.RowKit

set_option maxHeartbeats 400000 in
theorem rratio_any (b : Nat) (x p q : Int) (w : World) (hw : Fl b false w) (hx : numB x = true) (hp : numB p = true) (hq : numB q = true) :
    Calls Tryz.prog 180 #[.pointer (some ⟨b, 0, none⟩), .int .i64 x, .int .i64 p, .int .i64 q] w fun e w' => e = .returned (.int .i64 (ratS x p q).1) ∧ Fl b (ratS x p q).2 w' ∧ Kept b w w' := by
  have HX : Hid _ := hx
  have HP : Hid _ := hp
  have HQ : Hid _ := hq
  have HW : Hid _ := hw
  have sx := sz_bd hx
  have sp := sz_bd hp
  have sq := sz_bd hq
  have HM : Hid _ := sz_mul_bd hx hp
  clear hx hp hq hw
  by_cases c : q = 0 ∨ 4611686018427387904 < sz x * sz p / sz q
  · have HS : Hid (ratS x p q = (0, true)) := ratS_no c
    have HC : Hid (sz q = 0 ∨ 4611686018427387904 < sz x * sz p / sz q) := (by rcases c with c | c; exact .inl (sz_zero c); exact .inr c)
    clear c
    go_enter Tryz.func180, Tryz.ntmps180
    go_wp2_with fail
    refine (rsize_any x _ HX.out).mono ?_
    rintro e w1 ⟨rfl, rfl⟩
    go_wp2_with fail
    refine (rsize_any p _ HP.out).mono ?_
    rintro e w1 ⟨rfl, rfl⟩
    go_wp2_with fail
    refine (rTimes_any (sz x) (sz p) _ ⟨sx.1, by omega⟩ ⟨sp.1, by omega⟩).mono ?_
    rintro e w3 ⟨rfl, h4⟩
    have H4 : Hid _ := h4
    clear h4
    go_wp2_with fail
    refine (rsize_any q _ HQ.out).mono ?_
    rintro e w1 ⟨rfl, rfl⟩
    go_wp2_with fail
    refine (rRounded_no (sz x * sz p) (sz q) _ HM.out.1 (by have := HM.out; omega) sq.1 sq.2 HC.out).mono ?_
    rintro e w4 ⟨rfl, h5⟩
    have HF : Hid _ := (HW.out.below H4.out).below h5
    have HK : Hid (Kept b _ w4) := (Kept.of_below H4.out).trans (Kept.of_below h5)
    clear h5
    have f1 := HF.out.cell
    have f2 := HF.out.free
    go_wp2
    go_ret
    rw [HS.out]
    exact ⟨rfl, HF.out.set true, HK.out.setCell _⟩
  · have c1 : sz x * sz p / sz q ≤ 4611686018427387904 := by omega
    have c2 : (q != 0) = true := by simp; omega
    have HS : Hid _ := ratS_yes x p q c2
    have s1 := sz_pos c2
    have HC : Hid _ := c1
    have HN : Hid _ := rnd_nonneg HM.out.1 s1
    have HN2 : Hid _ := rnd_top s1 c1
    clear c c1 c2
    go_enter Tryz.func180, Tryz.ntmps180
    go_wp2_with fail
    refine (rsize_any x _ HX.out).mono ?_
    rintro e w1 ⟨rfl, rfl⟩
    go_wp2_with fail
    refine (rsize_any p _ HP.out).mono ?_
    rintro e w1 ⟨rfl, rfl⟩
    go_wp2_with fail
    refine (rTimes_any (sz x) (sz p) _ ⟨sx.1, by omega⟩ ⟨sp.1, by omega⟩).mono ?_
    rintro e w3 ⟨rfl, h4⟩
    have H4 : Hid _ := h4
    clear h4
    go_wp2_with fail
    refine (rsize_any q _ HQ.out).mono ?_
    rintro e w1 ⟨rfl, rfl⟩
    go_wp2_with fail
    refine (rRounded_yes (sz x * sz p) (sz q) _ HM.out.1 (by have := HM.out; omega) s1 sq.2 HC.out).mono ?_
    rintro e w4 ⟨rfl, h5⟩
    have HF : Hid _ := (HW.out.below H4.out).below h5
    have HK : Hid (Kept b _ w4) := (Kept.of_below H4.out).trans (Kept.of_below h5)
    clear h5 s1 sx sp sq
    generalize rnd (sz x * sz p) (sz q) = r at *
    go_wp2_with fail
    all_goals
      refine (rgive_any b _ _ _ HF.out HN.out HN2.out).mono ?_
      rintro e w5 ⟨rfl, h6, h7⟩
      go_wp2
      go_ret
      rw [HS.out]
      first | rw [decide_eq_true (show x < 0 by omega)] | rw [decide_eq_false (show ¬ x < 0 by omega)]
      first | rw [decide_eq_true (show p < 0 by omega)] | rw [decide_eq_false (show ¬ p < 0 by omega)]
      first | rw [decide_eq_true (show q < 0 by omega)] | rw [decide_eq_false (show ¬ q < 0 by omega)]
      exact ⟨rfl, h6, HK.out.trans h7⟩

set_option maxHeartbeats 400000 in
theorem rAdd_any (b : Nat) (bad : Bool) (x y : Int) (w : World) (hw : Fl b bad w) :
    Calls Tryz.prog 64 #[.pointer (some ⟨b, 0, none⟩), .int .i64 x, .int .i64 y] w fun e w' => e = .returned (.int .i64 (addS bad x y).1) ∧ Fl b (addS bad x y).2 w' ∧ Kept b w w' := by
  go_enter Tryz.func64, Tryz.ntmps64
  go_wp2_with fail
  refine (rtake2 b bad x y w hw).mono ?_
  rintro e w1 ⟨rfl, h2, h3⟩
  cases c : tk bad [x, y]
  · rw [c] at h2
    have HS : Hid _ := addS_no c
    have H2 : Hid _ := h2
    have H3 : Hid _ := h3
    clear c h2 h3 hw
    go_wp2
    go_ret
    rw [HS.out]
    exact ⟨rfl, H2.out, H3.out⟩
  · rw [c] at h2
    have HS : Hid _ := addS_yes c
    have H2 : Hid _ := h2
    have H3 : Hid _ := h3
    have ht := tk_two c
    have hx := numB_bd ht.2.1
    have hy := numB_bd ht.2.2
    have f1 := h2.cell
    have f2 := h2.free
    have x1 := half_bd x hx
    have y1 := half_bd y hy
    have HH : Hid _ := half_sum x y
    have HI : Hid _ := num_wrap (x + y) (by omega)
    have s1 := half_rest x y
    clear c hw ht h2 h3
    by_cases c : 2305843009213693952 < x.tdiv 2 + y.tdiv 2 + (x.tmod 2 + y.tmod 2).tdiv 2
    · have HN : Hid (numB (x + y) = false) := by show _ = _; have := HH.out; unfold numB; simp; omega
      go_wp2
      go_ret
      rw [HS.out, gv_no HN.out]
      exact ⟨rfl, H2.out.set true, H3.out.setCell _⟩
    · by_cases d : x.tdiv 2 + y.tdiv 2 + (x.tmod 2 + y.tmod 2).tdiv 2 < -2305843009213693952
      · have HN : Hid (numB (x + y) = false) := by show _ = _; have := HH.out; unfold numB; simp; omega
        go_wp2
        go_ret
        rw [HS.out, gv_no HN.out]
        exact ⟨rfl, H2.out.set true, H3.out.setCell _⟩
      · go_wp2_with fail
        refine (rnumber_any _ _).mono ?_
        rintro e w2 ⟨rfl, rfl⟩
        rw [HI.out]
        cases g : numB (x + y)
        · have HN : Hid _ := gv_no g
          clear g
          go_wp2
          go_ret
          rw [HS.out, HN.out]
          exact ⟨rfl, H2.out.set true, H3.out.setCell _⟩
        · have HN : Hid _ := gv_yes g
          have g2 := numB_bd g
          clear g
          go_wp2
          go_ret
          rw [HS.out, HN.out]
          exact ⟨rfl, H2.out, H3.out⟩

set_option maxHeartbeats 400000 in
theorem rSub_any (b : Nat) (bad : Bool) (x y : Int) (w : World) (hw : Fl b bad w) :
    Calls Tryz.prog 66 #[.pointer (some ⟨b, 0, none⟩), .int .i64 x, .int .i64 y] w fun e w' => e = .returned (.int .i64 (subS bad x y).1) ∧ Fl b (subS bad x y).2 w' ∧ Kept b w w' := by
  go_enter Tryz.func66, Tryz.ntmps66
  go_wp2_with fail
  refine (rtake2 b bad x y w hw).mono ?_
  rintro e w1 ⟨rfl, h2, h3⟩
  cases c : tk bad [x, y]
  · rw [c] at h2
    have HS : Hid _ := subS_no c
    have H2 : Hid _ := h2
    have H3 : Hid _ := h3
    clear c h2 h3 hw
    go_wp2
    go_ret
    rw [HS.out]
    exact ⟨rfl, H2.out, H3.out⟩
  · rw [c] at h2
    have HS : Hid _ := subS_neg c
    have H3 : Hid _ := h3
    have ht := tk_two c
    have hx := numB_bd ht.2.1
    have hy := numB_bd ht.2.2
    clear c hw ht h3
    go_wp2_with fail
    refine (rAdd_any b false x (-y) _ h2).mono ?_
    rintro e w2 ⟨rfl, h4, h5⟩
    go_wp2
    go_ret
    rw [HS.out]
    exact ⟨rfl, h4, H3.out.trans h5⟩

set_option maxHeartbeats 400000 in
theorem rMul_any (b : Nat) (bad : Bool) (x y : Int) (w : World) (hw : Fl b bad w) :
    Calls Tryz.prog 72 #[.pointer (some ⟨b, 0, none⟩), .int .i64 x, .int .i64 y] w fun e w' => e = .returned (.int .i64 (mulS bad x y).1) ∧ Fl b (mulS bad x y).2 w' ∧ Kept b w w' := by
  go_enter Tryz.func72, Tryz.ntmps72
  go_wp2_with fail
  refine (rtake2 b bad x y w hw).mono ?_
  rintro e w1 ⟨rfl, h2, h3⟩
  cases c : tk bad [x, y]
  · rw [c] at h2
    have HS : Hid _ := mulS_no c
    have H2 : Hid _ := h2
    have H3 : Hid _ := h3
    clear c h2 h3 hw
    go_wp2
    go_ret
    rw [HS.out]
    exact ⟨rfl, H2.out, H3.out⟩
  · rw [c] at h2
    have HS : Hid (mulS bad x y = ratS x y 1099511627776) := partS_rat ((tk_one3 bad x y).trans c)
    have H3 : Hid _ := h3
    have ht := tk_two c
    have HX : Hid _ := ht.2.1
    have HY : Hid _ := ht.2.2
    clear c hw ht h3
    go_wp2_with fail
    refine (rratio_any b x y 1099511627776 _ h2 HX.out HY.out rfl).mono ?_
    rintro e w2 ⟨rfl, h4, h5⟩
    go_wp2
    go_ret
    rw [HS.out]
    exact ⟨rfl, h4, H3.out.trans h5⟩

set_option maxHeartbeats 400000 in
theorem rDiv_any (b : Nat) (bad : Bool) (x y : Int) (w : World) (hw : Fl b bad w) :
    Calls Tryz.prog 70 #[.pointer (some ⟨b, 0, none⟩), .int .i64 x, .int .i64 y] w fun e w' => e = .returned (.int .i64 (divS bad x y).1) ∧ Fl b (divS bad x y).2 w' ∧ Kept b w w' := by
  go_enter Tryz.func70, Tryz.ntmps70
  go_wp2_with fail
  refine (rtake2 b bad x y w hw).mono ?_
  rintro e w1 ⟨rfl, h2, h3⟩
  cases c : tk bad [x, y]
  · rw [c] at h2
    have HS : Hid (divS bad x y = (0, true)) := partS_no ((tk_one2 bad x y).trans c)
    have H2 : Hid _ := h2
    have H3 : Hid _ := h3
    clear c h2 h3 hw
    go_wp2
    go_ret
    rw [HS.out]
    exact ⟨rfl, H2.out, H3.out⟩
  · rw [c] at h2
    have HS : Hid (divS bad x y = ratS x 1099511627776 y) := partS_rat ((tk_one2 bad x y).trans c)
    have H3 : Hid _ := h3
    have ht := tk_two c
    have HX : Hid _ := ht.2.1
    have HY : Hid _ := ht.2.2
    clear c hw ht h3
    go_wp2_with fail
    refine (rratio_any b x 1099511627776 y _ h2 HX.out rfl HY.out).mono ?_
    rintro e w2 ⟨rfl, h4, h5⟩
    go_wp2
    go_ret
    rw [HS.out]
    exact ⟨rfl, h4, H3.out.trans h5⟩

set_option maxHeartbeats 400000 in
theorem rPart_any (b : Nat) (bad : Bool) (x p q : Int) (w : World) (hw : Fl b bad w) :
    Calls Tryz.prog 65 #[.pointer (some ⟨b, 0, none⟩), .int .i64 x, .int .i64 p, .int .i64 q] w fun e w' => e = .returned (.int .i64 (partS bad x p q).1) ∧ Fl b (partS bad x p q).2 w' ∧ Kept b w w' := by
  go_enter Tryz.func65, Tryz.ntmps65
  go_wp2_with fail
  refine (rtake3 b bad x p q w hw).mono ?_
  rintro e w1 ⟨rfl, h2, h3⟩
  cases c : tk bad [x, p, q]
  · rw [c] at h2
    have HS : Hid _ := partS_no c
    have H2 : Hid _ := h2
    have H3 : Hid _ := h3
    clear c h2 h3 hw
    go_wp2
    go_ret
    rw [HS.out]
    exact ⟨rfl, H2.out, H3.out⟩
  · rw [c] at h2
    have HS : Hid _ := partS_rat c
    have H3 : Hid _ := h3
    have ht := tk_three c
    have HX : Hid _ := ht.2.1
    have HP : Hid _ := ht.2.2.1
    have HQ : Hid _ := ht.2.2.2
    clear c hw ht h3
    go_wp2_with fail
    refine (rratio_any b x p q _ h2 HX.out HP.out HQ.out).mono ?_
    rintro e w2 ⟨rfl, h4, h5⟩
    go_wp2
    go_ret
    rw [HS.out]
    exact ⟨rfl, h4, H3.out.trans h5⟩

set_option maxHeartbeats 400000 in
theorem rMod_any (b : Nat) (bad : Bool) (x y : Int) (w : World) (hw : Fl b bad w) :
    Calls Tryz.prog 75 #[.pointer (some ⟨b, 0, none⟩), .int .i64 x, .int .i64 y] w fun e w' => e = .returned (.int .i64 (modS bad x y).1) ∧ Fl b (modS bad x y).2 w' ∧ Kept b w w' := by
  go_enter Tryz.func75, Tryz.ntmps75
  go_wp2_with fail
  refine (rtake2 b bad x y w hw).mono ?_
  rintro e w1 ⟨rfl, h2, h3⟩
  cases c : tk bad [x, y]
  · rw [c] at h2
    have HS : Hid _ := modS_no c
    have H2 : Hid _ := h2
    have H3 : Hid _ := h3
    clear c h2 h3 hw
    go_wp2
    go_ret
    rw [HS.out]
    exact ⟨rfl, H2.out, H3.out⟩
  · rw [c] at h2
    have H2 : Hid _ := h2
    have H3 : Hid _ := h3
    have ht := tk_two c
    have hx := numB_bd ht.2.1
    have hy := numB_bd ht.2.2
    have f1 := h2.cell
    have f2 := h2.free
    clear hw h2 h3 ht
    by_cases y0 : 0 < y
    · have HS : Hid _ := modS_yes c y0
      have HM : Hid _ := tmod_low x y y0
      have hb := tmod_bd x y y0
      have d0 : (y == 0) = false := by simp; omega
      clear c
      go_wp2
      · go_ret
        rw [HS.out]
        exact ⟨ret_int (HM.out.1 (by assumption)), H2.out, H3.out⟩
      · go_ret
        rw [HS.out]
        exact ⟨ret_int (HM.out.2 (by assumption)), H2.out, H3.out⟩
    · have HS : Hid _ := modS_low (bad := bad) (a := x) y0
      have y1 : y ≤ 0 := by omega
      clear c y0
      go_wp2
      go_ret
      rw [HS.out]
      exact ⟨rfl, H2.out.set true, H3.out.setCell _⟩
end Go.Proofs.YtoadcnhcfodkgaaGreatDoor
