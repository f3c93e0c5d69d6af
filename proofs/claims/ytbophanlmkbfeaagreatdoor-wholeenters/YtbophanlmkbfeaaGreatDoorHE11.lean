/-
A part.
A part.
A part.
A part.
A part.
A part.
A part.
A part.
-/
import Derived.Handy
import Derived.Test.YtbophanlmkbfeaaGreatDoorHE02
import Derived.Test.YtbophanlmkbfeaaGreatDoorHE10
namespace Go.Proofs.YtbophanlmkbfeaaGreatDoor
open Go.RowKit
set_option maxHeartbeats 400000 in
theorem Add_any (b : Nat) (bad : Bool) (x y : Int) (w : World) (hw : Fl b bad w) :
    Calls Tryz.prog 103 #[.pointer (some ⟨b, 0, none⟩), .int .i64 x, .int .i64 y] w fun e w' => e = .returned (.int .i64 (addS bad x y).1) ∧ Fl b (addS bad x y).2 w' ∧ Kept b w w' := by
 go_enter Tryz.func103, Tryz.ntmps103
 go_wp2_with fail
 refine (takes2 b bad x y w hw).mono ?_
 rintro e w1 ⟨rfl, h2, h3⟩
 cases c : tk bad [x, y]
 ·rw [c] at h2
  have HS : Hid _ := addS_no c
  have H2 : Hid _ := h2
  have H3 : Hid _ := h3
  clear c h2 h3 hw
  go_wp2
  go_ret
  rw [HS.out]
  exact ⟨rfl, H2.out, H3.out⟩
 ·rw [c] at h2
  have HS : Hid _ := addS_yes c
  have H3 : Hid _ := h3
  clear h3
  have ht := tk_two c
  have hx := numB_bd ht.2.1
  have hy := numB_bd ht.2.2
  clear c hw ht
  go_wp2_with fail
  refine (gives_any b _ _ h2).mono ?_
  rintro e w2 ⟨rfl, h4, h5⟩
  go_wp2
  go_ret
  rw [HS.out]
  rw [gv_wrap (x + y) (by omega)] at h4 ⊢
  exact ⟨rfl, h4, H3.out.trans h5⟩
set_option maxHeartbeats 400000 in
theorem Sub_any (b : Nat) (bad : Bool) (x y : Int) (w : World) (hw : Fl b bad w) :
    Calls Tryz.prog 91 #[.pointer (some ⟨b, 0, none⟩), .int .i64 x, .int .i64 y] w fun e w' => e = .returned (.int .i64 (subS bad x y).1) ∧ Fl b (subS bad x y).2 w' ∧ Kept b w w' := by
 go_enter Tryz.func91, Tryz.ntmps91
 go_wp2_with fail
 refine (takes2 b bad x y w hw).mono ?_
 rintro e w1 ⟨rfl, h2, h3⟩
 cases c : tk bad [x, y]
 ·rw [c] at h2
  have HS : Hid _ := subS_no c
  have H2 : Hid _ := h2
  have H3 : Hid _ := h3
  clear c h2 h3 hw
  go_wp2
  go_ret
  rw [HS.out]
  exact ⟨rfl, H2.out, H3.out⟩
 ·rw [c] at h2
  have HS : Hid _ := subS_yes c
  have H3 : Hid _ := h3
  clear h3
  have ht := tk_two c
  have hx := numB_bd ht.2.1
  have hy := numB_bd ht.2.2
  clear c hw ht
  go_wp2_with fail
  refine (gives_any b _ _ h2).mono ?_
  rintro e w2 ⟨rfl, h4, h5⟩
  go_wp2
  go_ret
  rw [HS.out]
  rw [gv_wrap (x - y) (by omega)] at h4 ⊢
  exact ⟨rfl, h4, H3.out.trans h5⟩
set_option maxHeartbeats 400000 in
theorem Mul_any (b : Nat) (bad : Bool) (x y : Int) (w : World) (hw : Fl b bad w) :
    Calls Tryz.prog 96 #[.pointer (some ⟨b, 0, none⟩), .int .i64 x, .int .i64 y] w fun e w' => e = .returned (.int .i64 (mulS bad x y).1) ∧ Fl b (mulS bad x y).2 w' ∧ Kept b w w' := by
 go_enter Tryz.func96, Tryz.ntmps96
 go_wp2_with fail
 refine (takes2 b bad x y w hw).mono ?_
 rintro e w1 ⟨rfl, h2, h3⟩
 cases c : tk bad [x, y]
 ·rw [c] at h2
  have HS : Hid _ := mulS_no c
  have H2 : Hid _ := h2
  have H3 : Hid _ := h3
  clear c h2 h3 hw
  go_wp2
  go_ret
  rw [HS.out]
  exact ⟨rfl, H2.out, H3.out⟩
 ·rw [c] at h2
  have HS : Hid _ := mulS_yes c
  have H2 : Hid _ := h2
  have H3 : Hid _ := h3
  have ht := tk_two c
  have hx := sz_bd ht.2.1
  have hy := sz_bd ht.2.2
  have HX : Hid _ := ht.2.1
  have HY : Hid _ := ht.2.2
  clear c hw ht h2 h3
  go_wp2_with fail
  refine (size_any x _ HX.out).mono ?_
  rintro e w2 ⟨rfl, rfl⟩
  go_wp2_with fail
  refine (size_any y _ HY.out).mono ?_
  rintro e w2 ⟨rfl, rfl⟩
  go_wp2_with fail
  refine (product_any (sz x) (sz y) _ hx.1 (by omega) hy.1 (by omega)).mono ?_
  rintro e w3 ⟨rfl, h4⟩
  have H4 : Hid _ := h4
  clear h4
  go_wp2_with fail
  refine (shifted_any (sz x * sz y) _ (sz_mul_bd HX.out HY.out).1 (by have := sz_mul_bd HX.out HY.out; omega)).mono ?_
  rintro e w4 ⟨rfl, h5⟩
  have hf := ((H2.out.below H4.out).alloc _).below h5
  have HK : Hid (Kept b w w4) := ((H3.out.trans (Kept.of_below H4.out)).trans (Kept.alloc b _ _)).trans (Kept.of_below h5)
  have HB : Hid _ := sat_bd ((sz x * sz y + 549755813888) / 1099511627776) (by have := sz_mul_bd HX.out HY.out; omega)
  clear h5
  go_wp2_with fail
  refine (signed_any b _ _ _ hf HB.out.1 HB.out.2).mono ?_
  rintro e w5 ⟨rfl, h6, h7⟩
  go_wp2
  go_ret
  rw [HS.out]
  rw [sat_out] at h6 ⊢
  exact ⟨rfl, h6, HK.out.trans h7⟩
set_option maxHeartbeats 400000 in
theorem Part_any (b : Nat) (bad : Bool) (x p q : Int) (w : World) (hw : Fl b bad w) :
    Calls Tryz.prog 120 #[.pointer (some ⟨b, 0, none⟩), .int .i64 x, .int .i64 p, .int .i64 q] w fun e w' => e = .returned (.int .i64 (partS bad x p q).1) ∧ Fl b (partS bad x p q).2 w' ∧ Kept b w w' := by
 go_enter Tryz.func120, Tryz.ntmps120
 go_wp2_with fail
 refine (takes3 b bad x p q w hw).mono ?_
 rintro e w1 ⟨rfl, h2, h3⟩
 cases c : tk bad [x, p, q]
 ·rw [c] at h2
  have HS : Hid _ := partS_no c
  have H2 : Hid _ := h2
  have H3 : Hid _ := h3
  clear c h2 h3 hw
  go_wp2
  go_ret
  rw [HS.out]
  exact ⟨rfl, H2.out, H3.out⟩
 ·rw [c] at h2
  have H2 : Hid _ := h2
  have H3 : Hid _ := h3
  clear hw h2 h3
  by_cases q0 : q = 0
  ·subst q0
   have HS : Hid _ := partS_zero (bad := bad) (a := x) (p := p)
   clear c
   go_wp2_with fail
   refine (Fail_any b _ _ H2.out).mono ?_
   rintro e w2 ⟨rfl, h4, h5⟩
   go_wp2
   go_ret
   rw [HS.out]
   exact ⟨rfl, h4, H3.out.trans h5⟩
  ·have q1 : (q == 0) = false := by simpa using q0
   have q2 : (q != 0) = true := by simpa using q0
   have HS : Hid _ := partS_yes c q2
   have ht := tk_three c
   have hx := sz_bd ht.2.1
   have hp := sz_bd ht.2.2.1
   have hq := sz_bd ht.2.2.2
   have hq1 := sz_pos q2
   have HX : Hid _ := ht.2.1
   have HP : Hid _ := ht.2.2.1
   have HQ : Hid _ := ht.2.2.2
   clear c ht q0 q2
   go_wp2_with fail
   refine (size_any x _ HX.out).mono ?_
   rintro e w2 ⟨rfl, rfl⟩
   go_wp2_with fail
   refine (size_any p _ HP.out).mono ?_
   rintro e w2 ⟨rfl, rfl⟩
   go_wp2_with fail
   refine (product_any (sz x) (sz p) _ hx.1 (by omega) hp.1 (by omega)).mono ?_
   rintro e w3 ⟨rfl, h4⟩
   have H4 : Hid _ := h4
   clear h4
   go_wp2_with fail
   refine (size_any q _ HQ.out).mono ?_
   rintro e w2 ⟨rfl, rfl⟩
   go_wp2_with fail
   refine (quotient_any (sz x * sz p) (sz q) _ (sz_mul_bd HX.out HP.out).1 (sz_mul_bd HX.out HP.out).2 hq1 hq.2).mono ?_
   rintro e w4 ⟨rfl, h5⟩
   have hf := (H2.out.below H4.out).below h5
   have HK : Hid (Kept b w w4) := (H3.out.trans (Kept.of_below H4.out)).trans (Kept.of_below h5)
   have HB : Hid _ := sat_bd (rnd (sz x * sz p) (sz q)) (rnd_nonneg (sz_mul_bd HX.out HP.out).1 hq1)
   clear h5
   go_wp2_with fail
   refine (signed_any b _ _ _ hf HB.out.1 HB.out.2).mono ?_
   rintro e w5 ⟨rfl, h6, h7⟩
   go_wp2
   go_ret
   rw [HS.out]
   rw [sat_out] at h6 ⊢
   exact ⟨rfl, h6, HK.out.trans h7⟩
set_option maxHeartbeats 400000 in
theorem Div_any (b : Nat) (bad : Bool) (x y : Int) (w : World) (hw : Fl b bad w) :
    Calls Tryz.prog 159 #[.pointer (some ⟨b, 0, none⟩), .int .i64 x, .int .i64 y] w fun e w' => e = .returned (.int .i64 (divS bad x y).1) ∧ Fl b (divS bad x y).2 w' ∧ Kept b w w' := by
 go_enter Tryz.func159, Tryz.ntmps159
 go_wp2_with fail
 refine (Part_any b bad x 1099511627776 y w hw).mono ?_
 rintro e w1 ⟨rfl, h2, h3⟩
 go_wp2
 go_ret
 exact ⟨rfl, h2, h3⟩
set_option maxHeartbeats 400000 in
theorem Sqrt_any (b : Nat) (bad : Bool) (x : Int) (w : World) (hw : Fl b bad w) :
    Calls Tryz.prog 158 #[.pointer (some ⟨b, 0, none⟩), .int .i64 x] w fun e w' => e = .returned (.int .i64 (sqrtS bad x).1) ∧ Fl b (sqrtS bad x).2 w' ∧ Kept b w w' := by
 go_enter Tryz.func158, Tryz.ntmps158
 go_wp2_with fail
 refine (takes1 b bad x w hw).mono ?_
 rintro e w1 ⟨rfl, h2, h3⟩
 cases c : tk bad [x]
 ·rw [c] at h2
  have HS : Hid _ := sqrtS_no c
  have H2 : Hid _ := h2
  have H3 : Hid _ := h3
  clear c h2 h3 hw
  go_wp2
  go_ret
  rw [HS.out]
  exact ⟨rfl, H2.out, H3.out⟩
 ·rw [c] at h2
  have H2 : Hid _ := h2
  have H3 : Hid _ := h3
  clear hw h2 h3
  by_cases x0 : 0 ≤ x
  ·have HS : Hid _ := sqrtS_yes c x0
   have ht := tk_one c
   have hx := sz_bd ht.2
   have HX : Hid _ := ht.2
   have HE : Hid (sz x = x) := sz_nonneg x0
   clear c ht
   go_wp2_with fail
   refine (size_any x _ HX.out).mono ?_
   rintro e w2 ⟨rfl, rfl⟩
   rw [HE.out] at hx ⊢
   go_wp2_with fail
   refine (product_any x 1099511627776 _ x0 (by omega) (by omega) (by omega)).mono ?_
   rintro e w3 ⟨rfl, h4⟩
   have H4 : Hid _ := h4
   clear h4
   go_wp2_with fail
   refine (root_any (x * 1099511627776) _).mono ?_
   rintro e w4 ⟨rfl, h5⟩
   have hf := (H2.out.below H4.out).below h5
   have HK : Hid (Kept b w w4) := (H3.out.trans (Kept.of_below H4.out)).trans (Kept.of_below h5)
   have HB : Hid _ := isq_bd (x * 1099511627776) (by omega) (by omega)
   clear h5
   go_wp2_with fail
   refine (signed_any b _ _ _ hf HB.out.1 HB.out.2).mono ?_
   rintro e w5 ⟨rfl, h6, h7⟩
   go_wp2
   go_ret
   rw [HS.out]
   exact ⟨rfl, h6, HK.out.trans h7⟩
  ·have HS : Hid _ := sqrtS_low (bad := bad) x0
   have x1 : x < 0 := by omega
   clear c x0
   go_wp2_with fail
   refine (Fail_any b _ _ H2.out).mono ?_
   rintro e w2 ⟨rfl, h4, h5⟩
   go_wp2
   go_ret
   rw [HS.out]
   exact ⟨rfl, h4, H3.out.trans h5⟩
set_option maxHeartbeats 400000 in
theorem Mod_any (b : Nat) (bad : Bool) (x y : Int) (w : World) (hw : Fl b bad w) :
    Calls Tryz.prog 160 #[.pointer (some ⟨b, 0, none⟩), .int .i64 x, .int .i64 y] w fun e w' => e = .returned (.int .i64 (modS bad x y).1) ∧ Fl b (modS bad x y).2 w' ∧ Kept b w w' := by
 go_enter Tryz.func160, Tryz.ntmps160
 go_wp2_with fail
 refine (takes2 b bad x y w hw).mono ?_
 rintro e w1 ⟨rfl, h2, h3⟩
 cases c : tk bad [x, y]
 ·rw [c] at h2
  have HS : Hid _ := modS_no c
  have H2 : Hid _ := h2
  have H3 : Hid _ := h3
  clear c h2 h3 hw
  go_wp2
  go_ret
  rw [HS.out]
  exact ⟨rfl, H2.out, H3.out⟩
 ·rw [c] at h2
  have H2 : Hid _ := h2
  have H3 : Hid _ := h3
  have ht := tk_two c
  have hx := numB_bd ht.2.1
  have hy := numB_bd ht.2.2
  clear hw h2 h3 ht
  by_cases y0 : 0 < y
  ·have HS : Hid _ := modS_yes c y0
   have HM : Hid _ := tmod_low x y y0
   have hb := tmod_bd x y y0
   have d0 : (y == 0) = false := by simp; omega
   clear c
   go_wp2
   ·go_ret
    rw [HS.out]
    exact ⟨ret_int (HM.out.1 (by assumption)), H2.out, H3.out⟩
   ·go_ret
    rw [HS.out]
    exact ⟨ret_int (HM.out.2 (by assumption)), H2.out, H3.out⟩
  ·have HS : Hid _ := modS_low (bad := bad) (a := x) y0
   have y1 : y ≤ 0 := by omega
   clear c y0
   go_wp2_with fail
   refine (Fail_any b _ _ H2.out).mono ?_
   rintro e w2 ⟨rfl, h4, h5⟩
   go_wp2
   go_ret
   rw [HS.out]
   exact ⟨rfl, h4, H3.out.trans h5⟩
end Go.Proofs.YtbophanlmkbfeaaGreatDoor
namespace Go.Proofs.YtbophanlmkbfeaaGreatDoor
open Go.RowKit
set_option maxHeartbeats 400000 in
theorem square_any (x : Int) (w : World) (h : numB x = true) :
    Calls Tryz.prog 172 #[.int .i64 x] w fun e w' => e = .returned (.agg #[.int .u64 (hi64 (x * x)), .int .u64 (lo64 (x * x))]) ∧ Below w.heap.size w w' := by
 have hx := sz_bd h
 have HX : Hid _ := h
 have HE : Hid (sz x * sz x = x * x) := sz_sq x
 clear h
 go_enter Tryz.func172, Tryz.ntmps172
 go_wp2_with fail
 refine (size_any x _ HX.out).mono ?_
 rintro e w1 ⟨rfl, rfl⟩
 go_wp2_with fail
 refine (size_any x _ HX.out).mono ?_
 rintro e w1 ⟨rfl, rfl⟩
 go_wp2_with fail
 refine (product_any (sz x) (sz x) _ hx.1 (by omega) hx.1 (by omega)).mono ?_
 rintro e w3 ⟨rfl, hb⟩
 rw [HE.out]
 have hd : Wd w.heap.size 0 w3 := (Wd_new w 208).below hb
 have HD : Hid _ := hd.put (x * x)
 have HQ : Hid _ := World.cell?_setCell_same w3 ⟨w.heap.size, 0, none⟩ (.int .u64 (hi64 (x * x))) hd.hi
 have HB : Hid (Below w.heap.size w w3) := ((Below.refl _ _).alloc (Nat.le_refl _) _).trans (hb.mono (by simp))
 have m1 := hd.hi
 have m2 := hd.lo
 have m3 := hd.fh
 have m4 := hd.fl
 clear hb hd
 go_wp2
 refine bodyPost_ret (v := .agg #[.int .u64 (hi64 (x * x)), .int .u64 (lo64 (x * x))]) (by simp [results, Tryz.results172, go_sem, HQ.out, HD.out.lo]) rfl ?_
 exact ⟨rfl, (HB.out.setCell (Nat.le_refl _) _).setCell (Nat.le_refl _) _⟩
set_option maxHeartbeats 400000 in
theorem Norm_any (b : Nat) (bad : Bool) (x y z : Int) (w : World) (hw : Fl b bad w) :
    Calls Tryz.prog 104 #[.pointer (some ⟨b, 0, none⟩), .int .i64 x, .int .i64 y, .int .i64 z] w fun e w' => e = .returned (.int .i64 (normS bad x y z).1) ∧ Fl b (normS bad x y z).2 w' ∧ Kept b w w' := by
 go_enter Tryz.func104, Tryz.ntmps104
 go_wp2_with fail
 refine (takes3 b bad x y z w hw).mono ?_
 rintro e w1 ⟨rfl, h2, h3⟩
 cases c : tk bad [x, y, z]
 ·rw [c] at h2
  have HS : Hid _ := normS_no c
  have H2 : Hid _ := h2
  have H3 : Hid _ := h3
  clear c h2 h3 hw
  go_wp2
  go_ret
  rw [HS.out]
  exact ⟨rfl, H2.out, H3.out⟩
 ·rw [c] at h2
  have H2 : Hid _ := h2
  have H3 : Hid _ := h3
  have HS : Hid _ := normS_yes c
  have ht := tk_three c
  have HX : Hid _ := ht.2.1
  have HY : Hid _ := ht.2.2.1
  have HZ : Hid _ := ht.2.2.2
  clear hw h2 h3 c ht
  go_wp2_with fail
  refine (square_any x _ HX.out).mono ?_
  rintro e w2 ⟨rfl, h4⟩
  have H4 : Hid _ := h4
  clear h4
  go_wp2_with fail
  refine (square_any y _ HY.out).mono ?_
  rintro e w3 ⟨rfl, h5⟩
  have H5 : Hid _ := h5
  clear h5
  go_wp2_with fail
  refine (plus_any (x * x) (y * y) _ (sq_bd HX.out).1 (sq_bd HY.out).1 (by have := sq_bd HX.out; have := sq_bd HY.out; omega)).mono ?_
  rintro e w4 ⟨rfl, h6⟩
  have H6 : Hid _ := h6
  clear h6
  go_wp2_with fail
  refine (square_any z _ HZ.out).mono ?_
  rintro e w5 ⟨rfl, h7⟩
  have H7 : Hid _ := h7
  clear h7
  go_wp2_with fail
  refine (plus_any (x * x + y * y) (z * z) _ (by have := sq_bd HX.out; have := sq_bd HY.out; omega) (sq_bd HZ.out).1 (by have := sq_bd HX.out; have := sq_bd HY.out; have := sq_bd HZ.out; omega)).mono ?_
  rintro e w6 ⟨rfl, h8⟩
  have H8 : Hid _ := h8
  clear h8
  have HN : Hid (0 ≤ x * x + y * y + z * z ∧ x * x + y * y + z * z < 85070591730234615865843651857942052864) := by show _ ∧ _; have := sq_bd HX.out; have := sq_bd HY.out; have := sq_bd HZ.out; omega
  go_wp2_with fail
  refine (root_any (x * x + y * y + z * z) _).mono ?_
  rintro e w7 ⟨rfl, h9⟩
  have hf : Fl b false w7 := ((((((H2.out.below H4.out).below H5.out).below H6.out).below H7.out).below H8.out).alloc _).below h9
  have HK : Hid (Kept b w w7) := ((((((H3.out.trans (Kept.of_below H4.out)).trans (Kept.of_below H5.out)).trans (Kept.of_below H6.out)).trans (Kept.of_below H7.out)).trans (Kept.of_below H8.out)).trans (Kept.alloc b _ _)).trans (Kept.of_below h9)
  have HB : Hid _ := isq_bd _ HN.out.1 HN.out.2
  clear h9
  go_wp2_with fail
  refine (signed_any b _ _ _ hf HB.out.1 HB.out.2).mono ?_
  rintro e w8 ⟨rfl, h10, h11⟩
  go_wp2
  go_ret
  rw [HS.out]
  exact ⟨rfl, h10, HK.out.trans h11⟩
end Go.Proofs.YtbophanlmkbfeaaGreatDoor
namespace Go.Proofs.YtbophanlmkbfeaaGreatDoor
open Go.RowKit
abbrev uI : Value := unk .i64
def rI (n : Nat) : Value := .agg ⟨List.replicate n uI⟩
abbrev sDri : Value := .agg ⟨unkB :: List.replicate 7 uI⟩
def nq (τ : Nat → Int) : Prop := (normS false (normS false (τ 0) (τ 1) (τ 2)).1 (τ 3) 0).2 = false ∧ (normS false (τ 0) (τ 1) (τ 2)).2 = false ∧ (normS false (normS false (τ 0) (τ 1) (τ 2)).1 (τ 3) 0).1 - 1099511627776 ≤ 16 ∧ -16 ≤ (normS false (normS false (τ 0) (τ 1) (τ 2)).1 (τ 3) 0).1 - 1099511627776 ∧ ∀ i < 4, -2199023255552 ≤ τ i ∧ τ i ≤ 2199023255552
theorem nq_one : ∃ τ, nq τ := ⟨fun i => if i = 3 then 1099511627776 else 0, by
 unfold nq
 refine ⟨by decide +kernel, by decide +kernel, by decide +kernel, by decide +kernel, fun i _ => ?_⟩
 dsimp only
 split <;> omega⟩
theorem xmixA : Tryz.prog.follows .mixedOrders = true := by kernel_rfl
theorem op_of {P : Program} {f : Nat} {A R : Type} {d : Dl A} {g : Bool → A → R × Bool} {c : Dc R} (h : FlowOk P f d g c) {sa : List Value} {sr fb : Value} (hd : ∀ rest, All2 (G2 (fun _ => 0)) sa rest → ∃ x, d.enc x = rest) (hc : ∀ τ y, G2 τ sr (c.enc y)) (hst : ∀ x, (g true x).2 = true) (hfb : ∀ τ bad x, G0 τ fb (.bool (g bad x).2)) : ∃ g', FOp P nq f sa sr fb g' := by
 have key : ∀ (x : Bool × List Value), ∃ y : Value × Bool, All2 (G2 (fun _ => 0)) sa x.2 → (∀ b w, GW w → 1 < b → Fl b x.1 w → Calls P f (ptr b :: x.2).toArray w fun e w' => e = .returned y.1 ∧ Fl b y.2 w' ∧ Kept b w w') ∧ (x.1 = true → y.2 = true) ∧
  ∃ τ', G0 τ' fb (.bool y.2) ∧ G2 τ' sr y.1 ∧ (y.2 = true ∨ nq τ') := by
  rintro ⟨bad, rest⟩
  by_cases hx : All2 (G2 (fun _ => 0)) sa rest
  ·obtain ⟨x, rfl⟩ := hd rest hx
   obtain ⟨τ, hτ⟩ := nq_one
   exact ⟨(c.enc (g bad x).1, (g bad x).2), fun _ => ⟨fun b w hg h1 hw => h b bad x w hg h1 hw, (fun e => by dsimp only at e ⊢; rw [e]; exact hst x), τ, hfb τ bad x, hc τ _, .inr hτ⟩⟩
  ·exact ⟨(undef, false), fun e => absurd e hx⟩
 exact ⟨fun bad rest => Classical.choose (key (bad, rest)), fun bad rest hr => Classical.choose_spec (key (bad, rest)) hr⟩
theorem d1 {τ : Nat → Int} (rest : List Value) (h : All2 (G2 τ) [uI] rest) : ∃ x, (lone' cI).enc x = rest := by
 match rest, h with
 | [a], ⟨⟨x, e⟩, _⟩ => exact ⟨x, by rw [e]; rfl⟩
theorem d2 {τ : Nat → Int} (rest : List Value) (h : All2 (G2 τ) [uI, uI] rest) : ∃ x, (then' cI (lone' cI)).enc x = rest := by
 match rest, h with
 | [a, b], ⟨⟨x, e⟩, ⟨y, f⟩, _⟩ => exact ⟨(x, y), by rw [e, f]; rfl⟩
theorem d3 {τ : Nat → Int} (rest : List Value) (h : All2 (G2 τ) [uI, uI, uI] rest) : ∃ x, (then' cI (then' cI (lone' cI))).enc x = rest := by
 match rest, h with
 | [a, b, c], ⟨⟨x, e⟩, ⟨y, f⟩, ⟨z, g⟩, _⟩ => exact ⟨(x, y, z), by rw [e, f, g]; rfl⟩
theorem cIg (τ : Nat → Int) (y : Int) : G2 τ uI (cI.enc y) := ⟨y, rfl⟩
theorem fbg (τ : Nat → Int) (b : Bool) : G0 τ unkB (.bool b) := ⟨b, rfl⟩
def tAdd : ACt Tryz.prog nq := rowF false (go_of Tryz.func103 (by kernel_rfl) (by kernel_rfl)) (op_of (f := 103) (d := then' cI (lone' cI)) (g := fun bad x => addS bad x.1 x.2) (c := cI) (fun b bad x w _ _ hw => Add_any b bad x.1 x.2 w hw) d2 cIg (fun x => by rw [addS_no (show tk true _ = false from rfl)]) (fun τ _ _ => fbg τ _)) (by decide +kernel)
def tSub : ACt Tryz.prog nq := rowF false (go_of Tryz.func91 (by kernel_rfl) (by kernel_rfl)) (op_of (f := 91) (d := then' cI (lone' cI)) (g := fun bad x => subS bad x.1 x.2) (c := cI) (fun b bad x w _ _ hw => Sub_any b bad x.1 x.2 w hw) d2 cIg (fun x => by rw [subS_no (show tk true _ = false from rfl)]) (fun τ _ _ => fbg τ _)) (by decide +kernel)
def tMul : ACt Tryz.prog nq := rowF false (go_of Tryz.func96 (by kernel_rfl) (by kernel_rfl)) (op_of (f := 96) (d := then' cI (lone' cI)) (g := fun bad x => mulS bad x.1 x.2) (c := cI) (fun b bad x w _ _ hw => Mul_any b bad x.1 x.2 w hw) d2 cIg (fun x => by rw [mulS_no (show tk true _ = false from rfl)]) (fun τ _ _ => fbg τ _)) (by decide +kernel)
def tDiv : ACt Tryz.prog nq := rowF false (go_of Tryz.func159 (by kernel_rfl) (by kernel_rfl)) (op_of (f := 159) (d := then' cI (lone' cI)) (g := fun bad x => divS bad x.1 x.2) (c := cI) (fun b bad x w _ _ hw => Div_any b bad x.1 x.2 w hw) d2 cIg (fun x => by show (divS true x.1 x.2).2 = true; unfold divS; rw [partS_no (show tk true _ = false from rfl)]) (fun τ _ _ => fbg τ _)) (by decide +kernel)
def tMod : ACt Tryz.prog nq := rowF false (go_of Tryz.func160 (by kernel_rfl) (by kernel_rfl)) (op_of (f := 160) (d := then' cI (lone' cI)) (g := fun bad x => modS bad x.1 x.2) (c := cI) (fun b bad x w _ _ hw => Mod_any b bad x.1 x.2 w hw) d2 cIg (fun x => by rw [modS_no (show tk true _ = false from rfl)]) (fun τ _ _ => fbg τ _)) (by decide +kernel)
def tPart : ACt Tryz.prog nq := rowF false (go_of Tryz.func120 (by kernel_rfl) (by kernel_rfl)) (op_of (f := 120) (d := then' cI (then' cI (lone' cI))) (g := fun bad x => partS bad x.1 x.2.1 x.2.2) (c := cI) (fun b bad x w _ _ hw => Part_any b bad x.1 x.2.1 x.2.2 w hw) d3 cIg (fun x => by rw [partS_no (show tk true _ = false from rfl)]) (fun τ _ _ => fbg τ _)) (by decide +kernel)
def tNorm : ACt Tryz.prog nq := rowF false (go_of Tryz.func104 (by kernel_rfl) (by kernel_rfl)) (op_of (f := 104) (d := then' cI (then' cI (lone' cI))) (g := fun bad x => normS bad x.1 x.2.1 x.2.2) (c := cI) (fun b bad x w _ _ hw => Norm_any b bad x.1 x.2.1 x.2.2 w hw) d3 cIg (fun x => by rw [normS_no (show tk true _ = false from rfl)]) (fun τ _ _ => fbg τ _)) (by decide +kernel)
def tSqrt : ACt Tryz.prog nq := rowF false (go_of Tryz.func158 (by kernel_rfl) (by kernel_rfl)) (op_of (f := 158) (d := lone' cI) (g := fun bad x => sqrtS bad x) (c := cI) (fun b bad x w _ _ hw => Sqrt_any b bad x w hw) d1 cIg (fun x => by rw [sqrtS_no (show tk true _ = false from rfl)]) (fun τ _ _ => fbg τ _)) (by decide +kernel)
def tFail : ACt Tryz.prog nq := rowF (fb := .bool true) false (go_of Tryz.func90 (by kernel_rfl) (by kernel_rfl)) (op_of (f := 90) (sa := []) (sr := undef) (d := none') (g := fun _ _ => ((), true)) (c := cU) (fun b bad _ w _ _ hw => Fail_any b bad w hw) (fun rest h => by match rest, h with | [], _ => exact ⟨(), rfl⟩) (fun _ _ => real2_same rfl) (fun _ => rfl) (fun _ _ _ => ⟨rfl, rfl⟩)) (by decide +kernel)
end Go.Proofs.YtbophanlmkbfeaaGreatDoor
namespace Go.Proofs.YtbophanlmkbfeaaGreatDoor
open Go.RowKit
def t4F (u0 u1 u2 u3 : Int) : Nat → Int
 | 0 => u0
 | 1 => u1
 | 2 => u2
 | _ => u3
theorem unit_nq {u0 u1 u2 u3 : Int} (U : U4 u0 u1 u2 u3) : nq (t4F u0 u1 u2 u3) := by
 obtain ⟨N, e1, n0, n1, n2⟩ := norm_near U.a0 U.a1 U.a2 (by decide)
 have s0 := sq_nonneg u0
 have s1 := sq_nonneg u1
 have s2 := sq_nonneg u2
 have s3 := sq_nonneg u3
 have hi := U.len.hi
 have lo := U.len.lo
 have hN : N ≤ 1099511627783 := by
  by_cases c : N ≤ 1099511627783
  ·exact c
  ·have := sq_mono (by omega : (0 : Int) ≤ 1099511627784) (by omega : 1099511627784 ≤ N)
   omega
 obtain ⟨n, e2, m0, m1, m2⟩ := norm_near (t0 := N) (t1 := u3) (t2 := 0) (K := 2199023255552) ⟨by omega, by omega⟩ ⟨by have := U.a3.lo; omega, by have := U.a3.hi; omega⟩ ⟨by omega, by omega⟩ (by decide)
 have e1 : normS false u0 u1 u2 = (N, false) := e1
 have e2 : normS false N u3 0 = (n, false) := e2
 have hn : n ≤ 1099511627783 := by
  by_cases c : n ≤ 1099511627783
  ·exact c
  ·have := sq_mono (by omega : (0 : Int) ≤ 1099511627784) (by omega : 1099511627784 ≤ n)
   omega
 have hn2 : 1099511627766 ≤ n := by
  by_cases c : 1099511627766 ≤ n
  ·exact c
  ·have := sq_mono (by omega : (0 : Int) ≤ n + 1) (by omega : n + 1 ≤ 1099511627766)
   have hx : (N + 1) * (N + 1) = N * N + 2 * N + 1 := by grind
   omega
 unfold nq
 refine ⟨?_, ?_, ?_, ?_, fun i _ => ?_⟩
 ·show (normS false (normS false u0 u1 u2).1 u3 0).2 = false
  rw [e1, e2]
 ·show (normS false u0 u1 u2).2 = false
  rw [e1]
 ·show (normS false (normS false u0 u1 u2).1 u3 0).1 - 1099511627776 ≤ 16
  rw [e1, e2]
  show n - 1099511627776 ≤ 16
  omega
 ·show -16 ≤ (normS false (normS false u0 u1 u2).1 u3 0).1 - 1099511627776
  rw [e1, e2]
  show -16 ≤ n - 1099511627776
  omega
 ·have a0 := U.a0
  have a1 := U.a1
  have a2 := U.a2
  have a3 := U.a3
  match i with
  | 0 => exact ⟨by have := a0.lo; show _ ≤ u0; omega, by have := a0.hi; show u0 ≤ _; omega⟩
  | 1 => exact ⟨by have := a1.lo; show _ ≤ u1; omega, by have := a1.hi; show u1 ≤ _; omega⟩
  | 2 => exact ⟨by have := a2.lo; show _ ≤ u2; omega, by have := a2.hi; show u2 ≤ _; omega⟩
  | _ + 3 => exact ⟨by have := a3.lo; show _ ≤ u3; omega, by have := a3.hi; show u3 ≤ _; omega⟩
set_option maxHeartbeats 400000 in
theorem uminus_any (a : Int) (w : World) :
    Calls Tryz.prog 218 #[.int .i64 a] w fun e w' => e = .returned (.int .i64 (minusS a)) ∧ Below w.heap.size w w' := by
 by_cases h1 : a < -4611686018427387904
 ·have HS : Hid _ := minusS_lo h1
  go_enter Tryz.func218, Tryz.ntmps218
  go_wp2
  go_ret
  rw [HS.out]
  exact ⟨rfl, Below.refl _ _⟩
 ·by_cases h2 : 4611686018427387904 < a
  ·have HS : Hid _ := minusS_hi h2
   go_enter Tryz.func218, Tryz.ntmps218
   go_wp2
   go_ret
   rw [HS.out]
   exact ⟨rfl, Below.refl _ _⟩
  ·have HS : Hid _ := minusS_in (by omega) (by omega : a ≤ 4611686018427387904)
   go_enter Tryz.func218, Tryz.ntmps218
   go_wp2
   go_ret
   rw [HS.out]
   exact ⟨rfl, Below.refl _ _⟩
def uMin : Ct Tryz.prog := pureCt Tryz.prog 218 (lone' cI) (fun x => minusS x) cI (go_of Tryz.func218 (by kernel_rfl) (by kernel_rfl)) (fun x w _ => uminus_any x w)
theorem uprt_fx : PureOk Tryz.prog 181 (lone' cV4) (fun x => uprightS x) cV4 := pure_sx (tbl := [uMin]) (dirty := fun _ => []) (n := 8) xmixA Tryz.func181 rfl (fun x Post => by
    refine Eq.trans (b := ?m) ?x (Eq.symm ?y)
    case y => unfold uprightS; simp only [← vif_le (K := PJ cV4 Post)]; exact rfl
    case x => kernel_rfl)
def uUpr : Ct Tryz.prog := pureCt Tryz.prog 181 (lone' cV4) (fun x => uprightS x) cV4 (go_of Tryz.func181 (by kernel_rfl) (by kernel_rfl)) uprt_fx
theorem uprd_fx : PureOk Tryz.prog 180 (lone' cV4) (fun x => partedS x) (two' cV3 cI) := pure_sx (tbl := []) (dirty := fun _ => []) (n := 8) xmixA Tryz.func180 rfl (fun x Post => by kernel_rfl)
def uPrt : Ct Tryz.prog := pureCt Tryz.prog 180 (lone' cV4) (fun x => partedS x) (two' cV3 cI) (go_of Tryz.func180 (by kernel_rfl) (by kernel_rfl)) uprd_fx
def uNrm : Ct Tryz.prog := flowCt Tryz.prog 104 (then' cI (then' cI (lone' cI))) (fun bad x => normS bad x.1 x.2.1 x.2.2) cI (go_of Tryz.func104 (by kernel_rfl) (by kernel_rfl)) (fun b bad x w _ _ hw => Norm_any b bad x.1 x.2.1 x.2.2 w hw)
def uDiv : Ct Tryz.prog := flowCt Tryz.prog 159 (then' cI (lone' cI)) (fun bad x => divS bad x.1 x.2) cI (go_of Tryz.func159 (by kernel_rfl) (by kernel_rfl)) (fun b bad x w _ _ hw => Div_any b bad x.1 x.2 w hw)
def uFai : Ct Tryz.prog := flowCt Tryz.prog 90 none' (fun _ _ => ((), true)) cU (go_of Tryz.func90 (by kernel_rfl) (by kernel_rfl)) (fun b bad _ w _ _ hw => Fail_any b bad w hw)
theorem uvn_fx : FlowOk Tryz.prog 53 (lone' cV3) (fun bad x => vNormS bad x) cI := flow_sx (tbl := [uNrm]) (dirty := fun _ => []) (n := 8) xmixA Tryz.func53 rfl (fun bad x Post => by kernel_rfl)
def uVno : Ct Tryz.prog := flowCt Tryz.prog 53 (lone' cV3) (fun bad x => vNormS bad x) cI (go_of Tryz.func53 (by kernel_rfl) (by kernel_rfl)) uvn_fx
theorem uUnit_fx : FlowOk Tryz.prog 111 (lone' cV4) (fun bad x => qUnitS bad x) cV4 := flow_sx (tbl := [uPrt, uVno, uNrm, uFai, uDiv, uUpr]) (dirty := fun _ => []) (n := 8) xmixA Tryz.func111 rfl (fun bad x Post => by
    refine Eq.trans (b := ?m) ?x (Eq.symm ?y)
    case y => unfold qUnitS; simp only [← vif_lt (K := PK cV4 Post)]; exact rfl
    case x => kernel_rfl)
def quS : Value := .agg ⟨[sym 0, sym 1, sym 2, sym 3]⟩
theorem v4_of (v : Value) (h : G2 (fun _ => 0) (rI 4) v) : ∃ q : V4, cV4.enc q = v := by
 obtain ⟨y, hy⟩ := cT_of 4 v h
 exact ⟨(y.1, y.2.1, y.2.2.1, y.2.2.2.1), hy⟩
theorem uUnit_op : ∃ g, FOp Tryz.prog nq 111 [rI 4] quS unkB g := by
 have key : ∀ (x : Bool × List Value), ∃ y : Value × Bool, All2 (G2 (fun _ => 0)) [rI 4] x.2 → (∀ b w, GW w → 1 < b → Fl b x.1 w → Calls Tryz.prog 111 (ptr b :: x.2).toArray w fun e w' => e = .returned y.1 ∧ Fl b y.2 w' ∧ Kept b w w') ∧ (x.1 = true → y.2 = true) ∧
  ∃ τ', G0 τ' unkB (.bool y.2) ∧ G2 τ' quS y.1 ∧ (y.2 = true ∨ nq τ') := by
  rintro ⟨bad, rest⟩
  by_cases hx : All2 (G2 (fun _ => 0)) [rI 4] rest
  ·match rest, hx with
   | [v], ⟨hv, _⟩ =>
   obtain ⟨q, rfl⟩ := v4_of v hv
   refine ⟨(cV4.enc (qUnitS bad q).1, (qUnitS bad q).2), fun _ => ⟨fun b w hg h1 hw => uUnit_fx b bad q w hg h1 hw, ?_, t4F (qUnitS bad q).1.1 (qUnitS bad q).1.2.1 (qUnitS bad q).1.2.2.1 (qUnitS bad q).1.2.2.2, ⟨_, rfl⟩, ⟨_, rfl, ⟨rfl, rfl, rfl, rfl, trivial⟩⟩, ?_⟩⟩
   ·rintro rfl
    dsimp only
    rw [qUnit_true]
   ·cases bad
    ·dsimp only
     rcases unit_math q with e | ⟨u0, u1, u2, u3, e, U⟩
     ·rw [e]; exact .inl rfl
     ·rw [e]; exact .inr (unit_nq U)
    ·dsimp only
     rw [qUnit_true]
     exact .inl rfl
  ·exact ⟨(undef, false), fun e => absurd e hx⟩
 exact ⟨fun bad rest => Classical.choose (key (bad, rest)), fun bad rest hr => Classical.choose_spec (key (bad, rest)) hr⟩
def tuUnit : ACt Tryz.prog nq := rowF true (go_of Tryz.func111 (by kernel_rfl) (by kernel_rfl)) uUnit_op (by decide +kernel)
end Go.Proofs.YtbophanlmkbfeaaGreatDoor
namespace Go.Proofs.YtbophanlmkbfeaaGreatDoor
open Go.RowKit
theorem vsound_op : ∃ g, FOp Tryz.prog nq 153 [rI 3] (rI 3) unkB g := flow_ax (tbl := []) (dirty := fun _ => []) (n := 8) nq_one xmixA Tryz.func153 rfl (by decide +kernel)
def tvsound : ACt Tryz.prog nq := rowF false (go_of Tryz.func153 (by kernel_rfl) (by kernel_rfl)) vsound_op (by decide +kernel)
theorem vAdd_op : ∃ g, FOp Tryz.prog nq 88 [rI 3, rI 3] (rI 3) unkB g := flow_ax (tbl := [tAdd, tvsound]) (dirty := fun _ => []) (n := 8) nq_one xmixA Tryz.func88 rfl (by decide +kernel)
def tvAdd : ACt Tryz.prog nq := rowF false (go_of Tryz.func88 (by kernel_rfl) (by kernel_rfl)) vAdd_op (by decide +kernel)
theorem vSub_op : ∃ g, FOp Tryz.prog nq 107 [rI 3, rI 3] (rI 3) unkB g := flow_ax (tbl := [tSub, tvsound]) (dirty := fun _ => []) (n := 8) nq_one xmixA Tryz.func107 rfl (by decide +kernel)
def tvSub : ACt Tryz.prog nq := rowF false (go_of Tryz.func107 (by kernel_rfl) (by kernel_rfl)) vSub_op (by decide +kernel)
theorem vScale_op : ∃ g, FOp Tryz.prog nq 108 [rI 3, uI] (rI 3) unkB g := flow_ax (tbl := [tMul, tvsound]) (dirty := fun _ => []) (n := 8) nq_one xmixA Tryz.func108 rfl (by decide +kernel)
def tvScale : ACt Tryz.prog nq := rowF false (go_of Tryz.func108 (by kernel_rfl) (by kernel_rfl)) vScale_op (by decide +kernel)
theorem vDot_op : ∃ g, FOp Tryz.prog nq 106 [rI 3, rI 3] (uI) unkB g := flow_ax (tbl := [tMul, tAdd]) (dirty := fun _ => []) (n := 8) nq_one xmixA Tryz.func106 rfl (by decide +kernel)
def tvDot : ACt Tryz.prog nq := rowF false (go_of Tryz.func106 (by kernel_rfl) (by kernel_rfl)) vDot_op (by decide +kernel)
theorem vCross_op : ∃ g, FOp Tryz.prog nq 215 [rI 3, rI 3] (rI 3) unkB g := flow_ax (tbl := [tMul, tSub, tvsound]) (dirty := fun _ => []) (n := 8) nq_one xmixA Tryz.func215 rfl (by decide +kernel)
def tvCross : ACt Tryz.prog nq := rowF false (go_of Tryz.func215 (by kernel_rfl) (by kernel_rfl)) vCross_op (by decide +kernel)
theorem vNorm_op : ∃ g, FOp Tryz.prog nq 53 [rI 3] (uI) unkB g := flow_ax (tbl := [tNorm]) (dirty := fun _ => []) (n := 8) nq_one xmixA Tryz.func53 rfl (by decide +kernel)
def tvNorm : ACt Tryz.prog nq := rowF false (go_of Tryz.func53 (by kernel_rfl) (by kernel_rfl)) vNorm_op (by decide +kernel)
theorem vUnit_op : ∃ g, FOp Tryz.prog nq 188 [rI 3] (rI 3) unkB g := flow_ax (tbl := [tvNorm, tFail, tDiv]) (dirty := fun _ => []) (n := 8) nq_one xmixA Tryz.func188 rfl (by decide +kernel)
def tvUnit : ACt Tryz.prog nq := rowF false (go_of Tryz.func188 (by kernel_rfl) (by kernel_rfl)) vUnit_op (by decide +kernel)
theorem vParts_op : ∃ g, FOp Tryz.prog nq 175 [rI 3, rI 3] (.tuple ⟨[uI, uI]⟩) unkB g := flow_ax (tbl := [tvUnit, tvNorm, tvCross, tvDot]) (dirty := fun _ => []) (n := 8) nq_one xmixA Tryz.func175 rfl (by decide +kernel)
def tvParts : ACt Tryz.prog nq := rowF false (go_of Tryz.func175 (by kernel_rfl) (by kernel_rfl)) vParts_op (by decide +kernel)
end Go.Proofs.YtbophanlmkbfeaaGreatDoor
namespace Go.Proofs.YtbophanlmkbfeaaGreatDoor
open Go.RowKit
theorem qminus_op : ∃ g, POp Tryz.prog 218 [uI] (uI) g := pure_ax (nq := nq) (tbl := []) (dirty := fun _ => []) (n := 8) xmixA Tryz.func218 rfl (by decide +kernel)
def tqminus : ACt Tryz.prog nq := rowP (go_of Tryz.func218 (by kernel_rfl) (by kernel_rfl)) qminus_op (by decide +kernel)
theorem qparted_op : ∃ g, POp Tryz.prog 180 [rI 4] (.tuple ⟨[rI 3, uI]⟩) g := pure_ax (nq := nq) (tbl := []) (dirty := fun _ => []) (n := 8) xmixA Tryz.func180 rfl (by decide +kernel)
def tqparted : ACt Tryz.prog nq := rowP (go_of Tryz.func180 (by kernel_rfl) (by kernel_rfl)) qparted_op (by decide +kernel)
theorem qjoined_op : ∃ g, POp Tryz.prog 217 [rI 3, uI] (rI 4) g := pure_ax (nq := nq) (tbl := []) (dirty := fun _ => []) (n := 8) xmixA Tryz.func217 rfl (by decide +kernel)
def tqjoined : ACt Tryz.prog nq := rowP (go_of Tryz.func217 (by kernel_rfl) (by kernel_rfl)) qjoined_op (by decide +kernel)
theorem qBack_op : ∃ g, POp Tryz.prog 183 [rI 4] (rI 4) g := pure_ax (nq := nq) (tbl := [tqminus]) (dirty := fun _ => []) (n := 8) xmixA Tryz.func183 rfl (by decide +kernel)
def tqBack : ACt Tryz.prog nq := rowP (go_of Tryz.func183 (by kernel_rfl) (by kernel_rfl)) qBack_op (by decide +kernel)
theorem qupright_op : ∃ g, POp Tryz.prog 181 [rI 4] (rI 4) g := pure_ax (nq := nq) (tbl := [tqminus]) (dirty := fun _ => []) (n := 8) xmixA Tryz.func181 rfl (by decide +kernel)
def tqupright : ACt Tryz.prog nq := rowP (go_of Tryz.func181 (by kernel_rfl) (by kernel_rfl)) qupright_op (by decide +kernel)
theorem qsoundq_op : ∃ g, FOp Tryz.prog nq 216 [rI 4] (rI 4) unkB g := flow_ax (tbl := []) (dirty := fun _ => []) (n := 8) nq_one xmixA Tryz.func216 rfl (by decide +kernel)
def tqsoundq : ACt Tryz.prog nq := rowF false (go_of Tryz.func216 (by kernel_rfl) (by kernel_rfl)) qsoundq_op (by decide +kernel)
theorem qsoundv_op : ∃ g, FOp Tryz.prog nq 219 [rI 3] (rI 3) unkB g := flow_ax (tbl := []) (dirty := fun _ => []) (n := 8) nq_one xmixA Tryz.func219 rfl (by decide +kernel)
def tqsoundv : ACt Tryz.prog nq := rowF false (go_of Tryz.func219 (by kernel_rfl) (by kernel_rfl)) qsoundv_op (by decide +kernel)
theorem qMul_op : ∃ g, FOp Tryz.prog nq 178 [rI 4, rI 4] (rI 4) unkB g := flow_ax (tbl := [tqparted, tvScale, tvAdd, tvCross, tvDot, tSub, tMul, tqjoined, tqsoundq]) (dirty := fun _ => []) (n := 8) nq_one xmixA Tryz.func178 rfl (by decide +kernel)
def tqMul : ACt Tryz.prog nq := rowF false (go_of Tryz.func178 (by kernel_rfl) (by kernel_rfl)) qMul_op (by decide +kernel)
theorem qUnit_op : ∃ g, FOp Tryz.prog nq 111 [rI 4] (rI 4) unkB g := flow_ax (tbl := [tqparted, tvNorm, tNorm, tFail, tDiv, tqupright]) (dirty := fun _ => []) (n := 8) nq_one xmixA Tryz.func111 rfl (by decide +kernel)
def tqUnit : ACt Tryz.prog nq := rowF false (go_of Tryz.func111 (by kernel_rfl) (by kernel_rfl)) qUnit_op (by decide +kernel)
theorem qFromRod_op : ∃ g, FOp Tryz.prog nq 179 [rI 3] (rI 4) unkB g := flow_ax (tbl := [tvDot, tAdd, tMul, tSub, tDiv, tqUnit]) (dirty := fun _ => []) (n := 8) nq_one xmixA Tryz.func179 rfl (by decide +kernel)
def tqFromRod : ACt Tryz.prog nq := rowF false (go_of Tryz.func179 (by kernel_rfl) (by kernel_rfl)) qFromRod_op (by decide +kernel)
theorem qTurn_op : ∃ g, FOp Tryz.prog nq 187 [rI 4, rI 3] (rI 3) unkB g := flow_ax (tbl := [tqparted, tvScale, tvCross, tvAdd, tvSub]) (dirty := fun _ => []) (n := 8) nq_one xmixA Tryz.func187 rfl (by decide +kernel)
def tqTurn : ACt Tryz.prog nq := rowF false (go_of Tryz.func187 (by kernel_rfl) (by kernel_rfl)) qTurn_op (by decide +kernel)
theorem qToRod_op : ∃ g, FOp Tryz.prog nq 182 [rI 4] (rI 3) unkB g := flow_ax (tbl := [tqupright, tAdd, tMul, tDiv, tqsoundv]) (dirty := fun _ => []) (n := 8) nq_one xmixA Tryz.func182 rfl (by decide +kernel)
def tqToRod : ACt Tryz.prog nq := rowF false (go_of Tryz.func182 (by kernel_rfl) (by kernel_rfl)) qToRod_op (by decide +kernel)
end Go.Proofs.YtbophanlmkbfeaaGreatDoor
namespace Go.Proofs.YtbophanlmkbfeaaGreatDoor
open Go.RowKit
theorem qbyW_op : ∃ g, FOp Tryz.prog nq 221 [rI 9, uI] (rI 4) unkB g := flow_ax (tbl := [tSub, tAdd]) (dirty := fun _ => []) (n := 8) nq_one xmixA Tryz.func221 rfl (by decide +kernel)
def tqbyW : ACt Tryz.prog nq := rowF false (go_of Tryz.func221 (by kernel_rfl) (by kernel_rfl)) qbyW_op (by decide +kernel)
theorem qbyX_op : ∃ g, FOp Tryz.prog nq 222 [rI 9] (rI 4) unkB g := flow_ax (tbl := [tSub, tAdd]) (dirty := fun _ => []) (n := 8) nq_one xmixA Tryz.func222 rfl (by decide +kernel)
def tqbyX : ACt Tryz.prog nq := rowF false (go_of Tryz.func222 (by kernel_rfl) (by kernel_rfl)) qbyX_op (by decide +kernel)
theorem qbyY_op : ∃ g, FOp Tryz.prog nq 223 [rI 9] (rI 4) unkB g := flow_ax (tbl := [tSub, tAdd]) (dirty := fun _ => []) (n := 8) nq_one xmixA Tryz.func223 rfl (by decide +kernel)
def tqbyY : ACt Tryz.prog nq := rowF false (go_of Tryz.func223 (by kernel_rfl) (by kernel_rfl)) qbyY_op (by decide +kernel)
theorem qbyZ_op : ∃ g, FOp Tryz.prog nq 224 [rI 9] (rI 4) unkB g := flow_ax (tbl := [tSub, tAdd]) (dirty := fun _ => []) (n := 8) nq_one xmixA Tryz.func224 rfl (by decide +kernel)
def tqbyZ : ACt Tryz.prog nq := rowF false (go_of Tryz.func224 (by kernel_rfl) (by kernel_rfl)) qbyZ_op (by decide +kernel)
theorem dApart_op : ∃ g, FOp Tryz.prog nq 105 [rI 3, rI 3] (unkB) unkB g := flow_ax (tbl := [tvParts]) (dirty := fun _ => []) (n := 8) nq_one xmixA Tryz.func105 rfl (by decide +kernel)
def tdApart : ACt Tryz.prog nq := rowF false (go_of Tryz.func105 (by kernel_rfl) (by kernel_rfl)) dApart_op (by decide +kernel)
theorem daxes_op : ∃ g, FOp Tryz.prog nq 201 [rI 6] (rI 9) unkB g := flow_ax (tbl := [tvUnit, tvCross]) (dirty := fun _ => []) (n := 8) nq_one xmixA Tryz.func201 rfl (by decide +kernel)
def tdaxes : ACt Tryz.prog nq := rowF false (go_of Tryz.func201 (by kernel_rfl) (by kernel_rfl)) daxes_op (by decide +kernel)
theorem dbetween_op : ∃ g, FOp Tryz.prog nq 200 [rI 9, rI 9] (rI 9) unkB g := flow_ax (tbl := [tMul, tAdd]) (dirty := fun _ => []) (n := 8) nq_one xmixA Tryz.func200 rfl (by decide +kernel)
def tdbetween : ACt Tryz.prog nq := rowF false (go_of Tryz.func200 (by kernel_rfl) (by kernel_rfl)) dbetween_op (by decide +kernel)
end Go.Proofs.YtbophanlmkbfeaaGreatDoor
namespace Go.Proofs.YtbophanlmkbfeaaGreatDoor
open Go.RowKit
theorem aless_op : ∃ g, FOp Tryz.prog nq 190 [uI, rI 6, rI 6, upto .i64 6] (uI) unkB g := flow_ax (tbl := [tMul, tSub]) (dirty := fun _ => []) (n := 8) nq_one xmixA Tryz.func190 rfl (by decide +kernel)
def taless : ACt Tryz.prog nq := rowF false (go_of Tryz.func190 (by kernel_rfl) (by kernel_rfl)) aless_op (by decide +kernel)
theorem asum_op : ∃ g, FOp Tryz.prog nq 193 [rI 6, rI 6, (.int .i64 6)] (uI) unkB g := flow_ax (tbl := [tMul, tAdd]) (dirty := fun _ => []) (n := 8) nq_one xmixA Tryz.func193 rfl (by decide +kernel)
def tasum : ACt Tryz.prog nq := rowF false (go_of Tryz.func193 (by kernel_rfl) (by kernel_rfl)) asum_op (by decide +kernel)
theorem afits_op : ∃ g, FOp Tryz.prog nq 189 [(.int .i64 6)] ((.bool true)) unkB g := flow_ax (tbl := [tFail]) (dirty := fun _ => []) (n := 8) nq_one xmixA Tryz.func189 rfl (by decide +kernel)
def tafits : ACt Tryz.prog nq := rowF false (go_of Tryz.func189 (by kernel_rfl) (by kernel_rfl)) afits_op (by decide +kernel)
theorem apivot_op : ∃ g, FOp Tryz.prog nq 191 [uI] (uI) unkB g := flow_ax (tbl := [tFail, tSqrt]) (dirty := fun _ => []) (n := 8) nq_one xmixA Tryz.func191 rfl (by decide +kernel)
def tapivot : ACt Tryz.prog nq := rowF false (go_of Tryz.func191 (by kernel_rfl) (by kernel_rfl)) apivot_op (by decide +kernel)
theorem asoundM_op : ∃ g, FOp Tryz.prog nq 192 [rI 36] (rI 36) unkB g := flow_ax (tbl := []) (dirty := fun _ => []) (n := 8) nq_one xmixA Tryz.func192 rfl (by decide +kernel)
def tasoundM : ACt Tryz.prog nq := rowF false (go_of Tryz.func192 (by kernel_rfl) (by kernel_rfl)) asoundM_op (by decide +kernel)
theorem asoundR_op : ∃ g, FOp Tryz.prog nq 194 [rI 6] (rI 6) unkB g := flow_ax (tbl := []) (dirty := fun _ => []) (n := 8) nq_one xmixA Tryz.func194 rfl (by decide +kernel)
def tasoundR : ACt Tryz.prog nq := rowF false (go_of Tryz.func194 (by kernel_rfl) (by kernel_rfl)) asoundR_op (by decide +kernel)
theorem aforward_op : ∃ g, FOp Tryz.prog nq 195 [rI 36, rI 6, (.int .i64 6)] (rI 6) unkB g := flow_ax (tbl := [taless, tDiv]) (dirty := fun _ => []) (n := 8) nq_one xmixA Tryz.func195 rfl (by decide +kernel)
def taforward : ACt Tryz.prog nq := rowF false (go_of Tryz.func195 (by kernel_rfl) (by kernel_rfl)) aforward_op (by decide +kernel)
theorem aRoot_op : ∃ g, FOp Tryz.prog nq 125 [rI 36, (.int .i64 6)] (rI 36) unkB g := flow_ax (tbl := [tafits, taless, tDiv, tapivot, tasoundM]) (dirty := fun _ => []) (n := 8) nq_one xmixA Tryz.func125 rfl (by decide +kernel)
def taRoot : ACt Tryz.prog nq := rowF false (go_of Tryz.func125 (by kernel_rfl) (by kernel_rfl)) aRoot_op (by decide +kernel)
theorem aSolve_op : ∃ g, FOp Tryz.prog nq 127 [rI 36, rI 6, (.int .i64 6)] (rI 6) unkB g := flow_ax (tbl := [tafits, taforward, tMul, tSub, tDiv, tasoundR]) (dirty := fun _ => []) (n := 8) nq_one xmixA Tryz.func127 rfl (by decide +kernel)
def taSolve : ACt Tryz.prog nq := rowF false (go_of Tryz.func127 (by kernel_rfl) (by kernel_rfl)) aSolve_op (by decide +kernel)
theorem aApply_op : ∃ g, FOp Tryz.prog nq 126 [rI 36, rI 6, (.int .i64 6)] (rI 6) unkB g := flow_ax (tbl := [tafits, tasum, tasoundR]) (dirty := fun _ => []) (n := 8) nq_one xmixA Tryz.func126 rfl (by decide +kernel)
def taApply : ACt Tryz.prog nq := rowF false (go_of Tryz.func126 (by kernel_rfl) (by kernel_rfl)) aApply_op (by decide +kernel)
end Go.Proofs.YtbophanlmkbfeaaGreatDoor
