/-
A part.
A part.
A part.
A part.
A part.
A part.
-/
import Derived.Handy
import Derived.Test.YtbophanlmkbfeaaGreatDoorHC02
import Derived.Test.YtbophanlmkbfeaaGreatDoorHC09
namespace Go.Proofs.YtbophanlmkbfeaaGreatDoor
open Go.RowKit
set_option maxHeartbeats 400000 in
theorem Add_any (b : Nat) (bad : Bool) (x y : Int) (w : World) (hw : Fl b bad w) :
    Calls Tryz.prog 103 #[.pointer (some ⟨b, 0, none⟩), .int .i64 x, .int .i64 y] w fun e w' => e = .returned (.int .i64 (addS bad x y).1) ∧ Fl b (addS bad x y).2 w' ∧ Kept b w w' := by
 go_enter Tryz.func103, Tryz.ntmps103
 go_wp2_with fail
 refine (takes2 b bad x y w hw).mono ?_
 rintro e w1 ⟨rfl, h2, h3⟩
 cases c : tk bad [x, y]
 ·rw [c] at h2
  have HS : Hid _ := addS_no c
  have H2 : Hid _ := h2
  have H3 : Hid _ := h3
  clear c h2 h3 hw
  go_wp2
  go_ret
  rw [HS.out]
  exact ⟨rfl, H2.out, H3.out⟩
 ·rw [c] at h2
  have HS : Hid _ := addS_yes c
  have H3 : Hid _ := h3
  clear h3
  have ht := tk_two c
  have hx := numB_bd ht.2.1
  have hy := numB_bd ht.2.2
  clear c hw ht
  go_wp2_with fail
  refine (gives_any b _ _ h2).mono ?_
  rintro e w2 ⟨rfl, h4, h5⟩
  go_wp2
  go_ret
  rw [HS.out]
  rw [gv_wrap (x + y) (by omega)] at h4 ⊢
  exact ⟨rfl, h4, H3.out.trans h5⟩
set_option maxHeartbeats 400000 in
theorem Sub_any (b : Nat) (bad : Bool) (x y : Int) (w : World) (hw : Fl b bad w) :
    Calls Tryz.prog 91 #[.pointer (some ⟨b, 0, none⟩), .int .i64 x, .int .i64 y] w fun e w' => e = .returned (.int .i64 (subS bad x y).1) ∧ Fl b (subS bad x y).2 w' ∧ Kept b w w' := by
 go_enter Tryz.func91, Tryz.ntmps91
 go_wp2_with fail
 refine (takes2 b bad x y w hw).mono ?_
 rintro e w1 ⟨rfl, h2, h3⟩
 cases c : tk bad [x, y]
 ·rw [c] at h2
  have HS : Hid _ := subS_no c
  have H2 : Hid _ := h2
  have H3 : Hid _ := h3
  clear c h2 h3 hw
  go_wp2
  go_ret
  rw [HS.out]
  exact ⟨rfl, H2.out, H3.out⟩
 ·rw [c] at h2
  have HS : Hid _ := subS_yes c
  have H3 : Hid _ := h3
  clear h3
  have ht := tk_two c
  have hx := numB_bd ht.2.1
  have hy := numB_bd ht.2.2
  clear c hw ht
  go_wp2_with fail
  refine (gives_any b _ _ h2).mono ?_
  rintro e w2 ⟨rfl, h4, h5⟩
  go_wp2
  go_ret
  rw [HS.out]
  rw [gv_wrap (x - y) (by omega)] at h4 ⊢
  exact ⟨rfl, h4, H3.out.trans h5⟩
set_option maxHeartbeats 400000 in
theorem Mul_any (b : Nat) (bad : Bool) (x y : Int) (w : World) (hw : Fl b bad w) :
    Calls Tryz.prog 96 #[.pointer (some ⟨b, 0, none⟩), .int .i64 x, .int .i64 y] w fun e w' => e = .returned (.int .i64 (mulS bad x y).1) ∧ Fl b (mulS bad x y).2 w' ∧ Kept b w w' := by
 go_enter Tryz.func96, Tryz.ntmps96
 go_wp2_with fail
 refine (takes2 b bad x y w hw).mono ?_
 rintro e w1 ⟨rfl, h2, h3⟩
 cases c : tk bad [x, y]
 ·rw [c] at h2
  have HS : Hid _ := mulS_no c
  have H2 : Hid _ := h2
  have H3 : Hid _ := h3
  clear c h2 h3 hw
  go_wp2
  go_ret
  rw [HS.out]
  exact ⟨rfl, H2.out, H3.out⟩
 ·rw [c] at h2
  have HS : Hid _ := mulS_yes c
  have H2 : Hid _ := h2
  have H3 : Hid _ := h3
  have ht := tk_two c
  have hx := sz_bd ht.2.1
  have hy := sz_bd ht.2.2
  have HX : Hid _ := ht.2.1
  have HY : Hid _ := ht.2.2
  clear c hw ht h2 h3
  go_wp2_with fail
  refine (size_any x _ HX.out).mono ?_
  rintro e w2 ⟨rfl, rfl⟩
  go_wp2_with fail
  refine (size_any y _ HY.out).mono ?_
  rintro e w2 ⟨rfl, rfl⟩
  go_wp2_with fail
  refine (product_any (sz x) (sz y) _ hx.1 (by omega) hy.1 (by omega)).mono ?_
  rintro e w3 ⟨rfl, h4⟩
  have H4 : Hid _ := h4
  clear h4
  go_wp2_with fail
  refine (shifted_any (sz x * sz y) _ (sz_mul_bd HX.out HY.out).1 (by have := sz_mul_bd HX.out HY.out; omega)).mono ?_
  rintro e w4 ⟨rfl, h5⟩
  have hf := ((H2.out.below H4.out).alloc _).below h5
  have HK : Hid (Kept b w w4) := ((H3.out.trans (Kept.of_below H4.out)).trans (Kept.alloc b _ _)).trans (Kept.of_below h5)
  have HB : Hid _ := sat_bd ((sz x * sz y + 549755813888) / 1099511627776) (by have := sz_mul_bd HX.out HY.out; omega)
  clear h5
  go_wp2_with fail
  refine (signed_any b _ _ _ hf HB.out.1 HB.out.2).mono ?_
  rintro e w5 ⟨rfl, h6, h7⟩
  go_wp2
  go_ret
  rw [HS.out]
  rw [sat_out] at h6 ⊢
  exact ⟨rfl, h6, HK.out.trans h7⟩
set_option maxHeartbeats 400000 in
theorem Part_any (b : Nat) (bad : Bool) (x p q : Int) (w : World) (hw : Fl b bad w) :
    Calls Tryz.prog 120 #[.pointer (some ⟨b, 0, none⟩), .int .i64 x, .int .i64 p, .int .i64 q] w fun e w' => e = .returned (.int .i64 (partS bad x p q).1) ∧ Fl b (partS bad x p q).2 w' ∧ Kept b w w' := by
 go_enter Tryz.func120, Tryz.ntmps120
 go_wp2_with fail
 refine (takes3 b bad x p q w hw).mono ?_
 rintro e w1 ⟨rfl, h2, h3⟩
 cases c : tk bad [x, p, q]
 ·rw [c] at h2
  have HS : Hid _ := partS_no c
  have H2 : Hid _ := h2
  have H3 : Hid _ := h3
  clear c h2 h3 hw
  go_wp2
  go_ret
  rw [HS.out]
  exact ⟨rfl, H2.out, H3.out⟩
 ·rw [c] at h2
  have H2 : Hid _ := h2
  have H3 : Hid _ := h3
  clear hw h2 h3
  by_cases q0 : q = 0
  ·subst q0
   have HS : Hid _ := partS_zero (bad := bad) (a := x) (p := p)
   clear c
   go_wp2_with fail
   refine (Fail_any b _ _ H2.out).mono ?_
   rintro e w2 ⟨rfl, h4, h5⟩
   go_wp2
   go_ret
   rw [HS.out]
   exact ⟨rfl, h4, H3.out.trans h5⟩
  ·have q1 : (q == 0) = false := by simpa using q0
   have q2 : (q != 0) = true := by simpa using q0
   have HS : Hid _ := partS_yes c q2
   have ht := tk_three c
   have hx := sz_bd ht.2.1
   have hp := sz_bd ht.2.2.1
   have hq := sz_bd ht.2.2.2
   have hq1 := sz_pos q2
   have HX : Hid _ := ht.2.1
   have HP : Hid _ := ht.2.2.1
   have HQ : Hid _ := ht.2.2.2
   clear c ht q0 q2
   go_wp2_with fail
   refine (size_any x _ HX.out).mono ?_
   rintro e w2 ⟨rfl, rfl⟩
   go_wp2_with fail
   refine (size_any p _ HP.out).mono ?_
   rintro e w2 ⟨rfl, rfl⟩
   go_wp2_with fail
   refine (product_any (sz x) (sz p) _ hx.1 (by omega) hp.1 (by omega)).mono ?_
   rintro e w3 ⟨rfl, h4⟩
   have H4 : Hid _ := h4
   clear h4
   go_wp2_with fail
   refine (size_any q _ HQ.out).mono ?_
   rintro e w2 ⟨rfl, rfl⟩
   go_wp2_with fail
   refine (quotient_any (sz x * sz p) (sz q) _ (sz_mul_bd HX.out HP.out).1 (sz_mul_bd HX.out HP.out).2 hq1 hq.2).mono ?_
   rintro e w4 ⟨rfl, h5⟩
   have hf := (H2.out.below H4.out).below h5
   have HK : Hid (Kept b w w4) := (H3.out.trans (Kept.of_below H4.out)).trans (Kept.of_below h5)
   have HB : Hid _ := sat_bd (rnd (sz x * sz p) (sz q)) (rnd_nonneg (sz_mul_bd HX.out HP.out).1 hq1)
   clear h5
   go_wp2_with fail
   refine (signed_any b _ _ _ hf HB.out.1 HB.out.2).mono ?_
   rintro e w5 ⟨rfl, h6, h7⟩
   go_wp2
   go_ret
   rw [HS.out]
   rw [sat_out] at h6 ⊢
   exact ⟨rfl, h6, HK.out.trans h7⟩
set_option maxHeartbeats 400000 in
theorem Div_any (b : Nat) (bad : Bool) (x y : Int) (w : World) (hw : Fl b bad w) :
    Calls Tryz.prog 159 #[.pointer (some ⟨b, 0, none⟩), .int .i64 x, .int .i64 y] w fun e w' => e = .returned (.int .i64 (divS bad x y).1) ∧ Fl b (divS bad x y).2 w' ∧ Kept b w w' := by
 go_enter Tryz.func159, Tryz.ntmps159
 go_wp2_with fail
 refine (Part_any b bad x 1099511627776 y w hw).mono ?_
 rintro e w1 ⟨rfl, h2, h3⟩
 go_wp2
 go_ret
 exact ⟨rfl, h2, h3⟩
set_option maxHeartbeats 400000 in
theorem Sqrt_any (b : Nat) (bad : Bool) (x : Int) (w : World) (hw : Fl b bad w) :
    Calls Tryz.prog 158 #[.pointer (some ⟨b, 0, none⟩), .int .i64 x] w fun e w' => e = .returned (.int .i64 (sqrtS bad x).1) ∧ Fl b (sqrtS bad x).2 w' ∧ Kept b w w' := by
 go_enter Tryz.func158, Tryz.ntmps158
 go_wp2_with fail
 refine (takes1 b bad x w hw).mono ?_
 rintro e w1 ⟨rfl, h2, h3⟩
 cases c : tk bad [x]
 ·rw [c] at h2
  have HS : Hid _ := sqrtS_no c
  have H2 : Hid _ := h2
  have H3 : Hid _ := h3
  clear c h2 h3 hw
  go_wp2
  go_ret
  rw [HS.out]
  exact ⟨rfl, H2.out, H3.out⟩
 ·rw [c] at h2
  have H2 : Hid _ := h2
  have H3 : Hid _ := h3
  clear hw h2 h3
  by_cases x0 : 0 ≤ x
  ·have HS : Hid _ := sqrtS_yes c x0
   have ht := tk_one c
   have hx := sz_bd ht.2
   have HX : Hid _ := ht.2
   have HE : Hid (sz x = x) := sz_nonneg x0
   clear c ht
   go_wp2_with fail
   refine (size_any x _ HX.out).mono ?_
   rintro e w2 ⟨rfl, rfl⟩
   rw [HE.out] at hx ⊢
   go_wp2_with fail
   refine (product_any x 1099511627776 _ x0 (by omega) (by omega) (by omega)).mono ?_
   rintro e w3 ⟨rfl, h4⟩
   have H4 : Hid _ := h4
   clear h4
   go_wp2_with fail
   refine (root_any (x * 1099511627776) _).mono ?_
   rintro e w4 ⟨rfl, h5⟩
   have hf := (H2.out.below H4.out).below h5
   have HK : Hid (Kept b w w4) := (H3.out.trans (Kept.of_below H4.out)).trans (Kept.of_below h5)
   have HB : Hid _ := isq_bd (x * 1099511627776) (by omega) (by omega)
   clear h5
   go_wp2_with fail
   refine (signed_any b _ _ _ hf HB.out.1 HB.out.2).mono ?_
   rintro e w5 ⟨rfl, h6, h7⟩
   go_wp2
   go_ret
   rw [HS.out]
   exact ⟨rfl, h6, HK.out.trans h7⟩
  ·have HS : Hid _ := sqrtS_low (bad := bad) x0
   have x1 : x < 0 := by omega
   clear c x0
   go_wp2_with fail
   refine (Fail_any b _ _ H2.out).mono ?_
   rintro e w2 ⟨rfl, h4, h5⟩
   go_wp2
   go_ret
   rw [HS.out]
   exact ⟨rfl, h4, H3.out.trans h5⟩
set_option maxHeartbeats 400000 in
theorem Mod_any (b : Nat) (bad : Bool) (x y : Int) (w : World) (hw : Fl b bad w) :
    Calls Tryz.prog 160 #[.pointer (some ⟨b, 0, none⟩), .int .i64 x, .int .i64 y] w fun e w' => e = .returned (.int .i64 (modS bad x y).1) ∧ Fl b (modS bad x y).2 w' ∧ Kept b w w' := by
 go_enter Tryz.func160, Tryz.ntmps160
 go_wp2_with fail
 refine (takes2 b bad x y w hw).mono ?_
 rintro e w1 ⟨rfl, h2, h3⟩
 cases c : tk bad [x, y]
 ·rw [c] at h2
  have HS : Hid _ := modS_no c
  have H2 : Hid _ := h2
  have H3 : Hid _ := h3
  clear c h2 h3 hw
  go_wp2
  go_ret
  rw [HS.out]
  exact ⟨rfl, H2.out, H3.out⟩
 ·rw [c] at h2
  have H2 : Hid _ := h2
  have H3 : Hid _ := h3
  have ht := tk_two c
  have hx := numB_bd ht.2.1
  have hy := numB_bd ht.2.2
  clear hw h2 h3 ht
  by_cases y0 : 0 < y
  ·have HS : Hid _ := modS_yes c y0
   have HM : Hid _ := tmod_low x y y0
   have hb := tmod_bd x y y0
   have d0 : (y == 0) = false := by simp; omega
   clear c
   go_wp2
   ·go_ret
    rw [HS.out]
    exact ⟨ret_int (HM.out.1 (by assumption)), H2.out, H3.out⟩
   ·go_ret
    rw [HS.out]
    exact ⟨ret_int (HM.out.2 (by assumption)), H2.out, H3.out⟩
  ·have HS : Hid _ := modS_low (bad := bad) (a := x) y0
   have y1 : y ≤ 0 := by omega
   clear c y0
   go_wp2_with fail
   refine (Fail_any b _ _ H2.out).mono ?_
   rintro e w2 ⟨rfl, h4, h5⟩
   go_wp2
   go_ret
   rw [HS.out]
   exact ⟨rfl, h4, H3.out.trans h5⟩
end Go.Proofs.YtbophanlmkbfeaaGreatDoor
namespace Go.Proofs.YtbophanlmkbfeaaGreatDoor
open Go.RowKit
set_option maxHeartbeats 400000 in
theorem square_any (x : Int) (w : World) (h : numB x = true) :
    Calls Tryz.prog 172 #[.int .i64 x] w fun e w' => e = .returned (.agg #[.int .u64 (hi64 (x * x)), .int .u64 (lo64 (x * x))]) ∧ Below w.heap.size w w' := by
 have hx := sz_bd h
 have HX : Hid _ := h
 have HE : Hid (sz x * sz x = x * x) := sz_sq x
 clear h
 go_enter Tryz.func172, Tryz.ntmps172
 go_wp2_with fail
 refine (size_any x _ HX.out).mono ?_
 rintro e w1 ⟨rfl, rfl⟩
 go_wp2_with fail
 refine (size_any x _ HX.out).mono ?_
 rintro e w1 ⟨rfl, rfl⟩
 go_wp2_with fail
 refine (product_any (sz x) (sz x) _ hx.1 (by omega) hx.1 (by omega)).mono ?_
 rintro e w3 ⟨rfl, hb⟩
 rw [HE.out]
 have hd : Wd w.heap.size 0 w3 := (Wd_new w 208).below hb
 have HD : Hid _ := hd.put (x * x)
 have HQ : Hid _ := World.cell?_setCell_same w3 ⟨w.heap.size, 0, none⟩ (.int .u64 (hi64 (x * x))) hd.hi
 have HB : Hid (Below w.heap.size w w3) := ((Below.refl _ _).alloc (Nat.le_refl _) _).trans (hb.mono (by simp))
 have m1 := hd.hi
 have m2 := hd.lo
 have m3 := hd.fh
 have m4 := hd.fl
 clear hb hd
 go_wp2
 refine bodyPost_ret (v := .agg #[.int .u64 (hi64 (x * x)), .int .u64 (lo64 (x * x))]) (by simp [results, Tryz.results172, go_sem, HQ.out, HD.out.lo]) rfl ?_
 exact ⟨rfl, (HB.out.setCell (Nat.le_refl _) _).setCell (Nat.le_refl _) _⟩
set_option maxHeartbeats 400000 in
theorem Norm_any (b : Nat) (bad : Bool) (x y z : Int) (w : World) (hw : Fl b bad w) :
    Calls Tryz.prog 104 #[.pointer (some ⟨b, 0, none⟩), .int .i64 x, .int .i64 y, .int .i64 z] w fun e w' => e = .returned (.int .i64 (normS bad x y z).1) ∧ Fl b (normS bad x y z).2 w' ∧ Kept b w w' := by
 go_enter Tryz.func104, Tryz.ntmps104
 go_wp2_with fail
 refine (takes3 b bad x y z w hw).mono ?_
 rintro e w1 ⟨rfl, h2, h3⟩
 cases c : tk bad [x, y, z]
 ·rw [c] at h2
  have HS : Hid _ := normS_no c
  have H2 : Hid _ := h2
  have H3 : Hid _ := h3
  clear c h2 h3 hw
  go_wp2
  go_ret
  rw [HS.out]
  exact ⟨rfl, H2.out, H3.out⟩
 ·rw [c] at h2
  have H2 : Hid _ := h2
  have H3 : Hid _ := h3
  have HS : Hid _ := normS_yes c
  have ht := tk_three c
  have HX : Hid _ := ht.2.1
  have HY : Hid _ := ht.2.2.1
  have HZ : Hid _ := ht.2.2.2
  clear hw h2 h3 c ht
  go_wp2_with fail
  refine (square_any x _ HX.out).mono ?_
  rintro e w2 ⟨rfl, h4⟩
  have H4 : Hid _ := h4
  clear h4
  go_wp2_with fail
  refine (square_any y _ HY.out).mono ?_
  rintro e w3 ⟨rfl, h5⟩
  have H5 : Hid _ := h5
  clear h5
  go_wp2_with fail
  refine (plus_any (x * x) (y * y) _ (sq_bd HX.out).1 (sq_bd HY.out).1 (by have := sq_bd HX.out; have := sq_bd HY.out; omega)).mono ?_
  rintro e w4 ⟨rfl, h6⟩
  have H6 : Hid _ := h6
  clear h6
  go_wp2_with fail
  refine (square_any z _ HZ.out).mono ?_
  rintro e w5 ⟨rfl, h7⟩
  have H7 : Hid _ := h7
  clear h7
  go_wp2_with fail
  refine (plus_any (x * x + y * y) (z * z) _ (by have := sq_bd HX.out; have := sq_bd HY.out; omega) (sq_bd HZ.out).1 (by have := sq_bd HX.out; have := sq_bd HY.out; have := sq_bd HZ.out; omega)).mono ?_
  rintro e w6 ⟨rfl, h8⟩
  have H8 : Hid _ := h8
  clear h8
  have HN : Hid (0 ≤ x * x + y * y + z * z ∧ x * x + y * y + z * z < 85070591730234615865843651857942052864) := by show _ ∧ _; have := sq_bd HX.out; have := sq_bd HY.out; have := sq_bd HZ.out; omega
  go_wp2_with fail
  refine (root_any (x * x + y * y + z * z) _).mono ?_
  rintro e w7 ⟨rfl, h9⟩
  have hf : Fl b false w7 := ((((((H2.out.below H4.out).below H5.out).below H6.out).below H7.out).below H8.out).alloc _).below h9
  have HK : Hid (Kept b w w7) := ((((((H3.out.trans (Kept.of_below H4.out)).trans (Kept.of_below H5.out)).trans (Kept.of_below H6.out)).trans (Kept.of_below H7.out)).trans (Kept.of_below H8.out)).trans (Kept.alloc b _ _)).trans (Kept.of_below h9)
  have HB : Hid _ := isq_bd _ HN.out.1 HN.out.2
  clear h9
  go_wp2_with fail
  refine (signed_any b _ _ _ hf HB.out.1 HB.out.2).mono ?_
  rintro e w8 ⟨rfl, h10, h11⟩
  go_wp2
  go_ret
  rw [HS.out]
  exact ⟨rfl, h10, HK.out.trans h11⟩
end Go.Proofs.YtbophanlmkbfeaaGreatDoor
namespace Go.Proofs.YtbophanlmkbfeaaGreatDoor
open Go.RowKit
abbrev uI : Value := unk .i64
def rI (n : Nat) : Value := .agg ⟨List.replicate n uI⟩
abbrev sDri : Value := .agg ⟨unkB :: List.replicate 7 uI⟩
def nq (τ : Nat → Int) : Prop := (normS false (normS false (τ 0) (τ 1) (τ 2)).1 (τ 3) 0).2 = false ∧ (normS false (τ 0) (τ 1) (τ 2)).2 = false ∧ (normS false (normS false (τ 0) (τ 1) (τ 2)).1 (τ 3) 0).1 - 1099511627776 ≤ 16 ∧ -16 ≤ (normS false (normS false (τ 0) (τ 1) (τ 2)).1 (τ 3) 0).1 - 1099511627776 ∧ ∀ i < 4, -2199023255552 ≤ τ i ∧ τ i ≤ 2199023255552
theorem nq_one : ∃ τ, nq τ := ⟨fun i => if i = 3 then 1099511627776 else 0, by
 unfold nq
 refine ⟨by decide +kernel, by decide +kernel, by decide +kernel, by decide +kernel, fun i _ => ?_⟩
 dsimp only
 split <;> omega⟩
theorem xmixA : Tryz.prog.follows .mixedOrders = true := by kernel_rfl
theorem op_of {P : Program} {f : Nat} {A R : Type} {d : Dl A} {g : Bool → A → R × Bool} {c : Dc R} (h : FlowOk P f d g c) {sa : List Value} {sr fb : Value} (hd : ∀ rest, All2 (G2 (fun _ => 0)) sa rest → ∃ x, d.enc x = rest) (hc : ∀ τ y, G2 τ sr (c.enc y)) (hst : ∀ x, (g true x).2 = true) (hfb : ∀ τ bad x, G0 τ fb (.bool (g bad x).2)) : ∃ g', FOp P nq f sa sr fb g' := by
 have key : ∀ (x : Bool × List Value), ∃ y : Value × Bool, All2 (G2 (fun _ => 0)) sa x.2 → (∀ b w, GW w → 1 < b → Fl b x.1 w → Calls P f (ptr b :: x.2).toArray w fun e w' => e = .returned y.1 ∧ Fl b y.2 w' ∧ Kept b w w') ∧ (x.1 = true → y.2 = true) ∧
  ∃ τ', G0 τ' fb (.bool y.2) ∧ G2 τ' sr y.1 ∧ (y.2 = true ∨ nq τ') := by
  rintro ⟨bad, rest⟩
  by_cases hx : All2 (G2 (fun _ => 0)) sa rest
  ·obtain ⟨x, rfl⟩ := hd rest hx
   obtain ⟨τ, hτ⟩ := nq_one
   exact ⟨(c.enc (g bad x).1, (g bad x).2), fun _ => ⟨fun b w hg h1 hw => h b bad x w hg h1 hw, (fun e => by dsimp only at e ⊢; rw [e]; exact hst x), τ, hfb τ bad x, hc τ _, .inr hτ⟩⟩
  ·exact ⟨(undef, false), fun e => absurd e hx⟩
 exact ⟨fun bad rest => Classical.choose (key (bad, rest)), fun bad rest hr => Classical.choose_spec (key (bad, rest)) hr⟩
theorem d1 {τ : Nat → Int} (rest : List Value) (h : All2 (G2 τ) [uI] rest) : ∃ x, (lone' cI).enc x = rest := by
 match rest, h with
 | [a], ⟨⟨x, e⟩, _⟩ => exact ⟨x, by rw [e]; rfl⟩
theorem d2 {τ : Nat → Int} (rest : List Value) (h : All2 (G2 τ) [uI, uI] rest) : ∃ x, (then' cI (lone' cI)).enc x = rest := by
 match rest, h with
 | [a, b], ⟨⟨x, e⟩, ⟨y, f⟩, _⟩ => exact ⟨(x, y), by rw [e, f]; rfl⟩
theorem d3 {τ : Nat → Int} (rest : List Value) (h : All2 (G2 τ) [uI, uI, uI] rest) : ∃ x, (then' cI (then' cI (lone' cI))).enc x = rest := by
 match rest, h with
 | [a, b, c], ⟨⟨x, e⟩, ⟨y, f⟩, ⟨z, g⟩, _⟩ => exact ⟨(x, y, z), by rw [e, f, g]; rfl⟩
theorem cIg (τ : Nat → Int) (y : Int) : G2 τ uI (cI.enc y) := ⟨y, rfl⟩
theorem fbg (τ : Nat → Int) (b : Bool) : G0 τ unkB (.bool b) := ⟨b, rfl⟩
def tAdd : ACt Tryz.prog nq := rowF false (go_of Tryz.func103 (by kernel_rfl) (by kernel_rfl)) (op_of (f := 103) (d := then' cI (lone' cI)) (g := fun bad x => addS bad x.1 x.2) (c := cI) (fun b bad x w _ _ hw => Add_any b bad x.1 x.2 w hw) d2 cIg (fun x => by rw [addS_no (show tk true _ = false from rfl)]) (fun τ _ _ => fbg τ _)) (by decide +kernel)
def tSub : ACt Tryz.prog nq := rowF false (go_of Tryz.func91 (by kernel_rfl) (by kernel_rfl)) (op_of (f := 91) (d := then' cI (lone' cI)) (g := fun bad x => subS bad x.1 x.2) (c := cI) (fun b bad x w _ _ hw => Sub_any b bad x.1 x.2 w hw) d2 cIg (fun x => by rw [subS_no (show tk true _ = false from rfl)]) (fun τ _ _ => fbg τ _)) (by decide +kernel)
def tMul : ACt Tryz.prog nq := rowF false (go_of Tryz.func96 (by kernel_rfl) (by kernel_rfl)) (op_of (f := 96) (d := then' cI (lone' cI)) (g := fun bad x => mulS bad x.1 x.2) (c := cI) (fun b bad x w _ _ hw => Mul_any b bad x.1 x.2 w hw) d2 cIg (fun x => by rw [mulS_no (show tk true _ = false from rfl)]) (fun τ _ _ => fbg τ _)) (by decide +kernel)
def tDiv : ACt Tryz.prog nq := rowF false (go_of Tryz.func159 (by kernel_rfl) (by kernel_rfl)) (op_of (f := 159) (d := then' cI (lone' cI)) (g := fun bad x => divS bad x.1 x.2) (c := cI) (fun b bad x w _ _ hw => Div_any b bad x.1 x.2 w hw) d2 cIg (fun x => by show (divS true x.1 x.2).2 = true; unfold divS; rw [partS_no (show tk true _ = false from rfl)]) (fun τ _ _ => fbg τ _)) (by decide +kernel)
def tMod : ACt Tryz.prog nq := rowF false (go_of Tryz.func160 (by kernel_rfl) (by kernel_rfl)) (op_of (f := 160) (d := then' cI (lone' cI)) (g := fun bad x => modS bad x.1 x.2) (c := cI) (fun b bad x w _ _ hw => Mod_any b bad x.1 x.2 w hw) d2 cIg (fun x => by rw [modS_no (show tk true _ = false from rfl)]) (fun τ _ _ => fbg τ _)) (by decide +kernel)
def tPart : ACt Tryz.prog nq := rowF false (go_of Tryz.func120 (by kernel_rfl) (by kernel_rfl)) (op_of (f := 120) (d := then' cI (then' cI (lone' cI))) (g := fun bad x => partS bad x.1 x.2.1 x.2.2) (c := cI) (fun b bad x w _ _ hw => Part_any b bad x.1 x.2.1 x.2.2 w hw) d3 cIg (fun x => by rw [partS_no (show tk true _ = false from rfl)]) (fun τ _ _ => fbg τ _)) (by decide +kernel)
def tNorm : ACt Tryz.prog nq := rowF false (go_of Tryz.func104 (by kernel_rfl) (by kernel_rfl)) (op_of (f := 104) (d := then' cI (then' cI (lone' cI))) (g := fun bad x => normS bad x.1 x.2.1 x.2.2) (c := cI) (fun b bad x w _ _ hw => Norm_any b bad x.1 x.2.1 x.2.2 w hw) d3 cIg (fun x => by rw [normS_no (show tk true _ = false from rfl)]) (fun τ _ _ => fbg τ _)) (by decide +kernel)
def tSqrt : ACt Tryz.prog nq := rowF false (go_of Tryz.func158 (by kernel_rfl) (by kernel_rfl)) (op_of (f := 158) (d := lone' cI) (g := fun bad x => sqrtS bad x) (c := cI) (fun b bad x w _ _ hw => Sqrt_any b bad x w hw) d1 cIg (fun x => by rw [sqrtS_no (show tk true _ = false from rfl)]) (fun τ _ _ => fbg τ _)) (by decide +kernel)
def tFail : ACt Tryz.prog nq := rowF (fb := .bool true) false (go_of Tryz.func90 (by kernel_rfl) (by kernel_rfl)) (op_of (f := 90) (sa := []) (sr := undef) (d := none') (g := fun _ _ => ((), true)) (c := cU) (fun b bad _ w _ _ hw => Fail_any b bad w hw) (fun rest h => by match rest, h with | [], _ => exact ⟨(), rfl⟩) (fun _ _ => real2_same rfl) (fun _ => rfl) (fun _ _ _ => ⟨rfl, rfl⟩)) (by decide +kernel)
end Go.Proofs.YtbophanlmkbfeaaGreatDoor
namespace Go.Proofs.YtbophanlmkbfeaaGreatDoor
open Go.RowKit
abbrev Dri := Bool × Tup 7
abbrev dDri : Dl Dri := dcat 1 (lone' cB) (dT 7)
abbrev Cra := Bool × Int × ByteArray × Tup 6 × Bool × Tup 7 × Dri × Tup 43 × Tup 3
abbrev dCra : Dl Cra := then' cB (then' cI (then' cS (dcat 6 (dT 6) (then' cB (dcat 7 (dT 7) (dcat 8 dDri (dcat 43 (dT 43) (dT 3))))))))
abbrev cCra : Dc Cra := cAgg dCra
abbrev cDri : Dc Dri := cAgg dDri
abbrev cHea : Dc (Tup 5 × Tup 5 × Tup 5 × Int) := cAgg (dcat 5 (dT 5) (dcat 5 (dT 5) (dcat 5 (dT 5) (lone' cI))))
abbrev cSky : Dc (Bool × Tup 3 × Tup 6) := cAgg (then' cB (dcat 3 (dT 3) (dT 6)))
abbrev cSee : Dc (Bool × Bool × Bool × Bool × Bool × Bool × Bool × Int) := cAgg (then' cB (then' cB (then' cB (then' cB (then' cB (then' cB (then' cB (lone' cI))))))))
def rejW (n : Int) : Int := if n ≥ 65535 then 65535 else IntKind.i64.wrap (n + 1)
theorem rejected_fx : PureOk Tryz.prog 44 (lone' cI) (fun x => rejW x) cI := pure_sx (tbl := []) (dirty := fun _ => []) (n := 4) xmixA Tryz.func44 rfl (fun x Post => by
    refine Eq.trans (b := ?m) ?x (Eq.symm ?y)
    case y => unfold rejW; simp only [← vif_le (K := PJ cI Post)]; exact rfl
    case x => kernel_rfl)
def ctrejected : Ct Tryz.prog := pureCt Tryz.prog 44 (lone' cI) (fun x => rejW x) cI (go_of Tryz.func44 (by kernel_rfl) (by kernel_rfl)) rejected_fx
theorem there_fx : PureOk Tryz.prog 47 (lone' (cT 5)) (fun x => !decide (x.1 = 0)) cB := pure_sx (tbl := []) (dirty := fun _ => []) (n := 4) xmixA Tryz.func47 rfl (fun x Post => by kernel_rfl)
def ctthere : Ct Tryz.prog := pureCt Tryz.prog 47 (lone' (cT 5)) (fun x => !decide (x.1 = 0)) cB (go_of Tryz.func47 (by kernel_rfl) (by kernel_rfl)) there_fx
def goesW (c : Cra) (tick : Int) : Bool := let ms := IntKind.u64.wrap (IntKind.u64.wrap tick - IntKind.u64.wrap c.2.1); if c.1 then (if 10 ≤ ms then decide (ms ≤ 10000) else false) else false
theorem goesOn_fx : PureOk Tryz.prog 52 (then' cCra (lone' cI)) (fun x => goesW x.1 x.2) cB := pure_sx (tbl := []) (dirty := fun _ => []) (n := 4) xmixA Tryz.func52 rfl (fun x Post => by
    refine Eq.trans (b := ?m) ?x (Eq.symm ?y)
    case y => unfold goesW; simp only [← vif_b (K := PJ cB Post), ← vif_le (K := PJ cB Post)]; exact rfl
    case x => kernel_rfl)
end Go.Proofs.YtbophanlmkbfeaaGreatDoor
namespace Go.Proofs.YtbophanlmkbfeaaGreatDoor
open Go.RowKit
abbrev Hea := Tup 5 × Tup 5 × Tup 5 × Int
abbrev Sky := Bool × Tup 3 × Tup 6
abbrev See := Bool × Bool × Bool × Bool × Bool × Bool × Bool × Int
abbrev Fra := Int × ByteArray
abbrev cFra : Dc Fra := cAgg (then' cI (lone' cS))
abbrev Tel := Tup 13
structure Fs where
 right : Int → Bool
 place : Bool → Tup 7 × Int → Tup 3 × Bool
 dir : Bool → Int → Tup 3 × Bool
 sky : Bool → Tup 3 × Int → Tup 3 × Bool
 norm : Bool → Tup 3 → Int × Bool
 apart : Bool → Tup 3 × Tup 3 → Bool × Bool
 shaded : Bool → Tup 3 × Tup 3 → Bool × Bool
 move : Bool → Tup 43 × Tup 3 × Int → Tup 43 × Bool
 meet : Bool → Tup 43 × Tup 6 × Tup 6 → (Tup 43 × Int × Bool) × Bool
 spread : Bool → Tup 43 → Int × Bool
 att : Bool → Tup 6 × Tup 6 → Tup 4 × Bool
 start : Tup 4 → Tup 43
 bstep : Bool → Dri × Tup 3 × Int → Dri × Bool
 dip : Bool → Dri → Tup 3 × Bool
 next : Tup 6 × See → Tup 6
 counts : Tup 4 × Tup 3 → Tup 4 × Tup 3
 write : Tel → Fra × Bool
 wrap : Fra → ByteArray × Bool
 read : Fra → Tup 5 × Bool
 fresh : Tup 5 × Int → Bool
 oread : Fra → Tup 9 × Int
structure FsOk (F : Fs) : Prop where
 right : PureOk Tryz.prog 22 (lone' cI) F.right cB
 place : FlowOk Tryz.prog 49 (then' (cT 7) (lone' cI)) F.place (cT 3)
 dir : FlowOk Tryz.prog 50 (lone' cI) F.dir (cT 3)
 sky : FlowOk Tryz.prog 51 (then' (cT 3) (lone' cI)) F.sky (cT 3)
 norm : FlowOk Tryz.prog 53 (lone' (cT 3)) F.norm cI
 apart : FlowOk Tryz.prog 105 (then' (cT 3) (lone' (cT 3))) F.apart cB
 shaded : FlowOk Tryz.prog 55 (then' (cT 3) (lone' (cT 3))) F.shaded cB
 move : FlowOk Tryz.prog 56 (then' (cT 43) (then' (cT 3) (lone' cI))) F.move (cT 43)
 meet : FlowOk Tryz.prog 57 (then' (cT 43) (then' (cT 6) (lone' (cT 6)))) F.meet (three' (cT 43) cI cB)
 spread : FlowOk Tryz.prog 59 (lone' (cT 43)) F.spread cI
 att : FlowOk Tryz.prog 136 (then' (cT 6) (lone' (cT 6))) F.att (cT 4)
 start : PureOk Tryz.prog 135 (lone' (cT 4)) F.start (cT 43)
 bstep : FlowOk Tryz.prog 48 (then' cDri (then' (cT 3) (lone' cI))) F.bstep cDri
 dip : FlowOk Tryz.prog 138 (lone' cDri) F.dip (cT 3)
 next : PureOk Tryz.prog 60 (then' (cT 6) (lone' cSee)) F.next (cT 6)
 counts : PureOk Tryz.prog 62 (then' (cT 4) (lone' (cT 3))) F.counts (two' (cT 4) (cT 3))
 write : PureOk Tryz.prog 64 (lone' (cT 13)) F.write (two' cFra cB)
 wrap : PureOk Tryz.prog 65 (lone' cFra) F.wrap (two' cS cB)
 read : PureOk Tryz.prog 83 (lone' cFra) F.read (two' (cT 5) cB)
 fresh : PureOk Tryz.prog 84 (then' (cT 5) (lone' cI)) F.fresh cB
 oread : PureOk Tryz.prog 85 (lone' cFra) F.oread (two' (cT 9) cI)
def ctright (F : Fs) (h : FsOk F) : Ct Tryz.prog := pureCt Tryz.prog 22 _ F.right _ (go_of Tryz.func22 (by kernel_rfl) (by kernel_rfl)) h.right
def ctplace (F : Fs) (h : FsOk F) : Ct Tryz.prog := flowCt Tryz.prog 49 _ F.place _ (go_of Tryz.func49 (by kernel_rfl) (by kernel_rfl)) h.place
def ctdir (F : Fs) (h : FsOk F) : Ct Tryz.prog := flowCt Tryz.prog 50 _ F.dir _ (go_of Tryz.func50 (by kernel_rfl) (by kernel_rfl)) h.dir
def ctsky (F : Fs) (h : FsOk F) : Ct Tryz.prog := flowCt Tryz.prog 51 _ F.sky _ (go_of Tryz.func51 (by kernel_rfl) (by kernel_rfl)) h.sky
def ctnorm (F : Fs) (h : FsOk F) : Ct Tryz.prog := flowCt Tryz.prog 53 _ F.norm _ (go_of Tryz.func53 (by kernel_rfl) (by kernel_rfl)) h.norm
def ctapart (F : Fs) (h : FsOk F) : Ct Tryz.prog := flowCt Tryz.prog 105 _ F.apart _ (go_of Tryz.func105 (by kernel_rfl) (by kernel_rfl)) h.apart
def ctshaded (F : Fs) (h : FsOk F) : Ct Tryz.prog := flowCt Tryz.prog 55 _ F.shaded _ (go_of Tryz.func55 (by kernel_rfl) (by kernel_rfl)) h.shaded
def ctmove (F : Fs) (h : FsOk F) : Ct Tryz.prog := flowCt Tryz.prog 56 _ F.move _ (go_of Tryz.func56 (by kernel_rfl) (by kernel_rfl)) h.move
def ctmeet (F : Fs) (h : FsOk F) : Ct Tryz.prog := flowCt Tryz.prog 57 _ F.meet _ (go_of Tryz.func57 (by kernel_rfl) (by kernel_rfl)) h.meet
def ctspread (F : Fs) (h : FsOk F) : Ct Tryz.prog := flowCt Tryz.prog 59 _ F.spread _ (go_of Tryz.func59 (by kernel_rfl) (by kernel_rfl)) h.spread
def ctatt (F : Fs) (h : FsOk F) : Ct Tryz.prog := flowCt Tryz.prog 136 _ F.att _ (go_of Tryz.func136 (by kernel_rfl) (by kernel_rfl)) h.att
def ctstart (F : Fs) (h : FsOk F) : Ct Tryz.prog := pureCt Tryz.prog 135 _ F.start _ (go_of Tryz.func135 (by kernel_rfl) (by kernel_rfl)) h.start
def ctbstep (F : Fs) (h : FsOk F) : Ct Tryz.prog := flowCt Tryz.prog 48 _ F.bstep _ (go_of Tryz.func48 (by kernel_rfl) (by kernel_rfl)) h.bstep
def ctdip (F : Fs) (h : FsOk F) : Ct Tryz.prog := flowCt Tryz.prog 138 _ F.dip _ (go_of Tryz.func138 (by kernel_rfl) (by kernel_rfl)) h.dip
def ctnext (F : Fs) (h : FsOk F) : Ct Tryz.prog := pureCt Tryz.prog 60 _ F.next _ (go_of Tryz.func60 (by kernel_rfl) (by kernel_rfl)) h.next
def ctcounts (F : Fs) (h : FsOk F) : Ct Tryz.prog := pureCt Tryz.prog 62 _ F.counts _ (go_of Tryz.func62 (by kernel_rfl) (by kernel_rfl)) h.counts
def ctwrite (F : Fs) (h : FsOk F) : Ct Tryz.prog := pureCt Tryz.prog 64 _ F.write _ (go_of Tryz.func64 (by kernel_rfl) (by kernel_rfl)) h.write
def ctwrap (F : Fs) (h : FsOk F) : Ct Tryz.prog := pureCt Tryz.prog 65 _ F.wrap _ (go_of Tryz.func65 (by kernel_rfl) (by kernel_rfl)) h.wrap
def ctread (F : Fs) (h : FsOk F) : Ct Tryz.prog := pureCt Tryz.prog 83 _ F.read _ (go_of Tryz.func83 (by kernel_rfl) (by kernel_rfl)) h.read
def ctfresh (F : Fs) (h : FsOk F) : Ct Tryz.prog := pureCt Tryz.prog 84 _ F.fresh _ (go_of Tryz.func84 (by kernel_rfl) (by kernel_rfl)) h.fresh
def ctoread (F : Fs) (h : FsOk F) : Ct Tryz.prog := pureCt Tryz.prog 85 _ F.oread _ (go_of Tryz.func85 (by kernel_rfl) (by kernel_rfl)) h.oread
def ctgoesOn : Ct Tryz.prog := pureCt Tryz.prog 52 (then' cCra (lone' cI)) (fun x => goesW x.1 x.2) cB (go_of Tryz.func52 (by kernel_rfl) (by kernel_rfl)) goesOn_fx
section
variable (F : Fs)
def pairT (a b : Tup 3) : Tup 6 := (a.1, a.2.1, a.2.2.1, b.1, b.2.1, b.2.2.1, ())
def fstT (a : Tup 6) : Tup 3 := (a.1, a.2.1, a.2.2.1, ())
def sndT (a : Tup 6) : Tup 3 := (a.2.2.2.1, a.2.2.2.2.1, a.2.2.2.2.2.1, ())
def dirsW (x : Hea) : Tup 6 := pairT x.2.1.2.2 x.2.2.1.2.2
theorem directions_fx : PureOk Tryz.prog 58 (lone' cHea) (fun x => dirsW x) (cT 6) := pure_sx (tbl := []) (dirty := fun _ => []) (n := 4) xmixA Tryz.func58 rfl (fun x Post => by kernel_rfl)
def ctdirections : Ct Tryz.prog := pureCt Tryz.prog 58 (lone' cHea) (fun x => dirsW x) (cT 6) (go_of Tryz.func58 (by kernel_rfl) (by kernel_rfl)) directions_fx
def driftW (d : Dri) (x : Hea) : Dri := if !(!decide (x.2.2.1.1 = 0)) then d else (F.bstep false (d, x.2.2.1.2.2, x.2.2.1.2.1)).1
theorem drifted_fx (h : FsOk F) : PureOk Tryz.prog 24 (then' cDri (lone' cHea)) (fun x => driftW F x.1 x.2) cDri := pure_sx (tbl := [ctthere, ctbstep F h]) (dirty := fun _ => []) (n := 4) xmixA Tryz.func24 rfl (fun x Post => by
    refine Eq.trans (b := ?m) ?x (Eq.symm ?y)
    case y => unfold driftW; simp only [← vif_b (K := PJ cDri Post)]; exact rfl
    case x => kernel_rfl)
def ctdrifted (h : FsOk F) : Ct Tryz.prog := pureCt Tryz.prog 24 (then' cDri (lone' cHea)) (fun x => driftW F x.1 x.2) cDri (go_of Tryz.func24 (by kernel_rfl) (by kernel_rfl)) (drifted_fx F h)
def zeroSky : Sky := (false, (0, 0, 0, ()), (0, 0, 0, 0, 0, 0, ()))
def skyW (c : Cra) (t : Int) : Sky :=
 if !c.2.2.2.2.1 then zeroSky else
 if (F.sky (F.dir (F.place false (c.2.2.2.2.2.1, t)).2 t).2 ((F.place false (c.2.2.2.2.2.1, t)).1, t)).2 then zeroSky else
 (true, (F.place false (c.2.2.2.2.2.1, t)).1, pairT (F.dir (F.place false (c.2.2.2.2.2.1, t)).2 t).1 (F.sky (F.dir (F.place false (c.2.2.2.2.2.1, t)).2 t).2 ((F.place false (c.2.2.2.2.2.1, t)).1, t)).1)
theorem skyAt_fx (h : FsOk F) : PureOk Tryz.prog 25 (then' cCra (lone' cI)) (fun x => skyW F x.1 x.2) cSky := pure_sx (tbl := [ctplace F h, ctdir F h, ctsky F h]) (dirty := fun _ => []) (n := 4) xmixA Tryz.func25 rfl (fun x Post => by
    refine Eq.trans (b := ?m) ?x (Eq.symm ?y)
    case y => unfold skyW; simp only [← vif_b (K := PJ cSky Post)]; exact rfl
    case x => kernel_rfl)
def ctskyAt (h : FsOk F) : Ct Tryz.prog := pureCt Tryz.prog 25 (then' cCra (lone' cI)) (fun x => skyW F x.1 x.2) cSky (go_of Tryz.func25 (by kernel_rfl) (by kernel_rfl)) (skyAt_fx F h)
def standW (x : Hea) (s : Sky) : Bool :=
 if !s.1 then false else if !(!decide (x.2.1.1 = 0)) then false else if !(!decide (x.2.2.1.1 = 0)) then false else
 if (F.apart false (fstT s.2.2, sndT s.2.2)).1 then (F.apart (F.apart false (fstT s.2.2, sndT s.2.2)).2 (fstT (dirsW x), sndT (dirsW x))).1 else false
theorem standsWell_fx (h : FsOk F) : PureOk Tryz.prog 54 (then' cHea (lone' cSky)) (fun x => standW F x.1 x.2) cB := pure_sx (tbl := [ctthere, ctdirections, ctapart F h]) (dirty := fun _ => []) (n := 4) xmixA Tryz.func54 rfl (fun x Post => by
    refine Eq.trans (b := ?m) ?x (Eq.symm ?y)
    case y => unfold standW; simp only [← vif_b (K := PJ cB Post)]; exact rfl
    case x => kernel_rfl)
def ctstandsWell (h : FsOk F) : Ct Tryz.prog := pureCt Tryz.prog 54 (then' cHea (lone' cSky)) (fun x => standW F x.1 x.2) cB (go_of Tryz.func54 (by kernel_rfl) (by kernel_rfl)) (standsWell_fx F h)
def decW (c : Cra) (t : Int) (x : Hea) (s : Sky) : See :=
 if !decide (x.1.1 = 0) then
  (if s.1 then (!goesW c t, !decide (x.1.1 = 0), decide ((F.norm false x.1.2.2).1 ≤ 54975581388), standW F x s, !(F.shaded false (s.2.1, fstT s.2.2)).1, false, false, x.2.2.2)
  else (!goesW c t, !decide (x.1.1 = 0), decide ((F.norm false x.1.2.2).1 ≤ 54975581388), standW F x s, false, false, false, x.2.2.2))
 else
  (if s.1 then (!goesW c t, !decide (x.1.1 = 0), false, standW F x s, !(F.shaded false (s.2.1, fstT s.2.2)).1, false, false, x.2.2.2)
  else (!goesW c t, !decide (x.1.1 = 0), false, standW F x s, false, false, false, x.2.2.2))
theorem decided_fx (h : FsOk F) : PureOk Tryz.prog 26 (then' cCra (then' cI (then' cHea (lone' cSky)))) (fun x => decW F x.1 x.2.1 x.2.2.1 x.2.2.2) cSee := pure_sx (tbl := [ctgoesOn, ctthere, ctnorm F h, ctstandsWell F h, ctshaded F h]) (dirty := fun _ => []) (n := 4) xmixA Tryz.func26 rfl (fun x Post => by
    refine Eq.trans (b := ?m) ?x (Eq.symm ?y)
    case y => unfold decW; simp only [← vif_b (K := PJ cSee Post)]; exact rfl
    case x => kernel_rfl)
def ctdecided (h : FsOk F) : Ct Tryz.prog := pureCt Tryz.prog 26 (then' cCra (then' cI (then' cHea (lone' cSky)))) (fun x => decW F x.1 x.2.1 x.2.2.1 x.2.2.2) cSee (go_of Tryz.func26 (by kernel_rfl) (by kernel_rfl)) (decided_fx F h)
def or4W (x : Int) : Int := IntKind.i64.wrap ((BitVec.ofInt IntKind.i64.bits x ||| BitVec.ofInt IntKind.i64.bits 4).toNat)
def zeroG : Tup 43 := (0, 0, 0, 0, 0, 0, 0, 0, 0, 0, 0, 0, 0, 0, 0, 0, 0, 0, 0, 0, 0, 0, 0, 0, 0, 0, 0, 0, 0, 0, 0, 0, 0, 0, 0, 0, 0, 0, 0, 0, 0, 0, 0, ())
def entW (p : Tup 6) (a b : Tup 6) : Tup 6 × Tup 43 := if (F.att false (a, b)).2 then ((1, 0, 0, 0, 0, or4W p.2.2.2.2.2.1, ()), zeroG) else (p, F.start (F.att false (a, b)).1)
theorem entered_fx (h : FsOk F) : PureOk Tryz.prog 61 (then' (cT 6) (then' (cT 6) (lone' (cT 6)))) (fun x => entW F x.1 x.2.1 x.2.2) (two' (cT 6) (cT 43)) := pure_sx (tbl := [ctatt F h, ctstart F h]) (dirty := fun _ => []) (n := 4) xmixA Tryz.func61 rfl (fun x Post => by
    refine Eq.trans (b := ?m) ?x (Eq.symm ?y)
    case y => unfold entW; simp only [← vif_b (K := PJ (two' (cT 6) (cT 43)) Post)]; exact rfl
    case x => kernel_rfl)
def ctentered (h : FsOk F) : Ct Tryz.prog := pureCt Tryz.prog 61 (then' (cT 6) (then' (cT 6) (lone' (cT 6)))) (fun x => entW F x.1 x.2.1 x.2.2) (two' (cT 6) (cT 43)) (go_of Tryz.func61 (by kernel_rfl) (by kernel_rfl)) (entered_fx F h)
def planW (c : Cra) (s : See) (x : Hea) (y : Sky) : Tup 6 × Tup 43 :=
 if !decide ((F.next (c.2.2.2.1, s)).1 = 2) then (F.next (c.2.2.2.1, s), zeroG) else if decide (c.2.2.2.1.1 = 2) then (F.next (c.2.2.2.1, s), c.2.2.2.2.2.2.2.1) else entW F (F.next (c.2.2.2.1, s)) y.2.2 (dirsW x)
theorem planned_fx (h : FsOk F) : PureOk Tryz.prog 28 (then' cCra (then' cSee (then' cHea (lone' cSky)))) (fun x => planW F x.1 x.2.1 x.2.2.1 x.2.2.2) (two' (cT 6) (cT 43)) := pure_sx (tbl := [ctnext F h, ctdirections, ctentered F h]) (dirty := fun _ => []) (n := 4) xmixA Tryz.func28 rfl (fun x Post => by
    refine Eq.trans (b := ?m) ?x (Eq.symm ?y)
    case y => unfold planW; simp only [← vif_b (K := PJ (two' (cT 6) (cT 43)) Post)]; exact rfl
    case x => kernel_rfl)
def ctplanned (h : FsOk F) : Ct Tryz.prog := pureCt Tryz.prog 28 (then' cCra (then' cSee (then' cHea (lone' cSky)))) (fun x => planW F x.1 x.2.1 x.2.2.1 x.2.2.2) (two' (cT 6) (cT 43)) (go_of Tryz.func28 (by kernel_rfl) (by kernel_rfl)) (planned_fx F h)
end
end Go.Proofs.YtbophanlmkbfeaaGreatDoor
namespace Go.Proofs.YtbophanlmkbfeaaGreatDoor
open Go.RowKit
section
variable (F : Fs)
def biasT (g : Tup 43) : Tup 3 := (g.2.2.2.2.1, g.2.2.2.2.2.1, g.2.2.2.2.2.2.1, ())
def q4T (g : Tup 43) : Tup 4 := (g.1, g.2.1, g.2.2.1, g.2.2.2.1, ())
def filE (s : See) (g : Tup 43) (b pass : Bool) : Tup 43 × See :=
 if (F.spread b g).2 then (g, (s.1, s.2.1, s.2.2.1, s.2.2.2.1, s.2.2.2.2.1, true, pass, s.2.2.2.2.2.2.2)) else (g, (s.1, s.2.1, s.2.2.1, s.2.2.2.1, s.2.2.2.2.1, decide ((F.spread b g).1 > 274877906944), pass, s.2.2.2.2.2.2.2))
def filR (s : See) (x : Hea) (y : Sky) (r : Tup 43 × Bool) : Tup 43 × See :=
 if s.2.2.2.1 then (if s.2.2.2.2.1 then filE F s (F.meet r.2 (r.1, y.2.2, dirsW x)).1.1 (F.meet r.2 (r.1, y.2.2, dirsW x)).2 (F.meet r.2 (r.1, y.2.2, dirsW x)).1.2.2 else filE F s r.1 r.2 s.2.2.2.2.2.2.1) else filE F s r.1 r.2 s.2.2.2.2.2.2.1
def filW (g : Tup 43) (s : See) (ms : Int) (x : Hea) (y : Sky) : Tup 43 × See := if !s.2.1 then filR F s x y (F.move false (g, biasT g, ms)) else filR F s x y (F.move false (g, x.1.2.2, ms))
theorem filtered_fx (h : FsOk F) : PureOk Tryz.prog 27 (then' (cT 43) (then' cSee (then' cI (then' cHea (lone' cSky))))) (fun x => filW F x.1 x.2.1 x.2.2.1 x.2.2.2.1 x.2.2.2.2) (two' (cT 43) cSee) := pure_sx (tbl := [ctmove F h, ctmeet F h, ctdirections, ctspread F h]) (dirty := fun _ => []) (n := 4) xmixA Tryz.func27 rfl (fun x Post => by
    refine Eq.trans (b := ?m) ?x (Eq.symm ?y)
    case y => unfold filW filR filE; simp only [← vif_b (K := PJ (two' (cT 43) cSee) Post)]; exact rfl
    case x => kernel_rfl)
def ctfiltered (h : FsOk F) : Ct Tryz.prog := pureCt Tryz.prog 27 (then' (cT 43) (then' cSee (then' cI (then' cHea (lone' cSky))))) (fun x => filW F x.1 x.2.1 x.2.2.1 x.2.2.2.1 x.2.2.2.2) (two' (cT 43) cSee) (go_of Tryz.func27 (by kernel_rfl) (by kernel_rfl)) (filtered_fx F h)
def zero3 : Tup 3 := (0, 0, 0, ())
def coilW (c : Cra) : Tup 3 := if !decide (c.2.2.2.1.1 = 0) then zero3 else (F.dip false c.2.2.2.2.2.2.1).1
theorem coils_fx (h : FsOk F) : PureOk Tryz.prog 63 (lone' cCra) (fun x => coilW F x) (cT 3) := pure_sx (tbl := [ctdip F h]) (dirty := fun _ => []) (n := 4) xmixA Tryz.func63 rfl (fun x Post => by
    refine Eq.trans (b := ?m) ?x (Eq.symm ?y)
    case y => unfold coilW; simp only [← vif_b (K := PJ (cT 3) Post)]; exact rfl
    case x => kernel_rfl)
def ctcoils (h : FsOk F) : Ct Tryz.prog := pureCt Tryz.prog 63 (lone' cCra) (fun x => coilW F x) (cT 3) (go_of Tryz.func63 (by kernel_rfl) (by kernel_rfl)) (coils_fx F h)
def telT (c : Cra) (q : Tup 4 × Tup 3) : Tel := (c.2.1, c.2.2.2.1.1, c.2.2.2.1.2.2.2.2.2.1, c.2.2.2.2.2.2.2.2.1, c.2.2.2.2.2.2.2.2.2.1, c.2.2.2.2.2.2.2.2.2.2.1, q.1.1, q.1.2.1, q.1.2.2.1, q.1.2.2.2.1, q.2.1, q.2.2.1, q.2.2.2.1, ())
def noBytes : ByteArray := ⟨#[]⟩
def toldW (c : Cra) : ByteArray := if !(F.write (telT c (F.counts (q4T c.2.2.2.2.2.2.2.1, coilW F c)))).2 then noBytes else (F.wrap (F.write (telT c (F.counts (q4T c.2.2.2.2.2.2.2.1, coilW F c)))).1).1
theorem told_fx (h : FsOk F) : PureOk Tryz.prog 29 (lone' cCra) (fun x => toldW F x) cS := pure_sx (tbl := [ctcoils F h, ctcounts F h, ctwrite F h, ctwrap F h]) (dirty := fun _ => []) (n := 4) xmixA Tryz.func29 rfl (fun x Post => by
    refine Eq.trans (b := ?m) ?x (Eq.symm ?y)
    case y => unfold toldW; simp only [← vif_b (K := PJ cS Post)]; exact rfl
    case x => kernel_rfl)
def cttold (h : FsOk F) : Ct Tryz.prog := pureCt Tryz.prog 29 (lone' cCra) (fun x => toldW F x) cS (go_of Tryz.func29 (by kernel_rfl) (by kernel_rfl)) (told_fx F h)
def rejC (c : Cra) : Cra := (c.1, c.2.1, c.2.2.1, c.2.2.2.1, c.2.2.2.2.1, c.2.2.2.2.2.1, c.2.2.2.2.2.2.1, c.2.2.2.2.2.2.2.1, (c.2.2.2.2.2.2.2.2.1, c.2.2.2.2.2.2.2.2.2.1, rejW c.2.2.2.2.2.2.2.2.2.2.1, ()))
def senW (c : Cra) (h : Hea) (f : Fra) (t : Int) : Cra × Hea :=
 if !(F.read f).2 then (rejC c, h) else if !(F.fresh ((F.read f).1, t)) then (rejC c, h) else if decide ((F.read f).1.1 = 1) then (c, ((F.read f).1, h.2.1, h.2.2.1, h.2.2.2)) else if decide ((F.read f).1.1 = 2) then (c, (h.1, (F.read f).1, h.2.2.1, h.2.2.2)) else if decide ((F.read f).1.1 = 3) then (c, (h.1, h.2.1, (F.read f).1, h.2.2.2)) else (c, h)
theorem hearSensor_fx (h : FsOk F) : PureOk Tryz.prog 45 (then' cCra (then' cHea (then' cFra (lone' cI)))) (fun x => senW F x.1 x.2.1 x.2.2.1 x.2.2.2) (two' cCra cHea) := pure_sx (tbl := [ctread F h, ctfresh F h, ctrejected]) (dirty := fun _ => []) (n := 4) xmixA Tryz.func45 rfl (fun x Post => by
    refine Eq.trans (b := ?m) ?x (Eq.symm ?y)
    case y => unfold senW; simp only [← vif_b (K := PJ (two' cCra cHea) Post)]; exact rfl
    case x => kernel_rfl)
def cthearSensor (h : FsOk F) : Ct Tryz.prog := pureCt Tryz.prog 45 (then' cCra (then' cHea (then' cFra (lone' cI)))) (fun x => senW F x.1 x.2.1 x.2.2.1 x.2.2.2) (two' cCra cHea) (go_of Tryz.func45 (by kernel_rfl) (by kernel_rfl)) (hearSensor_fx F h)
def ackC (c : Cra) (q e : Int) : Cra := (c.1, c.2.1, c.2.2.1, c.2.2.2.1, c.2.2.2.2.1, c.2.2.2.2.2.1, c.2.2.2.2.2.2.1, c.2.2.2.2.2.2.2.1, (q, e, c.2.2.2.2.2.2.2.2.2.2.1, ()))
def orbC (c : Cra) (o : Tup 7) : Cra := (c.1, c.2.1, c.2.2.1, c.2.2.2.1, true, o, c.2.2.2.2.2.2.1, c.2.2.2.2.2.2.2.1, c.2.2.2.2.2.2.2.2)
def clrC (c : Cra) : Cra := (c.1, c.2.1, c.2.2.1, (c.2.2.2.1.1, c.2.2.2.1.2.1, c.2.2.2.1.2.2.1, c.2.2.2.1.2.2.2.1, c.2.2.2.1.2.2.2.2.1, 0, ()), c.2.2.2.2.1, c.2.2.2.2.2.1, c.2.2.2.2.2.2.1, c.2.2.2.2.2.2.2.1, (c.2.2.2.2.2.2.2.2.1, c.2.2.2.2.2.2.2.2.2.1, 0, ()))
def ordC (c : Cra) (h : Hea) (o : Tup 9 × Int) : Cra × Hea :=
 if !decide (o.2 = 0) then (rejC (ackC c o.1.1 o.2), h) else if decide (o.1.2.1 = 1) then (ackC c o.1.1 o.2, (h.1, h.2.1, h.2.2.1, o.1.2.1)) else if decide (o.1.2.1 = 2) then (ackC c o.1.1 o.2, (h.1, h.2.1, h.2.2.1, o.1.2.1)) else if decide (o.1.2.1 = 3) then (orbC (ackC c o.1.1 o.2) o.1.2.2, h) else if decide (o.1.2.1 = 4) then (clrC (ackC c o.1.1 o.2), h) else (ackC c o.1.1 o.2, h)
theorem hearGround_fx (h : FsOk F) : PureOk Tryz.prog 46 (then' cCra (then' cHea (lone' cFra))) (fun x => ordC x.1 x.2.1 (F.oread x.2.2)) (two' cCra cHea) := pure_sx (tbl := [ctoread F h, ctrejected]) (dirty := fun _ => []) (n := 4) xmixA Tryz.func46 rfl (fun x Post => by
    refine Eq.trans (b := ?m) ?x (Eq.symm ?y)
    case y => unfold ordC; simp only [← vif_b (K := PJ (two' cCra cHea) Post)]; exact rfl
    case x => kernel_rfl)
def cthearGround (h : FsOk F) : Ct Tryz.prog := pureCt Tryz.prog 46 (then' cCra (then' cHea (lone' cFra))) (fun x => ordC x.1 x.2.1 (F.oread x.2.2)) (two' cCra cHea) (go_of Tryz.func46 (by kernel_rfl) (by kernel_rfl)) (hearGround_fx F h)
end
end Go.Proofs.YtbophanlmkbfeaaGreatDoor
