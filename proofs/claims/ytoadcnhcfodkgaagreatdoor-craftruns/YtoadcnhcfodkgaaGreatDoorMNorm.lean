/-
  The walks of package fixed's lengths (square, Norm), for the seat YtoadcnhcfodkgaaGreatDoor.
-/
import Derived.Test.YtoadcnhcfodkgaaGreatDoorMeth
import Derived.Handy
namespace Go.Proofs.YtoadcnhcfodkgaaGreatDoor
open Go.RowKit

set_option maxHeartbeats 400000 in
theorem square_any (x : Int) (w : World) (h : numB x = true) :
    Calls Tryz.prog 224 #[.int .i64 x] w fun e w' => e = .returned (.agg #[.int .u64 (hi64 (x * x)), .int .u64 (lo64 (x * x))]) ∧ Below w.heap.size w w' := by
  have hx := sz_bd h
  have HX : Hid _ := h
  have HE : Hid (sz x * sz x = x * x) := sz_sq x
  clear h
  go_enter Tryz.func224, Tryz.ntmps224
  go_wp2_with fail
  refine (size_any x _ HX.out).mono ?_
  rintro e w1 ⟨rfl, rfl⟩
  go_wp2_with fail
  refine (size_any x _ HX.out).mono ?_
  rintro e w1 ⟨rfl, rfl⟩
  go_wp2_with fail
  refine (product_any (sz x) (sz x) _ hx.1 (by omega) hx.1 (by omega)).mono ?_
  rintro e w3 ⟨rfl, hb⟩
  rw [HE.out]
  have hd : Wd w.heap.size 0 w3 := (Wd_new w 246).below hb
  have HD : Hid _ := hd.put (x * x)
  have HQ : Hid _ := World.cell?_setCell_same w3 ⟨w.heap.size, 0, none⟩ (.int .u64 (hi64 (x * x))) hd.hi
  have HB : Hid (Below w.heap.size w w3) := ((Below.refl _ _).alloc (Nat.le_refl _) _).trans (hb.mono (by simp))
  have m1 := hd.hi
  have m2 := hd.lo
  have m3 := hd.fh
  have m4 := hd.fl
  clear hb hd
  go_wp2
  refine bodyPost_ret (v := .agg #[.int .u64 (hi64 (x * x)), .int .u64 (lo64 (x * x))]) (by simp [results, Tryz.results224, go_sem, HQ.out, HD.out.lo]) rfl ?_
  exact ⟨rfl, (HB.out.setCell (Nat.le_refl _) _).setCell (Nat.le_refl _) _⟩

set_option maxHeartbeats 400000 in
theorem Norm_any (b : Nat) (bad : Bool) (x y z : Int) (w : World) (hw : Fl b bad w) :
    Calls Tryz.prog 135 #[.pointer (some ⟨b, 0, none⟩), .int .i64 x, .int .i64 y, .int .i64 z] w fun e w' => e = .returned (.int .i64 (normS bad x y z).1) ∧ Fl b (normS bad x y z).2 w' ∧ Kept b w w' := by
  go_enter Tryz.func135, Tryz.ntmps135
  go_wp2_with fail
  refine (takes3 b bad x y z w hw).mono ?_
  rintro e w1 ⟨rfl, h2, h3⟩
  cases c : tk bad [x, y, z]
  · rw [c] at h2
    have HS : Hid _ := normS_no c
    have H2 : Hid _ := h2
    have H3 : Hid _ := h3
    clear c h2 h3 hw
    go_wp2
    go_ret
    rw [HS.out]
    exact ⟨rfl, H2.out, H3.out⟩
  · rw [c] at h2
    have H2 : Hid _ := h2
    have H3 : Hid _ := h3
    have HS : Hid _ := normS_yes c
    have ht := tk_three c
    have HX : Hid _ := ht.2.1
    have HY : Hid _ := ht.2.2.1
    have HZ : Hid _ := ht.2.2.2
    clear hw h2 h3 c ht
    go_wp2_with fail
    refine (square_any x _ HX.out).mono ?_
    rintro e w2 ⟨rfl, h4⟩
    have H4 : Hid _ := h4
    clear h4
    go_wp2_with fail
    refine (square_any y _ HY.out).mono ?_
    rintro e w3 ⟨rfl, h5⟩
    have H5 : Hid _ := h5
    clear h5
    go_wp2_with fail
    refine (plus_any (x * x) (y * y) _ (sq_bd HX.out).1 (sq_bd HY.out).1 (by have := sq_bd HX.out; have := sq_bd HY.out; omega)).mono ?_
    rintro e w4 ⟨rfl, h6⟩
    have H6 : Hid _ := h6
    clear h6
    go_wp2_with fail
    refine (square_any z _ HZ.out).mono ?_
    rintro e w5 ⟨rfl, h7⟩
    have H7 : Hid _ := h7
    clear h7
    go_wp2_with fail
    refine (plus_any (x * x + y * y) (z * z) _ (by have := sq_bd HX.out; have := sq_bd HY.out; omega) (sq_bd HZ.out).1 (by have := sq_bd HX.out; have := sq_bd HY.out; have := sq_bd HZ.out; omega)).mono ?_
    rintro e w6 ⟨rfl, h8⟩
    have H8 : Hid _ := h8
    clear h8
    have HN : Hid (0 ≤ x * x + y * y + z * z ∧ x * x + y * y + z * z < 85070591730234615865843651857942052864) := by show _ ∧ _; have := sq_bd HX.out; have := sq_bd HY.out; have := sq_bd HZ.out; omega
    go_wp2_with fail
    refine (root_any (x * x + y * y + z * z) _).mono ?_
    rintro e w7 ⟨rfl, h9⟩
    have hf : Fl b false w7 := ((((((H2.out.below H4.out).below H5.out).below H6.out).below H7.out).below H8.out).alloc _).below h9
    have HK : Hid (Kept b w w7) := ((((((H3.out.trans (Kept.of_below H4.out)).trans (Kept.of_below H5.out)).trans (Kept.of_below H6.out)).trans (Kept.of_below H7.out)).trans (Kept.of_below H8.out)).trans (Kept.alloc b _ _)).trans (Kept.of_below h9)
    have HB : Hid _ := isq_bd _ HN.out.1 HN.out.2
    clear h9
    go_wp2_with fail
    refine (signed_any b _ _ _ hf HB.out.1 HB.out.2).mono ?_
    rintro e w8 ⟨rfl, h10, h11⟩
    go_wp2
    go_ret
    rw [HS.out]
    exact ⟨rfl, h10, HK.out.trans h11⟩
end Go.Proofs.YtoadcnhcfodkgaaGreatDoor
