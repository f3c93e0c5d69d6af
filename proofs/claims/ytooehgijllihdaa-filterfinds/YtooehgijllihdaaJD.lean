/- A part. -/
import Derived.Test.YtooehgijllihdaaJC
import Derived.Handy
import Derived.Deep.RegionHeld3
import Derived.Deep.DrawnRows
namespace Go.Proofs.Ytooehgijllihdaa
open Go.RowKit
attribute [local go_sem ↓] Go.wp_at_zero Go.wp_at_succ
set_option maxHeartbeats 400000 in
theorem longDivision_any (n d : Int) (w : World) (h0 : 0 ≤ n) (h1 : n ≤ 85070591730234615865843651857942052864) (hq : hi64 n < d) (hd : d ≤ 4611686018427387904) :
  Calls Try.prog 80 #[.agg #[.int .u64 (hi64 n), .int .u64 (lo64 n)], .int .u64 d] w fun e w' => e = .returned (.int .u64 (n / d)) ∧ Below w.heap.size w w' := by
 have b1 := hi64_bd n h0 (by omega)
 have b2 := lo64_bd n
 have hd0 : 0 < d := by omega
 go_enter Try.func80, Try.ntmps80
 go_wp2
 go_loop [6, 5, 7] (fun vr vq vj => ∃ j : Int, -1 ≤ j ∧ j ≤ 63 ∧ vr = .int .u64 (ldr n d (j + 1).toNat) ∧ vq = .int .u64 (ldq n d (j + 1).toNat) ∧ vj = .int .i64 j) (fun _ _ vj => (intOf vj + 1).toNat)
 case atStart =>
  have := ldq_64 n d h0 hq
  exact ⟨63, by omega, by omega, by show _ = Value.int .u64 (ldr n d 64); rw [this.2], by show _ = Value.int .u64 (ldq n d 64); rw [this.1], rfl⟩
 case round =>
  obtain ⟨j, hj0, hj1, rfl, rfl, rfl⟩ := hrel
  by_cases hj : 0 ≤ j
  ·obtain ⟨m, rfl⟩ := Int.eq_ofNat_of_zero_le hj
   rw [show ((m : Int) + 1).toNat = m + 1 by omega]
   have HS : Hid _ := ldq_step n d m hd0
   have HR : Hid _ := ldr_bd n d (m + 1) hd0
   have HQ : Hid _ := ldq_bd n d m hd0 h0 hq
   have HQ1 : Hid _ := ldq_bd n d (m + 1) hd0 h0 hq
   have HL : Hid _ := low_bit n m (by omega)
   generalize ldr n d (m + 1) = r at *
   generalize ldq n d (m + 1) = q at *
   have r1 := HR.out
   have HJ : Hid _ := ld_join n r m (by omega) r1.1 (by omega)
   go_wp2
   ·rename_i hc
    rw [HJ.out] at hc ⊢
    have e := HS.out.1 hc
    have q1 := HQ.out
    have q2 := HQ1.out
    refine ⟨⟨(m : Int) - 1, by omega, by omega, ?_, ?_, rfl⟩, by simp [intOf]⟩
    ·rw [show ((m : Int) - 1 + 1).toNat = m by omega, e.2, IntKind.wrap_u64]; congr 1; omega
    ·rw [show ((m : Int) - 1 + 1).toNat = m by omega, e.1, or_one q q2.1 (by omega)]
   ·rename_i hc
    rw [HJ.out] at hc ⊢
    have e := HS.out.2 hc
    have q1 := HQ.out
    have q2 := HQ1.out
    refine ⟨⟨(m : Int) - 1, by omega, by omega, ?_, ?_, rfl⟩, by simp [intOf]⟩
    ·rw [show ((m : Int) - 1 + 1).toNat = m by omega, e.2]
    ·rw [show ((m : Int) - 1 + 1).toNat = m by omega, e.1, IntKind.wrap_u64]; congr 1; omega
  ·go_wp2
   go_ret
   obtain rfl : j = -1 := by omega
   have := ldq_0 n d
   exact ⟨ret_int this.1, by go_grown⟩
set_option maxHeartbeats 400000 in
theorem quotient_any (n d : Int) (w : World) (h0 : 0 ≤ n) (h1 : n ≤ 21267647932558653966460912964485513216) (hd : 1 ≤ d) (hd' : d ≤ 4611686018427387904) :
  Calls Try.prog 76 #[.agg #[.int .u64 (hi64 n), .int .u64 (lo64 n)], .int .u64 d] w fun e w' => e = .returned (.int .u64 (sat64 (rnd n d))) ∧ Below w.heap.size w w' := by
 have HM : Hid _ := rnd_much n d hd
 have HI : Hid _ := rnd_in n d hd
 go_enter Try.func76, Try.ntmps76
 go_wp2_with fail
 refine (plus_lit n (d / 2) _ h0 (by omega) (by omega) (by omega)).mono ?_
 rintro e w1 ⟨rfl, hb⟩
 obtain ⟨hc, hf⟩ := bcell hb
 have hz : w.heap.size < w1.heap.size := by have := hb.size; simp at this; omega
 have hw : ∀ u v, Below w.heap.size w ((w1.setCell ⟨w.heap.size, 0, none⟩ u).setCell ⟨w.heap.size, 1, none⟩ v) := fun u v => ((((Below.refl _ _).alloc (Nat.le_refl _) _).trans (hb.mono (by simp))).setCell (Nat.le_refl _) _).setCell (Nat.le_refl _) _
 have HW : Hid _ := hw
 clear hw hb
 have n0 : 0 ≤ n + d / 2 := by omega
 have n1 : n + d / 2 ≤ 85070591730234615865843651857942052864 := by omega
 clear h0 h1
 generalize n + d / 2 = m at *
 have b1 := hi64_bd m n0 (by omega)
 have b2 := lo64_bd m
 have HE : Hid _ := hilo m
 by_cases c : d ≤ hi64 m
 ·go_wp2
  go_ret
  exact ⟨ret_int (HM.out c), HW.out _ _⟩
 ·by_cases c2 : hi64 m = 0
  ·have c3 : (hi64 m == 0) = true := by simp [c2]
   have d0 : (d == 0) = false := by simp; omega
   have HC : Hid _ := c2
   clear c2
   go_wp2
   go_ret
   refine ⟨ret_int ?_, HW.out _ _⟩
   rw [← HI.out (by omega)]
   congr 1
   have := HE.out
   rw [HC.out] at this
   omega
  ·have c3 : (hi64 m == 0) = false := by simp [c2]
   have HC : Hid _ := c2
   clear c2
   go_wp2_with fail
   refine (longDivision_any m d _ n0 n1 (by omega) hd').mono ?_
   rintro e w2 ⟨rfl, hb2⟩
   go_wp2
   go_ret
   exact ⟨ret_int (HI.out (by omega)), (HW.out _ _).trans (hb2.mono (by simp; omega))⟩
set_option maxHeartbeats 400000 in
theorem root_any (n : Int) (w : World) :
  Calls Try.prog 57 #[.agg #[.int .u64 (hi64 n), .int .u64 (lo64 n)]] w fun e w' => e = .returned (.int .u64 (isq n)) ∧ Below w.heap.size w w' := by
 go_enter Try.func57, Try.ntmps57
 go_wp2
 have HB0 : Hid (Below (w.heap.size + 1) (w.alloc (.cells #[.int .u64 (hi64 n), .int .u64 (lo64 n)] 84)) (w.alloc (.cells #[.int .u64 (hi64 n), .int .u64 (lo64 n)] 84))) := Below.refl _ _
 go_loopw [3, 4] (fun v3 v4 wr => ∃ (j : Nat) (r : Int), j ≤ 63 ∧ v3 = .int .u64 r ∧ v4 = .int .u64 (bitAt j) ∧ 0 ≤ r ∧ Hid (isqf n j r = isq n ∧ r % 2 ^ j = 0 ∧ r + 2 ^ j ≤ 9223372036854775808) ∧ Hid (Below (w.heap.size + 1) (w.alloc (.cells #[.int .u64 (hi64 n), .int .u64 (lo64 n)] 84)) wr)) (fun _ v4 _ => (intOf v4).toNat)
 case atStart => exact ⟨63, 0, Nat.le_refl _, rfl, rfl, Int.le_refl _, ⟨rfl, rfl, by decide⟩, HB0⟩
 case round =>
  obtain ⟨j, r, hj, rfl, rfl, hr0, HR, HB⟩ := hrel
  cases j with
  | zero =>
   have hz : (bitAt 0 != 0) = false := rfl
   go_wp2
   go_ret
   exact ⟨ret_int HR.out.1, ((Below.refl _ _).alloc (Nat.le_refl _) _).trans (HB.out.mono (by omega))⟩
  | succ j =>
   have HE : Hid (bitAt (j + 1) = 2 ^ j) := rfl
   have hbd := bitAt_bd (j + 1) hj
   have HH : Hid _ := bitAt_half j
   have HO : Hid _ := or_pow r j hr0 HR.out.2.1 (by have := HR.out.2.2; have := two_pow_pos (j + 1); omega) (by omega)
   have HD : Hid _ := root_bd r j HR.out.2.2
   have HM : Hid _ := mod_pow_half r j HR.out.2.1
   have HP : Hid _ := two_pow_pos j
   have HF : Hid (isqf n (j + 1) r = isqf n j (if (r + 2 ^ j) * (r + 2 ^ j) ≤ n then r + 2 ^ j else r)) := rfl
   have hne : (bitAt (j + 1) != 0) = true := by rw [HE.out]; simp; have := HP.out; omega
   have hor : bits .or .u64 r (bitAt (j + 1)) = r + bitAt (j + 1) := by rw [HE.out]; exact HO.out
   have hle : r + bitAt (j + 1) ≤ 9223372036854775807 := by rw [HE.out]; have := HD.out; have := HP.out; omega
   have c0 := HB.out.cell (p := ⟨w.heap.size, 0, none⟩) (by simp)
   have c1 := HB.out.cell (p := ⟨w.heap.size, 1, none⟩) (by simp)
   simp at c0 c1
   have hzs : w.heap.size < wr.heap.size := by have := HB.out.size; simp at this; omega
   generalize bitAt (j + 1) = t at *
   have hbd2 : 0 ≤ r + t := by omega
   have HJ : Hid (j ≤ 63) := by show _ ≤ _; omega
   clear hj
   go_wp2
   go_region_held3 (fun w' => w'.cell? ⟨w.heap.size, 0, none⟩ = some (.int .u64 (hi64 n)) ∧ w'.cell? ⟨w.heap.size, 1, none⟩ = some (.int .u64 (lo64 n))) ((first | exact ⟨c0, c1⟩ | exact ⟨cell_later hb1 c0, cell_later hb1 c1⟩ | exact ⟨cell_later hb2 (cell_later hb1 c0), cell_later hb2 (cell_later hb1 c1)⟩))
    (first
     | (go_at_call 60; refine (product_any (r + t) (r + t) _ hbd2 (by omega) hbd2 (by omega)).mono ?_; rintro e w1 ⟨rfl, hb1⟩; obtain ⟨d1, d2⟩ := bcell hb1)
     | (go_at_call 78; refine (wabove_any _ _ _).mono ?_; rintro e w2 ⟨rfl, hb2⟩; obtain ⟨d3, d4⟩ := bcell hb2))
   have HW : Hid (Below (w.heap.size + 1) (w.alloc (.cells #[.int .u64 (hi64 n), .int .u64 (lo64 n)] 84)) w2) := (HB.out.drew.trans (hb1.mono (B' := w.heap.size + 1) (by simp; omega))).trans (hb2.mono (B' := w.heap.size + 1) (by have := hb1.size; simp at this; omega))
   have hle2 := HD.out
   rw [← HE.out] at hle2
   have HF2 : Hid (isqf n (j + 1) r = isqf n j (if (r + t) * (r + t) ≤ n then r + t else r)) := by rw [HE.out]; exact HF.out
   have HM2 : Hid (r % 2 ^ j = 0 ∧ (r + t) % 2 ^ j = 0) := by rw [HE.out]; exact HM.out
   have ht : t / 2 = bitAt j := HH.out
   have ht0 : 0 < t := by rw [HE.out]; exact HP.out
   have HT : Hid _ := ht
   clear ht hb1 hb2 d1 d2 d3 d4 c0 c1 hor
   cases c : decide (n < (r + t) * (r + t))
   ·have hc := Int.not_lt.mp (of_decide_eq_false c)
    have HC : Hid _ := hc
    clear hc
    clear c
    go_wp2
    refine ⟨⟨j, r + t, HJ.out, rfl, ?_, hbd2, ⟨?_, HM2.out.2, ?_⟩, HW.out⟩, ?_⟩
    ·rw [← HT.out]
    ·rw [← HR.out.1, HF2.out, if_pos HC.out]
    ·rw [← HE.out]; omega
    ·simp [intOf]; omega
   ·have hc := of_decide_eq_true c
    have HC : Hid _ := hc
    clear hc
    clear c
    go_wp2
    refine ⟨⟨j, r, HJ.out, rfl, ?_, hr0, ⟨?_, HM2.out.1, ?_⟩, HW.out⟩, ?_⟩
    ·rw [← HT.out]
    ·rw [← HR.out.1, HF2.out, if_neg (Int.not_le.mpr HC.out)]
    ·rw [← HE.out]; omega
    ·simp [intOf]; omega
end Go.Proofs.Ytooehgijllihdaa
namespace Go.Proofs.Ytooehgijllihdaa
open Go.RowKit
set_option maxHeartbeats 400000 in
theorem Add_any (b : Nat) (bad : Bool) (x y : Int) (w : World) (hw : Fl b bad w) :
  Calls Try.prog 31 #[.pointer (some ⟨b, 0, none⟩), .int .i64 x, .int .i64 y] w fun e w' => e = .returned (.int .i64 (addS bad x y).1) ∧ Fl b (addS bad x y).2 w' ∧ Kept b w w' := by
 go_enter Try.func31, Try.ntmps31
 go_wp2_with fail
 refine (takes2 b bad x y w hw).mono ?_
 rintro e w1 ⟨rfl, h2, h3⟩
 cases c : tk bad [x, y]
 ·rw [c] at h2
  have HS : Hid _ := addS_no c
  have H2 : Hid _ := h2
  have H3 : Hid _ := h3
  clear c h2 h3 hw
  go_wp2
  go_ret
  rw [HS.out]
  exact ⟨rfl, H2.out, H3.out⟩
 ·rw [c] at h2
  have HS : Hid _ := addS_yes c
  have H3 : Hid _ := h3
  clear h3
  have ht := tk_two c
  have hx := numB_bd ht.2.1
  have hy := numB_bd ht.2.2
  clear c hw ht
  go_wp2_with fail
  refine (gives_any b _ _ h2).mono ?_
  rintro e w2 ⟨rfl, h4, h5⟩
  go_wp2
  go_ret
  rw [HS.out]
  rw [gv_wrap (x + y) (by omega)] at h4 ⊢
  exact ⟨rfl, h4, H3.out.trans h5⟩
set_option maxHeartbeats 400000 in
theorem Sub_any (b : Nat) (bad : Bool) (x y : Int) (w : World) (hw : Fl b bad w) :
  Calls Try.prog 26 #[.pointer (some ⟨b, 0, none⟩), .int .i64 x, .int .i64 y] w fun e w' => e = .returned (.int .i64 (subS bad x y).1) ∧ Fl b (subS bad x y).2 w' ∧ Kept b w w' := by
 go_enter Try.func26, Try.ntmps26
 go_wp2_with fail
 refine (takes2 b bad x y w hw).mono ?_
 rintro e w1 ⟨rfl, h2, h3⟩
 cases c : tk bad [x, y]
 ·rw [c] at h2
  have HS : Hid _ := subS_no c
  have H2 : Hid _ := h2
  have H3 : Hid _ := h3
  clear c h2 h3 hw
  go_wp2
  go_ret
  rw [HS.out]
  exact ⟨rfl, H2.out, H3.out⟩
 ·rw [c] at h2
  have HS : Hid _ := subS_yes c
  have H3 : Hid _ := h3
  clear h3
  have ht := tk_two c
  have hx := numB_bd ht.2.1
  have hy := numB_bd ht.2.2
  clear c hw ht
  go_wp2_with fail
  refine (gives_any b _ _ h2).mono ?_
  rintro e w2 ⟨rfl, h4, h5⟩
  go_wp2
  go_ret
  rw [HS.out]
  rw [gv_wrap (x - y) (by omega)] at h4 ⊢
  exact ⟨rfl, h4, H3.out.trans h5⟩
set_option maxHeartbeats 400000 in
theorem Mul_any (b : Nat) (bad : Bool) (x y : Int) (w : World) (hw : Fl b bad w) :
  Calls Try.prog 27 #[.pointer (some ⟨b, 0, none⟩), .int .i64 x, .int .i64 y] w fun e w' => e = .returned (.int .i64 (mulS bad x y).1) ∧ Fl b (mulS bad x y).2 w' ∧ Kept b w w' := by
 go_enter Try.func27, Try.ntmps27
 go_wp2_with fail
 refine (takes2 b bad x y w hw).mono ?_
 rintro e w1 ⟨rfl, h2, h3⟩
 cases c : tk bad [x, y]
 ·rw [c] at h2
  have HS : Hid _ := mulS_no c
  have H2 : Hid _ := h2
  have H3 : Hid _ := h3
  clear c h2 h3 hw
  go_wp2
  go_ret
  rw [HS.out]
  exact ⟨rfl, H2.out, H3.out⟩
 ·rw [c] at h2
  have HS : Hid _ := mulS_yes c
  have H2 : Hid _ := h2
  have H3 : Hid _ := h3
  have ht := tk_two c
  have hx := sz_bd ht.2.1
  have hy := sz_bd ht.2.2
  have HX : Hid _ := ht.2.1
  have HY : Hid _ := ht.2.2
  clear c hw ht h2 h3
  go_wp2_with fail
  refine (size_any x _ HX.out).mono ?_
  rintro e w2 ⟨rfl, rfl⟩
  go_wp2_with fail
  refine (size_any y _ HY.out).mono ?_
  rintro e w2 ⟨rfl, rfl⟩
  go_wp2_with fail
  refine (product_any (sz x) (sz y) _ hx.1 (by omega) hy.1 (by omega)).mono ?_
  rintro e w3 ⟨rfl, h4⟩
  have H4 : Hid _ := h4
  clear h4
  go_wp2_with fail
  refine (shifted_any (sz x * sz y) _ (sz_mul_bd HX.out HY.out).1 (by have := sz_mul_bd HX.out HY.out; omega)).mono ?_
  rintro e w4 ⟨rfl, h5⟩
  have hf := ((H2.out.below H4.out).alloc _).below h5
  have HK : Hid (Kept b w w4) := ((H3.out.trans (Kept.of_below H4.out)).trans (Kept.alloc b _ _)).trans (Kept.of_below h5)
  have HB : Hid _ := sat_bd ((sz x * sz y + 549755813888) / 1099511627776) (by have := sz_mul_bd HX.out HY.out; omega)
  clear h5
  go_wp2_with fail
  refine (signed_any b _ _ _ hf HB.out.1 HB.out.2).mono ?_
  rintro e w5 ⟨rfl, h6, h7⟩
  go_wp2
  go_ret
  rw [HS.out]
  rw [sat_out] at h6 ⊢
  exact ⟨rfl, h6, HK.out.trans h7⟩
set_option maxHeartbeats 400000 in
theorem Part_any (b : Nat) (bad : Bool) (x p q : Int) (w : World) (hw : Fl b bad w) :
  Calls Try.prog 52 #[.pointer (some ⟨b, 0, none⟩), .int .i64 x, .int .i64 p, .int .i64 q] w fun e w' => e = .returned (.int .i64 (partS bad x p q).1) ∧ Fl b (partS bad x p q).2 w' ∧ Kept b w w' := by
 go_enter Try.func52, Try.ntmps52
 go_wp2_with fail
 refine (takes3 b bad x p q w hw).mono ?_
 rintro e w1 ⟨rfl, h2, h3⟩
 cases c : tk bad [x, p, q]
 ·rw [c] at h2
  have HS : Hid _ := partS_no c
  have H2 : Hid _ := h2
  have H3 : Hid _ := h3
  clear c h2 h3 hw
  go_wp2
  go_ret
  rw [HS.out]
  exact ⟨rfl, H2.out, H3.out⟩
 ·rw [c] at h2
  have H2 : Hid _ := h2
  have H3 : Hid _ := h3
  clear hw h2 h3
  by_cases q0 : q = 0
  ·subst q0
   have HS : Hid _ := partS_zero (bad := bad) (a := x) (p := p)
   clear c
   go_wp2_with fail
   refine (Fail_any b _ _ H2.out).mono ?_
   rintro e w2 ⟨rfl, h4, h5⟩
   go_wp2
   go_ret
   rw [HS.out]
   exact ⟨rfl, h4, H3.out.trans h5⟩
  ·have q1 : (q == 0) = false := by simpa using q0
   have q2 : (q != 0) = true := by simpa using q0
   have HS : Hid _ := partS_yes c q2
   have ht := tk_three c
   have hx := sz_bd ht.2.1
   have hp := sz_bd ht.2.2.1
   have hq := sz_bd ht.2.2.2
   have hq1 := sz_pos q2
   have HX : Hid _ := ht.2.1
   have HP : Hid _ := ht.2.2.1
   have HQ : Hid _ := ht.2.2.2
   clear c ht q0 q2
   go_wp2_with fail
   refine (size_any x _ HX.out).mono ?_
   rintro e w2 ⟨rfl, rfl⟩
   go_wp2_with fail
   refine (size_any p _ HP.out).mono ?_
   rintro e w2 ⟨rfl, rfl⟩
   go_wp2_with fail
   refine (product_any (sz x) (sz p) _ hx.1 (by omega) hp.1 (by omega)).mono ?_
   rintro e w3 ⟨rfl, h4⟩
   have H4 : Hid _ := h4
   clear h4
   go_wp2_with fail
   refine (size_any q _ HQ.out).mono ?_
   rintro e w2 ⟨rfl, rfl⟩
   go_wp2_with fail
   refine (quotient_any (sz x * sz p) (sz q) _ (sz_mul_bd HX.out HP.out).1 (sz_mul_bd HX.out HP.out).2 hq1 hq.2).mono ?_
   rintro e w4 ⟨rfl, h5⟩
   have hf := (H2.out.below H4.out).below h5
   have HK : Hid (Kept b w w4) := (H3.out.trans (Kept.of_below H4.out)).trans (Kept.of_below h5)
   have HB : Hid _ := sat_bd (rnd (sz x * sz p) (sz q)) (rnd_nonneg (sz_mul_bd HX.out HP.out).1 hq1)
   clear h5
   go_wp2_with fail
   refine (signed_any b _ _ _ hf HB.out.1 HB.out.2).mono ?_
   rintro e w5 ⟨rfl, h6, h7⟩
   go_wp2
   go_ret
   rw [HS.out]
   rw [sat_out] at h6 ⊢
   exact ⟨rfl, h6, HK.out.trans h7⟩
set_option maxHeartbeats 400000 in
theorem Div_any (b : Nat) (bad : Bool) (x y : Int) (w : World) (hw : Fl b bad w) :
  Calls Try.prog 20 #[.pointer (some ⟨b, 0, none⟩), .int .i64 x, .int .i64 y] w fun e w' => e = .returned (.int .i64 (divS bad x y).1) ∧ Fl b (divS bad x y).2 w' ∧ Kept b w w' := by
 go_enter Try.func20, Try.ntmps20
 go_wp2_with fail
 refine (Part_any b bad x 1099511627776 y w hw).mono ?_
 rintro e w1 ⟨rfl, h2, h3⟩
 go_wp2
 go_ret
 exact ⟨rfl, h2, h3⟩
set_option maxHeartbeats 400000 in
theorem Sqrt_any (b : Nat) (bad : Bool) (x : Int) (w : World) (hw : Fl b bad w) :
  Calls Try.prog 63 #[.pointer (some ⟨b, 0, none⟩), .int .i64 x] w fun e w' => e = .returned (.int .i64 (sqrtS bad x).1) ∧ Fl b (sqrtS bad x).2 w' ∧ Kept b w w' := by
 go_enter Try.func63, Try.ntmps63
 go_wp2_with fail
 refine (takes1 b bad x w hw).mono ?_
 rintro e w1 ⟨rfl, h2, h3⟩
 cases c : tk bad [x]
 ·rw [c] at h2
  have HS : Hid _ := sqrtS_no c
  have H2 : Hid _ := h2
  have H3 : Hid _ := h3
  clear c h2 h3 hw
  go_wp2
  go_ret
  rw [HS.out]
  exact ⟨rfl, H2.out, H3.out⟩
 ·rw [c] at h2
  have H2 : Hid _ := h2
  have H3 : Hid _ := h3
  clear hw h2 h3
  by_cases x0 : 0 ≤ x
  ·have HS : Hid _ := sqrtS_yes c x0
   have ht := tk_one c
   have hx := sz_bd ht.2
   have HX : Hid _ := ht.2
   have HE : Hid (sz x = x) := sz_nonneg x0
   clear c ht
   go_wp2_with fail
   refine (size_any x _ HX.out).mono ?_
   rintro e w2 ⟨rfl, rfl⟩
   rw [HE.out] at hx ⊢
   go_wp2_with fail
   refine (product_any x 1099511627776 _ x0 (by omega) (by omega) (by omega)).mono ?_
   rintro e w3 ⟨rfl, h4⟩
   have H4 : Hid _ := h4
   clear h4
   go_wp2_with fail
   refine (root_any (x * 1099511627776) _).mono ?_
   rintro e w4 ⟨rfl, h5⟩
   have hf := (H2.out.below H4.out).below h5
   have HK : Hid (Kept b w w4) := (H3.out.trans (Kept.of_below H4.out)).trans (Kept.of_below h5)
   have HB : Hid _ := isq_bd (x * 1099511627776) (by omega) (by omega)
   clear h5
   go_wp2_with fail
   refine (signed_any b _ _ _ hf HB.out.1 HB.out.2).mono ?_
   rintro e w5 ⟨rfl, h6, h7⟩
   go_wp2
   go_ret
   rw [HS.out]
   exact ⟨rfl, h6, HK.out.trans h7⟩
  ·have HS : Hid _ := sqrtS_low (bad := bad) x0
   have x1 : x < 0 := by omega
   clear c x0
   go_wp2_with fail
   refine (Fail_any b _ _ H2.out).mono ?_
   rintro e w2 ⟨rfl, h4, h5⟩
   go_wp2
   go_ret
   rw [HS.out]
   exact ⟨rfl, h4, H3.out.trans h5⟩
end Go.Proofs.Ytooehgijllihdaa
namespace Go.Proofs.Ytooehgijllihdaa
open Go.RowKit
set_option maxHeartbeats 400000 in
theorem square_any (x : Int) (w : World) (h : numB x = true) :
  Calls Try.prog 54 #[.int .i64 x] w fun e w' => e = .returned (.agg #[.int .u64 (hi64 (x * x)), .int .u64 (lo64 (x * x))]) ∧ Below w.heap.size w w' := by
 have hx := sz_bd h
 have HX : Hid _ := h
 have HE : Hid (sz x * sz x = x * x) := sz_sq x
 clear h
 go_enter Try.func54, Try.ntmps54
 go_wp2_with fail
 refine (size_any x _ HX.out).mono ?_
 rintro e w1 ⟨rfl, rfl⟩
 go_wp2_with fail
 refine (size_any x _ HX.out).mono ?_
 rintro e w1 ⟨rfl, rfl⟩
 go_wp2_with fail
 refine (product_any (sz x) (sz x) _ hx.1 (by omega) hx.1 (by omega)).mono ?_
 rintro e w3 ⟨rfl, hb⟩
 rw [HE.out]
 have hd : Wd w.heap.size 0 w3 := (Wd_new w 84).below hb
 have HD : Hid _ := hd.put (x * x)
 have HQ : Hid _ := World.cell?_setCell_same w3 ⟨w.heap.size, 0, none⟩ (.int .u64 (hi64 (x * x))) hd.hi
 have HB : Hid (Below w.heap.size w w3) := ((Below.refl _ _).alloc (Nat.le_refl _) _).trans (hb.mono (by simp))
 have m1 := hd.hi
 have m2 := hd.lo
 have m3 := hd.fh
 have m4 := hd.fl
 clear hb hd
 go_wp2
 refine bodyPost_ret (v := .agg #[.int .u64 (hi64 (x * x)), .int .u64 (lo64 (x * x))]) (by simp [results, Try.results54, go_sem, HQ.out, HD.out.lo]) rfl ?_
 exact ⟨rfl, (HB.out.setCell (Nat.le_refl _) _).setCell (Nat.le_refl _) _⟩
set_option maxHeartbeats 400000 in
theorem Norm_any (b : Nat) (bad : Bool) (x y z : Int) (w : World) (hw : Fl b bad w) :
  Calls Try.prog 16 #[.pointer (some ⟨b, 0, none⟩), .int .i64 x, .int .i64 y, .int .i64 z] w fun e w' => e = .returned (.int .i64 (normS bad x y z).1) ∧ Fl b (normS bad x y z).2 w' ∧ Kept b w w' := by
 go_enter Try.func16, Try.ntmps16
 go_wp2_with fail
 refine (takes3 b bad x y z w hw).mono ?_
 rintro e w1 ⟨rfl, h2, h3⟩
 cases c : tk bad [x, y, z]
 ·rw [c] at h2
  have HS : Hid _ := normS_no c
  have H2 : Hid _ := h2
  have H3 : Hid _ := h3
  clear c h2 h3 hw
  go_wp2
  go_ret
  rw [HS.out]
  exact ⟨rfl, H2.out, H3.out⟩
 ·rw [c] at h2
  have H2 : Hid _ := h2
  have H3 : Hid _ := h3
  have HS : Hid _ := normS_yes c
  have ht := tk_three c
  have HX : Hid _ := ht.2.1
  have HY : Hid _ := ht.2.2.1
  have HZ : Hid _ := ht.2.2.2
  clear hw h2 h3 c ht
  go_wp2_with fail
  refine (square_any x _ HX.out).mono ?_
  rintro e w2 ⟨rfl, h4⟩
  have H4 : Hid _ := h4
  clear h4
  go_wp2_with fail
  refine (square_any y _ HY.out).mono ?_
  rintro e w3 ⟨rfl, h5⟩
  have H5 : Hid _ := h5
  clear h5
  go_wp2_with fail
  refine (plus_any (x * x) (y * y) _ (sq_bd HX.out).1 (sq_bd HY.out).1 (by have := sq_bd HX.out; have := sq_bd HY.out; omega)).mono ?_
  rintro e w4 ⟨rfl, h6⟩
  have H6 : Hid _ := h6
  clear h6
  go_wp2_with fail
  refine (square_any z _ HZ.out).mono ?_
  rintro e w5 ⟨rfl, h7⟩
  have H7 : Hid _ := h7
  clear h7
  go_wp2_with fail
  refine (plus_any (x * x + y * y) (z * z) _ (by have := sq_bd HX.out; have := sq_bd HY.out; omega) (sq_bd HZ.out).1 (by have := sq_bd HX.out; have := sq_bd HY.out; have := sq_bd HZ.out; omega)).mono ?_
  rintro e w6 ⟨rfl, h8⟩
  have H8 : Hid _ := h8
  clear h8
  have HN : Hid (0 ≤ x * x + y * y + z * z ∧ x * x + y * y + z * z < 85070591730234615865843651857942052864) := by show _ ∧ _; have := sq_bd HX.out; have := sq_bd HY.out; have := sq_bd HZ.out; omega
  go_wp2_with fail
  refine (root_any (x * x + y * y + z * z) _).mono ?_
  rintro e w7 ⟨rfl, h9⟩
  have hf := ((((((H2.out.below H4.out).below H5.out).below H6.out).below H7.out).below H8.out).alloc _).below h9
  have HK : Hid (Kept b w w7) := ((((((H3.out.trans (Kept.of_below H4.out)).trans (Kept.of_below H5.out)).trans (Kept.of_below H6.out)).trans (Kept.of_below H7.out)).trans (Kept.of_below H8.out)).trans (Kept.alloc b _ _)).trans (Kept.of_below h9)
  have HB : Hid _ := isq_bd _ HN.out.1 HN.out.2
  clear h9
  go_wp2_with fail
  refine (signed_any b _ _ _ hf HB.out.1 HB.out.2).mono ?_
  rintro e w8 ⟨rfl, h10, h11⟩
  go_wp2
  go_ret
  rw [HS.out]
  exact ⟨rfl, h10, HK.out.trans h11⟩
end Go.Proofs.Ytooehgijllihdaa
