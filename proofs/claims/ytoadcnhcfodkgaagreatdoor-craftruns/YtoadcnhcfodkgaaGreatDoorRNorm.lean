/-
  The walk of the reference's lengths (alidaderef01.Norm), for the seat YtoadcnhcfodkgaaGreatDoor.
-/
import Derived.Test.YtoadcnhcfodkgaaGreatDoorRAbove
import Derived.Handy
import Derived.Deep.RegionHeld3
import Derived.Deep.DrawnRows
namespace Go.Proofs.YtoadcnhcfodkgaaGreatDoor
open Go.RowKit
attribute [local go_sem ↓] Go.wp_at_zero Go.wp_at_succ

set_option maxHeartbeats 800000 in
theorem rNorm_any (b : Nat) (bad : Bool) (x y z : Int) (w : World) (hw : Fl b bad w) :
    Calls Tryz.prog 79 #[.pointer (some ⟨b, 0, none⟩), .int .i64 x, .int .i64 y, .int .i64 z] w fun e w' => e = .returned (.int .i64 (normS bad x y z).1) ∧ Fl b (normS bad x y z).2 w' ∧ Kept b w w' := by
  go_enter Tryz.func79, Tryz.ntmps79
  go_wp2_with fail
  refine (rtake3 b bad x y z w hw).mono ?_
  rintro e w1 ⟨rfl, h2, h3⟩
  cases c : tk bad [x, y, z]
  · rw [c] at h2
    have HS : Hid _ := normS_no c
    have H2 : Hid _ := h2
    have H3 : Hid _ := h3
    clear c h2 h3 hw
    go_wp2
    go_ret
    rw [HS.out]
    exact ⟨rfl, H2.out, H3.out⟩
  · rw [c] at h2
    have H2 : Hid _ := h2
    have H3 : Hid _ := h3
    have HS : Hid _ := normS_yes c
    have ht := tk_three c
    have HX : Hid _ := ht.2.1
    have HY : Hid _ := ht.2.2.1
    have HZ : Hid _ := ht.2.2.2
    have sx := sz_bd ht.2.1
    have sy := sz_bd ht.2.2.1
    have sz' := sz_bd ht.2.2.2
    clear hw h2 h3 c ht
    go_wp2_with fail
    refine (rsize_any x _ HX.out).mono ?_
    rintro e w2 ⟨rfl, rfl⟩
    go_wp2_with fail
    refine (rsize_any x _ HX.out).mono ?_
    rintro e w2 ⟨rfl, rfl⟩
    go_wp2_with fail
    refine (rTimes_any (sz x) (sz x) _ ⟨sx.1, by omega⟩ ⟨sx.1, by omega⟩).mono ?_
    rintro e w3 ⟨rfl, h4⟩
    rw [sz_sq]
    have F3 : Hid _ := H2.out.below h4
    have K3 : Hid _ := H3.out.trans (Kept.of_below h4)
    clear h4 H2 H3
    go_wp2_with fail
    refine (rsize_any y _ HY.out).mono ?_
    rintro e w2 ⟨rfl, rfl⟩
    go_wp2_with fail
    refine (rsize_any y _ HY.out).mono ?_
    rintro e w2 ⟨rfl, rfl⟩
    go_wp2_with fail
    refine (rTimes_any (sz y) (sz y) _ ⟨sy.1, by omega⟩ ⟨sy.1, by omega⟩).mono ?_
    rintro e w4 ⟨rfl, h4⟩
    rw [sz_sq]
    have F4 : Hid _ := F3.out.below h4
    have K4 : Hid _ := K3.out.trans (Kept.of_below h4)
    clear h4 F3 K3
    go_wp2_with fail
    refine (radd_any (x * x) (y * y) _ (sq_bd HX.out).1 (sq_bd HY.out).1 (by have := sq_bd HX.out; have := sq_bd HY.out; omega)).mono ?_
    rintro e w5 ⟨rfl, h4⟩
    have F5 : Hid _ := F4.out.below h4
    have K5 : Hid _ := K4.out.trans (Kept.of_below h4)
    clear h4 F4 K4
    go_wp2_with fail
    refine (rsize_any z _ HZ.out).mono ?_
    rintro e w2 ⟨rfl, rfl⟩
    go_wp2_with fail
    refine (rsize_any z _ HZ.out).mono ?_
    rintro e w2 ⟨rfl, rfl⟩
    go_wp2_with fail
    refine (rTimes_any (sz z) (sz z) _ ⟨sz'.1, by omega⟩ ⟨sz'.1, by omega⟩).mono ?_
    rintro e w6 ⟨rfl, h4⟩
    rw [sz_sq]
    have F6 : Hid _ := F5.out.below h4
    have K6 : Hid _ := K5.out.trans (Kept.of_below h4)
    clear h4 F5 K5 sx sy sz'
    go_wp2_with fail
    refine (radd_any (x * x + y * y) (z * z) _ (by have := sq_bd HX.out; have := sq_bd HY.out; omega) (sq_bd HZ.out).1 (by have := sq_bd HX.out; have := sq_bd HY.out; have := sq_bd HZ.out; omega)).mono ?_
    rintro e w2 ⟨rfl, h4⟩
    have HF : Hid _ := F6.out.below h4
    have HK : Hid _ := K6.out.trans (Kept.of_below h4)
    have HN : Hid (0 ≤ x * x + y * y + z * z ∧ x * x + y * y + z * z < 85070591730234615865843651857942052864) := by show _ ∧ _; have := sq_bd HX.out; have := sq_bd HY.out; have := sq_bd HZ.out; omega
    clear h4 F6 K6 HX HY HZ
    generalize x * x + y * y + z * z = n at *
    have n0 := HN.out.1
    go_wp2
    have HB0 : Hid (Below (w2.heap.size + 1) (w2.alloc (.cells #[.int .u64 (hi64 n), .int .u64 (lo64 n)] 220)) (w2.alloc (.cells #[.int .u64 (hi64 n), .int .u64 (lo64 n)] 220))) := Below.refl _ _
    go_loopw [10, 11] (fun v6 v7 wr => ∃ j r : Int, -1 ≤ j ∧ j ≤ 62 ∧ v6 = .int .u64 r ∧ v7 = .int .i64 j ∧ 0 ≤ r ∧ r ≤ 9223372036854775807 ∧ Hid (isqf n (j + 1).toNat r = isqf n 63 0 ∧ r + 2 ^ (j + 1).toNat ≤ 2 ^ 63) ∧ Hid (Below (w2.heap.size + 1) (w2.alloc (.cells #[.int .u64 (hi64 n), .int .u64 (lo64 n)] 220)) wr)) (fun _ v7 _ => (intOf v7 + 1).toNat)
    case atStart => exact ⟨62, 0, by omega, by omega, rfl, rfl, Int.le_refl _, by omega, ⟨rfl, by decide⟩, HB0⟩
    case round =>
      obtain ⟨j, r, hj0, hj1, rfl, rfl, hr0, hr1, HR, HB⟩ := hrel
      by_cases hj : 0 ≤ j
      · obtain ⟨m, rfl⟩ := Int.eq_ofNat_of_zero_le hj
        have c0 := HB.out.cell (p := ⟨w2.heap.size, 0, none⟩) (by simp)
        have c1 := HB.out.cell (p := ⟨w2.heap.size, 1, none⟩) (by simp)
        simp at c0 c1
        have hzs : w2.heap.size < wr.heap.size := by have := HB.out.size; simp at this; omega
        have HE : Hid (bitAt (m + 1) = 2 ^ m) := rfl
        have HP0 : Hid (0 < bitAt (m + 1)) := two_pow_pos m
        have hwp : IntKind.u64.wrap (2 ^ m) = bitAt (m + 1) := wrap_bit m (by omega)
        have hbd := bitAt_bd (m + 1) (by omega)
        have HR2 : Hid _ := HR.out.2
        rw [show ((m : Int) + 1).toNat = m + 1 by omega] at HR HR2
        have HL : Hid (r + 2 ^ m + 2 ^ m ≤ 2 ^ 63) := by show _ ≤ _; have := HR2.out; rw [Int.pow_succ] at this; omega
        have HF : Hid (isqf n (m + 1) r = isqf n m (if (r + 2 ^ m) * (r + 2 ^ m) ≤ n then r + 2 ^ m else r)) := rfl
        rw [← HE.out] at HL HF
        have hle : r + bitAt (m + 1) ≤ 9223372036854775807 := by have := HL.out; simp at this; have := HP0.out; omega
        generalize bitAt (m + 1) = t at *
        have hbd2 : 0 ≤ r + t := by omega
        go_wp2
        go_region_held3 (fun w' => w'.cell? ⟨w2.heap.size, 0, none⟩ = some (.int .u64 (hi64 n)) ∧ w'.cell? ⟨w2.heap.size, 1, none⟩ = some (.int .u64 (lo64 n))) ((first | exact ⟨c0, c1⟩ | exact ⟨cell_later hb1 c0, cell_later hb1 c1⟩ | exact ⟨cell_later hb2 (cell_later hb1 c0), cell_later hb2 (cell_later hb1 c1)⟩))
          (first
            | (go_at_call 182; refine (rTimes_any (r + t) (r + t) _ ⟨hbd2, by omega⟩ ⟨hbd2, by omega⟩).mono ?_; rintro e w3 ⟨rfl, hb1⟩)
            | (go_at_call 183; refine (rabove_any _ _ _).mono ?_; rintro e w4 ⟨rfl, hb2⟩))
        have HW : Hid (Below (w2.heap.size + 1) (w2.alloc (.cells #[.int .u64 (hi64 n), .int .u64 (lo64 n)] 220)) w4) := (HB.out.drew.trans (hb1.mono (B' := w2.heap.size + 1) (by simp; omega))).trans (hb2.mono (B' := w2.heap.size + 1) (by have := hb1.size; simp at this; omega))
        clear hb1 hb2 c0 c1
        cases c : decide (n < (r + t) * (r + t))
        · have hc := Int.not_lt.mp (of_decide_eq_false c)
          have HC : Hid _ := hc
          clear hc c
          go_wp2
          refine ⟨⟨(m : Int) - 1, r + t, by omega, by omega, rfl, rfl, hbd2, by omega, ⟨?_, ?_⟩, HW.out⟩, by simp [intOf]⟩
          · rw [show ((m : Int) - 1 + 1).toNat = m by omega, ← HR.out.1, HF.out, if_pos HC.out]
          · rw [show ((m : Int) - 1 + 1).toNat = m by omega, ← HE.out]; exact HL.out
        · have hc := of_decide_eq_true c
          have HC : Hid _ := hc
          clear hc c
          go_wp2
          refine ⟨⟨(m : Int) - 1, r, by omega, by omega, rfl, rfl, hr0, hr1, ⟨?_, ?_⟩, HW.out⟩, by simp [intOf]⟩
          · rw [show ((m : Int) - 1 + 1).toNat = m by omega, ← HR.out.1, HF.out, if_neg (Int.not_le.mpr HC.out)]
          · rw [show ((m : Int) - 1 + 1).toNat = m by omega, ← HE.out]; have := HL.out; omega
      · have HJ : Hid (j = -1) := by show _ = _; omega
        have hf := (HF.out.alloc (.cells #[.int .u64 (hi64 n), .int .u64 (lo64 n)] 220)).below (HB.out.mono (by simp))
        have HQ : Hid (r = isq n) := by
          have e := HR.out.1
          rw [HJ.out] at e
          exact e
        go_wp2_with fail
        refine (rgive_any b _ _ _ hf hr0 (by omega)).mono ?_
        rintro e w5 ⟨rfl, h6, h7⟩
        go_wp2
        go_ret
        rw [HS.out, ← HQ.out]
        exact ⟨rfl, h6, ((HK.out.trans (Kept.alloc b _ _)).trans (Kept.of_below (HB.out.mono (by simp)))).trans h7⟩
end Go.Proofs.YtoadcnhcfodkgaaGreatDoor
