/-
  The walks of the reference's roots (alidaderef01.Sqrt), for the seat YtoadcnhcfodkgaaGreatDoor.
-/
import Derived.Test.YtoadcnhcfodkgaaGreatDoorRAbove
import Derived.Handy
import Derived.Deep.RegionHeld3
import Derived.Deep.DrawnRows
namespace Go.Proofs.YtoadcnhcfodkgaaGreatDoor
open Go.RowKit
attribute [local go_sem ↓] Go.wp_at_zero Go.wp_at_succ

set_option maxHeartbeats 400000 in
theorem rSqrt_any (b : Nat) (bad : Bool) (x : Int) (w : World) (hw : Fl b bad w) :
    Calls Tryz.prog 71 #[.pointer (some ⟨b, 0, none⟩), .int .i64 x] w fun e w' => e = .returned (.int .i64 (sqrtS bad x).1) ∧ Fl b (sqrtS bad x).2 w' ∧ Kept b w w' := by
  go_enter Tryz.func71, Tryz.ntmps71
  go_wp2_with fail
  refine (rtake1 b bad x w hw).mono ?_
  rintro e w1 ⟨rfl, h2, h3⟩
  cases c : tk bad [x]
  · rw [c] at h2
    have HS : Hid _ := sqrtS_no c
    have H2 : Hid _ := h2
    have H3 : Hid _ := h3
    clear c h2 h3 hw
    go_wp2
    go_ret
    rw [HS.out]
    exact ⟨rfl, H2.out, H3.out⟩
  · rw [c] at h2
    have H2 : Hid _ := h2
    have H3 : Hid _ := h3
    have f1 := h2.cell
    have f2 := h2.free
    have ht := tk_one c
    have hx := numB_bd ht.2
    clear hw h2 h3 ht
    by_cases x0 : 0 ≤ x
    · have HS : Hid _ := sqrtS_yes c x0
      have hxd : decide (x < 0) = false := by simp; omega
      clear c
      go_wp2_with fail
      refine (rTimes_any x 1099511627776 _ ⟨x0, by omega⟩ (by decide)).mono ?_
      rintro e w2 ⟨rfl, h4⟩
      have HF : Hid _ := H2.out.below h4
      have HK : Hid _ := H3.out.trans (Kept.of_below h4)
      have n0 : 0 ≤ x * 1099511627776 := by omega
      have n1 : x * 1099511627776 ≤ 5070602400912917605986812821504 := by omega
      clear h4 f1 f2 H2 H3
      generalize x * 1099511627776 = n at *
      go_wp2
      have HB0 : Hid (Below (w2.heap.size + 1) (w2.alloc (.cells #[.int .u64 (hi64 n), .int .u64 (lo64 n)] 220)) (w2.alloc (.cells #[.int .u64 (hi64 n), .int .u64 (lo64 n)] 220))) := Below.refl _ _
      go_loopw [6, 7] (fun v6 v7 wr => ∃ j r : Int, -1 ≤ j ∧ j ≤ 51 ∧ v6 = .int .u64 r ∧ v7 = .int .i64 j ∧ 0 ≤ r ∧ r ≤ 9223372036854775807 ∧ Hid (isqf n (j + 1).toNat r = isqf n 52 0 ∧ r + 2 ^ (j + 1).toNat ≤ 2 ^ 52) ∧ Hid (Below (w2.heap.size + 1) (w2.alloc (.cells #[.int .u64 (hi64 n), .int .u64 (lo64 n)] 220)) wr)) (fun _ v7 _ => (intOf v7 + 1).toNat)
      case atStart => exact ⟨51, 0, by omega, by omega, rfl, rfl, Int.le_refl _, by omega, ⟨rfl, by decide⟩, HB0⟩
      case round =>
        obtain ⟨j, r, hj0, hj1, rfl, rfl, hr0, hr1, HR, HB⟩ := hrel
        by_cases hj : 0 ≤ j
        · obtain ⟨m, rfl⟩ := Int.eq_ofNat_of_zero_le hj
          have c0 := HB.out.cell (p := ⟨w2.heap.size, 0, none⟩) (by simp)
          have c1 := HB.out.cell (p := ⟨w2.heap.size, 1, none⟩) (by simp)
          simp at c0 c1
          have hzs : w2.heap.size < wr.heap.size := by have := HB.out.size; simp at this; omega
          have HE : Hid (bitAt (m + 1) = 2 ^ m) := rfl
          have hwp : IntKind.u64.wrap (2 ^ m) = bitAt (m + 1) := wrap_bit m (by omega)
          have hbd := bitAt_bd (m + 1) (by omega)
          have HR2 : Hid _ := HR.out.2
          rw [show ((m : Int) + 1).toNat = m + 1 by omega] at HR HR2
          have HL : Hid (r + 2 ^ m + 2 ^ m ≤ 2 ^ 52) := by show _ ≤ _; have := HR2.out; rw [Int.pow_succ] at this; omega
          have HF : Hid (isqf n (m + 1) r = isqf n m (if (r + 2 ^ m) * (r + 2 ^ m) ≤ n then r + 2 ^ m else r)) := rfl
          rw [← HE.out] at HL HF
          have hle : r + bitAt (m + 1) ≤ 4503599627370496 := by have := HL.out; simp at this; omega
          generalize bitAt (m + 1) = t at *
          have hbd2 : 0 ≤ r + t := by omega
          go_wp2
          go_region_held3 (fun w' => w'.cell? ⟨w2.heap.size, 0, none⟩ = some (.int .u64 (hi64 n)) ∧ w'.cell? ⟨w2.heap.size, 1, none⟩ = some (.int .u64 (lo64 n))) ((first | exact ⟨c0, c1⟩ | exact ⟨cell_later hb1 c0, cell_later hb1 c1⟩ | exact ⟨cell_later hb2 (cell_later hb1 c0), cell_later hb2 (cell_later hb1 c1)⟩))
            (first
              | (go_at_call 182; refine (rTimes_any (r + t) (r + t) _ ⟨hbd2, by omega⟩ ⟨hbd2, by omega⟩).mono ?_; rintro e w3 ⟨rfl, hb1⟩)
              | (go_at_call 183; refine (rabove_any _ _ _).mono ?_; rintro e w4 ⟨rfl, hb2⟩))
          have HW : Hid (Below (w2.heap.size + 1) (w2.alloc (.cells #[.int .u64 (hi64 n), .int .u64 (lo64 n)] 220)) w4) := (HB.out.drew.trans (hb1.mono (B' := w2.heap.size + 1) (by simp; omega))).trans (hb2.mono (B' := w2.heap.size + 1) (by have := hb1.size; simp at this; omega))
          clear hb1 hb2 c0 c1
          cases c : decide (n < (r + t) * (r + t))
          · have hc := Int.not_lt.mp (of_decide_eq_false c)
            have HC : Hid _ := hc
            clear hc c
            go_wp2
            refine ⟨⟨(m : Int) - 1, r + t, by omega, by omega, rfl, rfl, hbd2, by omega, ⟨?_, ?_⟩, HW.out⟩, by simp [intOf]⟩
            · rw [show ((m : Int) - 1 + 1).toNat = m by omega, ← HR.out.1, HF.out, if_pos HC.out]
            · rw [show ((m : Int) - 1 + 1).toNat = m by omega, ← HE.out]; exact HL.out
          · have hc := of_decide_eq_true c
            have HC : Hid _ := hc
            clear hc c
            go_wp2
            refine ⟨⟨(m : Int) - 1, r, by omega, by omega, rfl, rfl, hr0, hr1, ⟨?_, ?_⟩, HW.out⟩, by simp [intOf]⟩
            · rw [show ((m : Int) - 1 + 1).toNat = m by omega, ← HR.out.1, HF.out, if_neg (Int.not_le.mpr HC.out)]
            · rw [show ((m : Int) - 1 + 1).toNat = m by omega, ← HE.out]; have := HL.out; omega
        · have HJ : Hid (j = -1) := by show _ = _; omega
          have hf := (HF.out.alloc (.cells #[.int .u64 (hi64 n), .int .u64 (lo64 n)] 220)).below (HB.out.mono (by simp))
          have HQ : Hid (r = isq n) := by
            have e := HR.out.1
            rw [HJ.out] at e
            rw [isqf_eq n 52 n0 (by omega) (by show n < 4503599627370496 * 4503599627370496; omega)] at e
            exact e
          go_wp2_with fail
          refine (rgive_any b _ _ _ hf hr0 (by omega)).mono ?_
          rintro e w5 ⟨rfl, h6, h7⟩
          go_wp2
          go_ret
          rw [HS.out, ← HQ.out]
          exact ⟨rfl, h6, ((HK.out.trans (Kept.alloc b _ _)).trans (Kept.of_below (HB.out.mono (by simp)))).trans h7⟩
    · have HS : Hid _ := sqrtS_low (bad := bad) x0
      have x1 : x < 0 := by omega
      clear c x0
      go_wp2
      go_ret
      rw [HS.out]
      exact ⟨rfl, H2.out.set true, H3.out.setCell _⟩
end Go.Proofs.YtoadcnhcfodkgaaGreatDoor
