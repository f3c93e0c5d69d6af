/-
  The walks of package fixed's loops, for the seat YtoadcnhcfodkgaaGreatDoor: longDivision, quotient, root.
-/
import Derived.Test.YtoadcnhcfodkgaaGreatDoorLeaf
import Derived.Handy
import Derived.Deep.RegionHeld3
import Derived.Deep.DrawnRows
namespace Go.Proofs.YtoadcnhcfodkgaaGreatDoor
open Go.RowKit
attribute [local go_sem ↓] Go.wp_at_zero Go.wp_at_succ

set_option maxHeartbeats 400000 in
theorem longDivision_any (n d : Int) (w : World) (h0 : 0 ≤ n) (h1 : n ≤ 85070591730234615865843651857942052864) (hq : hi64 n < d) (hd : d ≤ 4611686018427387904) :
    Calls Tryz.prog 275 #[.agg #[.int .u64 (hi64 n), .int .u64 (lo64 n)], .int .u64 d] w fun e w' => e = .returned (.int .u64 (n / d)) ∧ Below w.heap.size w w' := by
  have b1 := hi64_bd n h0 (by omega)
  have b2 := lo64_bd n
  have hd0 : 0 < d := by omega
  go_enter Tryz.func275, Tryz.ntmps275
  go_wp2
  go_loop [6, 5, 7] (fun vr vq vj => ∃ j : Int, -1 ≤ j ∧ j ≤ 63 ∧ vr = .int .u64 (ldr n d (j + 1).toNat) ∧ vq = .int .u64 (ldq n d (j + 1).toNat) ∧ vj = .int .i64 j) (fun _ _ vj => (intOf vj + 1).toNat)
  case atStart =>
    have := ldq_64 n d h0 hq
    exact ⟨63, by omega, by omega, by show _ = Value.int .u64 (ldr n d 64); rw [this.2], by show _ = Value.int .u64 (ldq n d 64); rw [this.1], rfl⟩
  case round =>
    obtain ⟨j, hj0, hj1, rfl, rfl, rfl⟩ := hrel
    by_cases hj : 0 ≤ j
    · obtain ⟨m, rfl⟩ := Int.eq_ofNat_of_zero_le hj
      rw [show ((m : Int) + 1).toNat = m + 1 by omega]
      have HS : Hid _ := ldq_step n d m hd0
      have HR : Hid _ := ldr_bd n d (m + 1) hd0
      have HQ : Hid _ := ldq_bd n d m hd0 h0 hq
      have HQ1 : Hid _ := ldq_bd n d (m + 1) hd0 h0 hq
      have HL : Hid _ := low_bit n m (by omega)
      generalize ldr n d (m + 1) = r at *
      generalize ldq n d (m + 1) = q at *
      have r1 := HR.out
      have HJ : Hid _ := ld_join n r m (by omega) r1.1 (by omega)
      go_wp2
      · rename_i hc
        rw [HJ.out] at hc ⊢
        have e := HS.out.1 hc
        have q1 := HQ.out
        have q2 := HQ1.out
        refine ⟨⟨(m : Int) - 1, by omega, by omega, ?_, ?_, rfl⟩, by simp [intOf]⟩
        · rw [show ((m : Int) - 1 + 1).toNat = m by omega, e.2, IntKind.wrap_u64]; congr 1; omega
        · rw [show ((m : Int) - 1 + 1).toNat = m by omega, e.1, or_one q q2.1 (by omega)]
      · rename_i hc
        rw [HJ.out] at hc ⊢
        have e := HS.out.2 hc
        have q1 := HQ.out
        have q2 := HQ1.out
        refine ⟨⟨(m : Int) - 1, by omega, by omega, ?_, ?_, rfl⟩, by simp [intOf]⟩
        · rw [show ((m : Int) - 1 + 1).toNat = m by omega, e.2]
        · rw [show ((m : Int) - 1 + 1).toNat = m by omega, e.1, IntKind.wrap_u64]; congr 1; omega
    · go_wp2
      go_ret
      obtain rfl : j = -1 := by omega
      have := ldq_0 n d
      exact ⟨ret_int this.1, by go_grown⟩

set_option maxHeartbeats 400000 in
theorem quotient_any (n d : Int) (w : World) (h0 : 0 ≤ n) (h1 : n ≤ 21267647932558653966460912964485513216) (hd : 1 ≤ d) (hd' : d ≤ 4611686018427387904) :
    Calls Tryz.prog 238 #[.agg #[.int .u64 (hi64 n), .int .u64 (lo64 n)], .int .u64 d] w fun e w' => e = .returned (.int .u64 (sat64 (rnd n d))) ∧ Below w.heap.size w w' := by
  have HM : Hid _ := rnd_much n d hd
  have HI : Hid _ := rnd_in n d hd
  go_enter Tryz.func238, Tryz.ntmps238
  go_wp2_with fail
  refine (plus_lit n (d / 2) _ h0 (by omega) (by omega) (by omega)).mono ?_
  rintro e w1 ⟨rfl, hb⟩
  obtain ⟨hc, hf⟩ := bcell hb
  have hz : w.heap.size < w1.heap.size := by have := hb.size; simp at this; omega
  have hw : ∀ u v, Below w.heap.size w ((w1.setCell ⟨w.heap.size, 0, none⟩ u).setCell ⟨w.heap.size, 1, none⟩ v) := fun u v => ((((Below.refl _ _).alloc (Nat.le_refl _) _).trans (hb.mono (by simp))).setCell (Nat.le_refl _) _).setCell (Nat.le_refl _) _
  have HW : Hid _ := hw
  clear hw hb
  have n0 : 0 ≤ n + d / 2 := by omega
  have n1 : n + d / 2 ≤ 85070591730234615865843651857942052864 := by omega
  clear h0 h1
  generalize n + d / 2 = m at *
  have b1 := hi64_bd m n0 (by omega)
  have b2 := lo64_bd m
  have HE : Hid _ := hilo m
  by_cases c : d ≤ hi64 m
  · go_wp2
    go_ret
    exact ⟨ret_int (HM.out c), HW.out _ _⟩
  · by_cases c2 : hi64 m = 0
    · have c3 : (hi64 m == 0) = true := by simp [c2]
      have d0 : (d == 0) = false := by simp; omega
      have HC : Hid _ := c2
      clear c2
      go_wp2
      go_ret
      refine ⟨ret_int ?_, HW.out _ _⟩
      rw [← HI.out (by omega)]
      congr 1
      have := HE.out
      rw [HC.out] at this
      omega
    · have c3 : (hi64 m == 0) = false := by simp [c2]
      have HC : Hid _ := c2
      clear c2
      go_wp2_with fail
      refine (longDivision_any m d _ n0 n1 (by omega) hd').mono ?_
      rintro e w2 ⟨rfl, hb2⟩
      go_wp2
      go_ret
      exact ⟨ret_int (HI.out (by omega)), (HW.out _ _).trans (hb2.mono (by simp; omega))⟩

set_option maxHeartbeats 400000 in
theorem root_any (n : Int) (w : World) :
    Calls Tryz.prog 226 #[.agg #[.int .u64 (hi64 n), .int .u64 (lo64 n)]] w fun e w' => e = .returned (.int .u64 (isq n)) ∧ Below w.heap.size w w' := by
  go_enter Tryz.func226, Tryz.ntmps226
  go_wp2
  have HB0 : Hid (Below (w.heap.size + 1) (w.alloc (.cells #[.int .u64 (hi64 n), .int .u64 (lo64 n)] 246)) (w.alloc (.cells #[.int .u64 (hi64 n), .int .u64 (lo64 n)] 246))) := Below.refl _ _
  go_loopw [3, 4] (fun v3 v4 wr => ∃ (j : Nat) (r : Int), j ≤ 63 ∧ v3 = .int .u64 r ∧ v4 = .int .u64 (bitAt j) ∧ 0 ≤ r ∧ Hid (isqf n j r = isq n ∧ r % 2 ^ j = 0 ∧ r + 2 ^ j ≤ 9223372036854775808) ∧ Hid (Below (w.heap.size + 1) (w.alloc (.cells #[.int .u64 (hi64 n), .int .u64 (lo64 n)] 246)) wr)) (fun _ v4 _ => (intOf v4).toNat)
  case atStart => exact ⟨63, 0, Nat.le_refl _, rfl, rfl, Int.le_refl _, ⟨rfl, rfl, by decide⟩, HB0⟩
  case round =>
    obtain ⟨j, r, hj, rfl, rfl, hr0, HR, HB⟩ := hrel
    cases j with
    | zero =>
      have hz : (bitAt 0 != 0) = false := rfl
      go_wp2
      go_ret
      exact ⟨ret_int HR.out.1, ((Below.refl _ _).alloc (Nat.le_refl _) _).trans (HB.out.mono (by omega))⟩
    | succ j =>
      have HE : Hid (bitAt (j + 1) = 2 ^ j) := rfl
      have hbd := bitAt_bd (j + 1) hj
      have HH : Hid _ := bitAt_half j
      have HO : Hid _ := or_pow r j hr0 HR.out.2.1 (by have := HR.out.2.2; have := two_pow_pos (j + 1); omega) (by omega)
      have HD : Hid _ := root_bd r j HR.out.2.2
      have HM : Hid _ := mod_pow_half r j HR.out.2.1
      have HP : Hid _ := two_pow_pos j
      have HF : Hid (isqf n (j + 1) r = isqf n j (if (r + 2 ^ j) * (r + 2 ^ j) ≤ n then r + 2 ^ j else r)) := rfl
      have hne : (bitAt (j + 1) != 0) = true := by rw [HE.out]; simp; have := HP.out; omega
      have hor : bits .or .u64 r (bitAt (j + 1)) = r + bitAt (j + 1) := by rw [HE.out]; exact HO.out
      have hle : r + bitAt (j + 1) ≤ 9223372036854775807 := by rw [HE.out]; have := HD.out; have := HP.out; omega
      have c0 := HB.out.cell (p := ⟨w.heap.size, 0, none⟩) (by simp)
      have c1 := HB.out.cell (p := ⟨w.heap.size, 1, none⟩) (by simp)
      simp at c0 c1
      have hzs : w.heap.size < wr.heap.size := by have := HB.out.size; simp at this; omega
      generalize bitAt (j + 1) = t at *
      have hbd2 : 0 ≤ r + t := by omega
      have HJ : Hid (j ≤ 63) := by show _ ≤ _; omega
      clear hj
      go_wp2
      go_region_held3 (fun w' => w'.cell? ⟨w.heap.size, 0, none⟩ = some (.int .u64 (hi64 n)) ∧ w'.cell? ⟨w.heap.size, 1, none⟩ = some (.int .u64 (lo64 n))) ((first | exact ⟨c0, c1⟩ | exact ⟨cell_later hb1 c0, cell_later hb1 c1⟩ | exact ⟨cell_later hb2 (cell_later hb1 c0), cell_later hb2 (cell_later hb1 c1)⟩))
        (first
          | (go_at_call 213; refine (product_any (r + t) (r + t) _ hbd2 (by omega) hbd2 (by omega)).mono ?_; rintro e w1 ⟨rfl, hb1⟩; obtain ⟨d1, d2⟩ := bcell hb1)
          | (go_at_call 269; refine (wabove_any _ _ _).mono ?_; rintro e w2 ⟨rfl, hb2⟩; obtain ⟨d3, d4⟩ := bcell hb2))
      have HW : Hid (Below (w.heap.size + 1) (w.alloc (.cells #[.int .u64 (hi64 n), .int .u64 (lo64 n)] 246)) w2) := (HB.out.drew.trans (hb1.mono (B' := w.heap.size + 1) (by simp; omega))).trans (hb2.mono (B' := w.heap.size + 1) (by have := hb1.size; simp at this; omega))
      have hle2 := HD.out
      rw [← HE.out] at hle2
      have HF2 : Hid (isqf n (j + 1) r = isqf n j (if (r + t) * (r + t) ≤ n then r + t else r)) := by rw [HE.out]; exact HF.out
      have HM2 : Hid (r % 2 ^ j = 0 ∧ (r + t) % 2 ^ j = 0) := by rw [HE.out]; exact HM.out
      have ht : t / 2 = bitAt j := HH.out
      have ht0 : 0 < t := by rw [HE.out]; exact HP.out
      have HT : Hid _ := ht
      clear ht hb1 hb2 d1 d2 d3 d4 c0 c1 hor
      cases c : decide (n < (r + t) * (r + t))
      · have hc := Int.not_lt.mp (of_decide_eq_false c)
        have HC : Hid _ := hc
        clear hc
        clear c
        go_wp2
        refine ⟨⟨j, r + t, HJ.out, rfl, ?_, hbd2, ⟨?_, HM2.out.2, ?_⟩, HW.out⟩, ?_⟩
        · rw [← HT.out]
        · rw [← HR.out.1, HF2.out, if_pos HC.out]
        · rw [← HE.out]; omega
        · simp [intOf]; omega
      · have hc := of_decide_eq_true c
        have HC : Hid _ := hc
        clear hc
        clear c
        go_wp2
        refine ⟨⟨j, r, HJ.out, rfl, ?_, hr0, ⟨?_, HM2.out.1, ?_⟩, HW.out⟩, ?_⟩
        · rw [← HT.out]
        · rw [← HR.out.1, HF2.out, if_neg (Int.not_le.mpr HC.out)]
        · rw [← HE.out]; omega
        · simp [intOf]; omega
end Go.Proofs.YtoadcnhcfodkgaaGreatDoor
