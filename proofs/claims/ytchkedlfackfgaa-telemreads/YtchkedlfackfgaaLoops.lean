/-
  The walks of package fixed's loops, for the seat Ytchkedlfackfgaa: longDivision, quotient, root.
-/
import Derived.Test.YtchkedlfackfgaaLeaf
import Derived.Handy
import Derived.Deep.RegionHeld3
import Derived.Deep.DrawnRows
namespace Go.Proofs.Ytchkedlfackfgaa
open Go.RowKit
attribute [local go_sem ↓] Go.wp_at_zero Go.wp_at_succ

set_option maxHeartbeats 400000 in
theorem longDivision_any (n d : Int) (w : World) (h0 : 0 ≤ n) (h1 : n ≤ 85070591730234615865843651857942052864) (hq : hi64 n < d) (hd : d ≤ 4611686018427387904) :
    Calls Try.prog 39 #[.agg #[.int .u64 (hi64 n), .int .u64 (lo64 n)], .int .u64 d] w fun e w' => e = .returned (.int .u64 (n / d)) ∧ Below w.heap.size w w' := by
  have b1 := hi64_bd n h0 (by omega)
  have b2 := lo64_bd n
  have hd0 : 0 < d := by omega
  go_enter Try.func39, Try.ntmps39
  go_wp2
  go_loop [6, 5, 7] (fun vr vq vj => ∃ j : Int, -1 ≤ j ∧ j ≤ 63 ∧ vr = .int .u64 (ldr n d (j + 1).toNat) ∧ vq = .int .u64 (ldq n d (j + 1).toNat) ∧ vj = .int .i64 j) (fun _ _ vj => (intOf vj + 1).toNat)
  case atStart =>
    have := ldq_64 n d h0 hq
    exact ⟨63, by omega, by omega, by show _ = Value.int .u64 (ldr n d 64); rw [this.2], by show _ = Value.int .u64 (ldq n d 64); rw [this.1], rfl⟩
  case round =>
    obtain ⟨j, hj0, hj1, rfl, rfl, rfl⟩ := hrel
    by_cases hj : 0 ≤ j
    · obtain ⟨m, rfl⟩ := Int.eq_ofNat_of_zero_le hj
      rw [show ((m : Int) + 1).toNat = m + 1 by omega]
      have HS : Hid _ := ldq_step n d m hd0
      have HR : Hid _ := ldr_bd n d (m + 1) hd0
      have HQ : Hid _ := ldq_bd n d m hd0 h0 hq
      have HQ1 : Hid _ := ldq_bd n d (m + 1) hd0 h0 hq
      have HL : Hid _ := low_bit n m (by omega)
      generalize ldr n d (m + 1) = r at *
      generalize ldq n d (m + 1) = q at *
      have r1 := HR.out
      have HJ : Hid _ := ld_join n r m (by omega) r1.1 (by omega)
      go_wp2
      · rename_i hc
        rw [HJ.out] at hc ⊢
        have e := HS.out.1 hc
        have q1 := HQ.out
        have q2 := HQ1.out
        refine ⟨⟨(m : Int) - 1, by omega, by omega, ?_, ?_, rfl⟩, by simp [intOf]⟩
        · rw [show ((m : Int) - 1 + 1).toNat = m by omega, e.2, IntKind.wrap_u64]; congr 1; omega
        · rw [show ((m : Int) - 1 + 1).toNat = m by omega, e.1, or_one q q2.1 (by omega)]
      · rename_i hc
        rw [HJ.out] at hc ⊢
        have e := HS.out.2 hc
        have q1 := HQ.out
        have q2 := HQ1.out
        refine ⟨⟨(m : Int) - 1, by omega, by omega, ?_, ?_, rfl⟩, by simp [intOf]⟩
        · rw [show ((m : Int) - 1 + 1).toNat = m by omega, e.2]
        · rw [show ((m : Int) - 1 + 1).toNat = m by omega, e.1, IntKind.wrap_u64]; congr 1; omega
    · go_wp2
      go_ret
      obtain rfl : j = -1 := by omega
      have := ldq_0 n d
      exact ⟨ret_int this.1, by go_grown⟩

set_option maxHeartbeats 400000 in
theorem quotient_any (n d : Int) (w : World) (h0 : 0 ≤ n) (h1 : n ≤ 21267647932558653966460912964485513216) (hd : 1 ≤ d) (hd' : d ≤ 4611686018427387904) :
    Calls Try.prog 32 #[.agg #[.int .u64 (hi64 n), .int .u64 (lo64 n)], .int .u64 d] w fun e w' => e = .returned (.int .u64 (sat64 (rnd n d))) ∧ Below w.heap.size w w' := by
  have HM : Hid _ := rnd_much n d hd
  have HI : Hid _ := rnd_in n d hd
  go_enter Try.func32, Try.ntmps32
  go_wp2_with fail
  refine (plus_lit n (d / 2) _ h0 (by omega) (by omega) (by omega)).mono ?_
  rintro e w1 ⟨rfl, hb⟩
  obtain ⟨hc, hf⟩ := bcell hb
  have hz : w.heap.size < w1.heap.size := by have := hb.size; simp at this; omega
  have hw : ∀ u v, Below w.heap.size w ((w1.setCell ⟨w.heap.size, 0, none⟩ u).setCell ⟨w.heap.size, 1, none⟩ v) := fun u v => ((((Below.refl _ _).alloc (Nat.le_refl _) _).trans (hb.mono (by simp))).setCell (Nat.le_refl _) _).setCell (Nat.le_refl _) _
  have HW : Hid _ := hw
  clear hw hb
  have n0 : 0 ≤ n + d / 2 := by omega
  have n1 : n + d / 2 ≤ 85070591730234615865843651857942052864 := by omega
  clear h0 h1
  generalize n + d / 2 = m at *
  have b1 := hi64_bd m n0 (by omega)
  have b2 := lo64_bd m
  have HE : Hid _ := hilo m
  by_cases c : d ≤ hi64 m
  · go_wp2
    go_ret
    exact ⟨ret_int (HM.out c), HW.out _ _⟩
  · by_cases c2 : hi64 m = 0
    · have c3 : (hi64 m == 0) = true := by simp [c2]
      have d0 : (d == 0) = false := by simp; omega
      have HC : Hid _ := c2
      clear c2
      go_wp2
      go_ret
      refine ⟨ret_int ?_, HW.out _ _⟩
      rw [← HI.out (by omega)]
      congr 1
      have := HE.out
      rw [HC.out] at this
      omega
    · have c3 : (hi64 m == 0) = false := by simp [c2]
      have HC : Hid _ := c2
      clear c2
      go_wp2_with fail
      refine (longDivision_any m d _ n0 n1 (by omega) hd').mono ?_
      rintro e w2 ⟨rfl, hb2⟩
      go_wp2
      go_ret
      exact ⟨ret_int (HI.out (by omega)), (HW.out _ _).trans (hb2.mono (by simp; omega))⟩

end Go.Proofs.Ytchkedlfackfgaa
