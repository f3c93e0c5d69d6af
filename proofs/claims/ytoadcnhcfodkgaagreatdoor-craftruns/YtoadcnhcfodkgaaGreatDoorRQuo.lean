/-
  The walks of the reference's quotients (alidaderef01.Over, Rounded, ratio), for the seat YtoadcnhcfodkgaaGreatDoor.
-/
import Derived.Test.YtoadcnhcfodkgaaGreatDoorRTimes
import Derived.Handy
import Derived.Deep.RegionHeld3
import Derived.Deep.DrawnRows
namespace Go.Proofs.YtoadcnhcfodkgaaGreatDoor
open Go.RowKit
attribute [local go_sem ↓] Go.wp_at_zero Go.wp_at_succ

set_option maxHeartbeats 400000 in
theorem rOver_no (n d : Int) (w : World) (h0 : 0 ≤ d) (h : d = 0 ∨ d ≤ hi64 n) :
    Calls Tryz.prog 280 #[.agg #[.int .u64 (hi64 n), .int .u64 (lo64 n)], .int .u64 d] w fun e w' => e = .returned (.tuple #[.int .u64 0, .int .u64 0, .bool false]) ∧ Below w.heap.size w w' := by
  by_cases c : d = 0
  · subst c
    clear h h0
    go_enter Tryz.func280, Tryz.ntmps280
    go_wp2
    go_ret3
    exact ⟨rfl, by go_grown⟩
  · have c1 : (d == 0) = false := by simpa using c
    have c2 : d ≤ hi64 n := by omega
    clear h c
    go_enter Tryz.func280, Tryz.ntmps280
    go_wp2
    go_ret3
    exact ⟨rfl, by go_grown⟩

set_option maxHeartbeats 400000 in
theorem rOver_yes (n d : Int) (w : World) (h0 : 0 ≤ n) (h1 : n ≤ 85070591730234615865843651857942052864) (hq : hi64 n < d) (hd : d ≤ 4611686018427387904) :
    Calls Tryz.prog 280 #[.agg #[.int .u64 (hi64 n), .int .u64 (lo64 n)], .int .u64 d] w fun e w' => e = .returned (.tuple #[.int .u64 (n / d), .int .u64 (n % d), .bool true]) ∧ Below w.heap.size w w' := by
  have b1 := hi64_bd n h0 (by omega)
  have b2 := lo64_bd n
  have hd0 : 0 < d := by omega
  have c1 : (d == 0) = false := by simp; omega
  have c2 : decide (d ≤ hi64 n) = false := by simp; omega
  go_enter Tryz.func280, Tryz.ntmps280
  go_wp2
  go_loop [7, 8, 9] (fun vr vq vj => ∃ j : Int, -1 ≤ j ∧ j ≤ 63 ∧ vr = .int .u64 (ldr n d (j + 1).toNat) ∧ vq = .int .u64 (ldq n d (j + 1).toNat) ∧ vj = .int .i64 j) (fun _ _ vj => (intOf vj + 1).toNat)
  case atStart =>
    have := ldq_64 n d h0 hq
    exact ⟨63, by omega, by omega, by show _ = Value.int .u64 (ldr n d 64); rw [this.2], by show _ = Value.int .u64 (ldq n d 64); rw [this.1], rfl⟩
  case round =>
    obtain ⟨j, hj0, hj1, rfl, rfl, rfl⟩ := hrel
    by_cases hj : 0 ≤ j
    · obtain ⟨m, rfl⟩ := Int.eq_ofNat_of_zero_le hj
      rw [show ((m : Int) + 1).toNat = m + 1 by omega]
      have HS : Hid _ := ldq_step n d m hd0
      have HR : Hid _ := ldr_bd n d (m + 1) hd0
      have HQ : Hid _ := ldq_bd n d m hd0 h0 hq
      have HQ1 : Hid _ := ldq_bd n d (m + 1) hd0 h0 hq
      generalize ldr n d (m + 1) = r at *
      generalize ldq n d (m + 1) = q at *
      have r1 := HR.out
      have HJ : Hid _ := ld_join n r m (by omega) r1.1 (by omega)
      have ht : (r / 9223372036854775808 == 1) = false := by simp; omega
      go_wp2
      · rename_i hc
        rw [HJ.out] at hc ⊢
        have e := HS.out.1 (by simpa using hc)
        have q1 := HQ.out
        have q2 := HQ1.out
        refine ⟨⟨(m : Int) - 1, by omega, by omega, ?_, ?_, rfl⟩, by simp [intOf]⟩
        · rw [show ((m : Int) - 1 + 1).toNat = m by omega, e.2, IntKind.wrap_u64]; congr 1; omega
        · rw [show ((m : Int) - 1 + 1).toNat = m by omega, e.1]; simp only [IntKind.wrap_u64]; congr 1; omega
      · rename_i hc
        rw [HJ.out] at hc ⊢
        have e := HS.out.2 (by simpa using hc)
        have q1 := HQ.out
        have q2 := HQ1.out
        refine ⟨⟨(m : Int) - 1, by omega, by omega, ?_, ?_, rfl⟩, by simp [intOf]⟩
        · rw [show ((m : Int) - 1 + 1).toNat = m by omega, e.2]
        · rw [show ((m : Int) - 1 + 1).toNat = m by omega, e.1, IntKind.wrap_u64]; congr 1; omega
    · go_wp2
      go_ret3
      obtain rfl : j = -1 := by omega
      have e := ldq_0 n d
      refine ⟨?_, by go_grown⟩
      show Ending.returned (.tuple #[.int .u64 (ldq n d 0), .int .u64 (ldr n d 0), .bool true]) = _
      rw [e.1, e.2]

set_option maxHeartbeats 400000 in
theorem rRounded_no (n d : Int) (w : World) (h0 : 0 ≤ n) (h1 : n ≤ 85070591730234615865843651857942052864) (hd0 : 0 ≤ d) (hd : d ≤ 4611686018427387904) (h : d = 0 ∨ 4611686018427387904 < n / d) :
    Calls Tryz.prog 255 #[.agg #[.int .u64 (hi64 n), .int .u64 (lo64 n)], .int .u64 d] w fun e w' => e = .returned (.tuple #[.int .u64 0, .bool false]) ∧ Below w.heap.size w w' := by
  by_cases c : d = 0 ∨ d ≤ hi64 n
  · have HC : Hid _ := c
    have HD : Hid _ := hd0
    clear h c h0 h1 hd
    go_enter Tryz.func255, Tryz.ntmps255
    go_wp2_with fail
    refine (rOver_no n d _ HD.out HC.out).mono ?_
    rintro e w1 ⟨rfl, hb⟩
    have HB : Hid _ := hb
    clear hb
    go_wp2
    go_ret2
    exact ⟨rfl, ((Below.refl _ _).alloc (Nat.le_refl _) _).trans (HB.out.mono (by simp))⟩
  · have c1 : hi64 n < d := by omega
    have c2 : 4611686018427387904 < n / d := by omega
    clear h c
    go_enter Tryz.func255, Tryz.ntmps255
    go_wp2_with fail
    refine (rOver_yes n d _ h0 h1 c1 hd).mono ?_
    rintro e w1 ⟨rfl, hb⟩
    have HB : Hid _ := hb
    clear hb
    go_wp2
    go_ret2
    exact ⟨rfl, ((Below.refl _ _).alloc (Nat.le_refl _) _).trans (HB.out.mono (by simp))⟩

set_option maxHeartbeats 400000 in
theorem rRounded_yes (n d : Int) (w : World) (h0 : 0 ≤ n) (h1 : n ≤ 85070591730234615865843651857942052864) (hd0 : 1 ≤ d) (hd : d ≤ 4611686018427387904) (h : n / d ≤ 4611686018427387904) :
    Calls Tryz.prog 255 #[.agg #[.int .u64 (hi64 n), .int .u64 (lo64 n)], .int .u64 d] w fun e w' => e = .returned (.tuple #[.int .u64 (rnd n d), .bool true]) ∧ Below w.heap.size w w' := by
  have c1 : hi64 n < d := hi_of_quot n d hd0 h
  have HR : Hid _ := rnd_ways n d hd0
  have hq0 : 0 ≤ n / d := Int.ediv_nonneg h0 (by omega)
  have hr0 : 0 ≤ n % d := Int.emod_nonneg n (by omega)
  have hr1 : n % d < d := Int.emod_lt_of_pos n (by omega)
  go_enter Tryz.func255, Tryz.ntmps255
  go_wp2_with fail
  refine (rOver_yes n d _ h0 h1 c1 hd).mono ?_
  rintro e w1 ⟨rfl, hb⟩
  have HB : Hid _ := hb
  clear hb h0 h1
  generalize n / d = q at *
  generalize n % d = r at *
  go_wp2
  · go_ret2
    rw [HR.out.1 (by assumption)]
    exact ⟨rfl, ((Below.refl _ _).alloc (Nat.le_refl _) _).trans (HB.out.mono (by simp))⟩
  · go_ret2
    rw [HR.out.2 (by assumption)]
    exact ⟨rfl, ((Below.refl _ _).alloc (Nat.le_refl _) _).trans (HB.out.mono (by simp))⟩
end Go.Proofs.YtoadcnhcfodkgaaGreatDoor
