/-
A part.
A part.
A part.
A part.
A part.
A part.
A part.
A part.
-/
import Derived.Handy
import Derived.Deep.RegionHeld3
import Derived.Deep.DrawnRows
import Derived.Test.YtbophanlmkbfeaaGreatDoorHE02
import Derived.Test.YtbophanlmkbfeaaGreatDoorHE18
import Derived.Test.YtbophanlmkbfeaaGreatDoorHE12
namespace Go.Proofs.YtbophanlmkbfeaaGreatDoor
open Go.RowKit
attribute [local go_sem ↓] Go.wp_at_zero Go.wp_at_succ
set_option maxHeartbeats 400000 in
theorem rnumber_any (a : Int) (w : World) :
    Calls Tryz.prog 143 #[.int .i64 a] w fun e w' => e = .returned (.bool (numB a)) ∧ w' = w := by
 go_enter Tryz.func143, Tryz.ntmps143
 go_wp2
 all_goals
  go_ret
  exact ⟨ret_bool (by unfold numB; simp; try omega), rfl⟩
set_option maxHeartbeats 400000 in
theorem radd_gen (a b c d : Int) (w : World) (h1 : 0 ≤ a ∧ a ≤ 18446744073709551615) (h2 : 0 ≤ b ∧ b ≤ 18446744073709551615) (h3 : 0 ≤ c ∧ c ≤ 18446744073709551615) (h4 : 0 ≤ d ∧ d ≤ 18446744073709551615)
    (hs : a * 18446744073709551616 + b + (c * 18446744073709551616 + d) ≤ 340282366920938463463374607431768211455) :
    Calls Tryz.prog 69 #[.agg #[.int .u64 a, .int .u64 b], .agg #[.int .u64 c, .int .u64 d]] w fun e w' => e = .returned (.agg #[.int .u64 (hi64 (a * 18446744073709551616 + b + (c * 18446744073709551616 + d))), .int .u64 (lo64 (a * 18446744073709551616 + b + (c * 18446744073709551616 + d)))]) ∧ Below w.heap.size w w' := by
 have HS : Hid _ := hs
 clear hs
 go_enter Tryz.func69, Tryz.ntmps69
 go_wp2
 all_goals
  rename_i hq
  go_returns
  refine ⟨ret_agg2 ?_ ?_, by go_grown⟩ <;> (have hs := HS.out; rw [IntKind.wrap_u64] at hq; simp only [IntKind.wrap_u64]; first | unfold hi64 | unfold lo64); all_goals omega
theorem radd_any (n m : Int) (w : World) (h0 : 0 ≤ n) (k0 : 0 ≤ m) (hs : n + m ≤ 340282366920938463463374607431768211455) :
    Calls Tryz.prog 69 #[.agg #[.int .u64 (hi64 n), .int .u64 (lo64 n)], .agg #[.int .u64 (hi64 m), .int .u64 (lo64 m)]] w fun e w' => e = .returned (.agg #[.int .u64 (hi64 (n + m)), .int .u64 (lo64 (n + m))]) ∧ Below w.heap.size w w' := by
 have e1 := hilo n
 have e2 := hilo m
 have := radd_gen (hi64 n) (lo64 n) (hi64 m) (lo64 m) w (hi64_bd n h0 (by omega)) (lo64_bd n) (hi64_bd m k0 (by omega)) (lo64_bd m) (by omega)
 rw [e1, e2] at this
 exact this
set_option maxHeartbeats 400000 in
theorem rsize_any (a : Int) (w : World) (h : numB a = true) :
    Calls Tryz.prog 71 #[.int .i64 a] w fun e w' => e = .returned (.int .u64 (sz a)) ∧ w' = w := by
 have hb := numB_bd h
 go_enter Tryz.func71, Tryz.ntmps71
 go_wp2
 all_goals
  go_ret
  exact ⟨ret_int (by unfold sz; split <;>  omega), rfl⟩
set_option maxHeartbeats 400000 in
theorem rgive_any (b : Nat) (n : Int) (minus : Bool) (w : World) (hw : Fl b false w) (h0 : 0 ≤ n) (h1 : n ≤ 18446744073709551615) :
    Calls Tryz.prog 73 #[.pointer (some ⟨b, 0, none⟩), .int .u64 n, .bool minus] w fun e w' => e = .returned (.int .i64 (out n minus).1) ∧ Fl b (out n minus).2 w' ∧ Kept b w w' := by
 show Calls Tryz.prog 73 _ _ fun e w' => e = .returned (.int .i64 (sgnd n minus)) ∧ Fl b (decide (4611686018427387904 < n)) w' ∧ Kept b w w'
 have HW : Hid _ := hw
 obtain ⟨hc, hf, hl⟩ := hw
 by_cases c : n ≤ 4611686018427387904
 ·have HS : Hid _ := sgnd_in n minus c
  have HC : Hid (decide (4611686018427387904 < n) = false) := by show _ = _; simp; omega
  cases minus
  all_goals
   go_enter Tryz.func73, Tryz.ntmps73
   go_wp2
   go_ret
   rw [HC.out]
   exact ⟨ret_int HS.out, HW.out, Kept.refl _ _⟩
 ·have HS : Hid _ := sgnd_out n minus c
  go_enter Tryz.func73, Tryz.ntmps73
  go_wp2
  go_ret
  exact ⟨ret_int HS.out, HW.out.set true, (Kept.refl _ _).setCell _⟩
set_option maxHeartbeats 400000 in
theorem rtake_any (b s : Nat) (bad : Bool) (zs : List Int) (w : World) (hw : Fl b bad w) (hz : Ints s zs w) (hlen : zs.length ≤ 3) (hsb : s ≠ b) (hs : s < w.heap.size) :
    Calls Tryz.prog 68 #[.pointer (some ⟨b, 0, none⟩), .slice (some ⟨s, 0, none⟩) zs.length zs.length] w fun e w' => e = .returned (.bool (tk bad zs)) ∧ Fl b (!tk bad zs) w' ∧ Kept b w w' := by
 have HW : Hid _ := hw
 have HZ : Hid _ := hz
 clear hz hw
 go_enter Tryz.func68, Tryz.ntmps68
 go_wp2
 go_loopw [5] (fun v wr => ∃ k : Nat, k ≤ zs.length ∧ v = .int .i64 k ∧ Hid (Fl b (bad || !(zs.take k).all numB) wr) ∧ Hid (Kept b w wr)) (fun v _ => zs.length - (intOf v).toNat)
 case atStart => exact ⟨0, Nat.zero_le _, rfl, by show Fl _ _ _; simpa using HW.out, Kept.refl _ _⟩
 case round =>
  obtain ⟨k, hk, rfl, HF, HK⟩ := hrel
  by_cases hlt : k < zs.length
  ·have hcell : wr.cell? ⟨s, k, none⟩ = some (.int .i64 zs[k]) := (HK.out.cell (p := ⟨s, k, none⟩) hs hsb).trans (HZ.out k hlt)
   have HS : Hid _ := all_take_succ hlt
   generalize zs[k] = z at *
   cases c : numB z
   ·have HC2 : Hid _ := c
    clear c
    have hf1 := HF.out.cell
    have hf2 := HF.out.free
    go_wp2_with fail
    refine (rnumber_any _ _).mono ?_
    rintro e w1 ⟨rfl, rfl⟩
    rw [HC2.out]
    go_wp2
    refine ⟨⟨k + 1, by omega, by go_num, ?_, HK.out.setCell _⟩, by simp [intOf]; omega⟩
    show Fl _ _ _
    rw [HS.out, HC2.out]
    simpa using HF.out.set true
   ·have HC2 : Hid _ := c
    clear c
    go_wp2_with fail
    refine (rnumber_any _ _).mono ?_
    rintro e w1 ⟨rfl, rfl⟩
    rw [HC2.out]
    go_wp2
    refine ⟨⟨k + 1, by omega, by go_num, ?_, HK.out⟩, by simp [intOf]; omega⟩
    show Fl _ _ _
    rw [HS.out, HC2.out]
    simpa using HF.out
  ·have hf1 := HF.out.cell
   have HT : Hid (zs.take k = zs) := List.take_of_length_le (by omega)
   rw [HT.out] at hf1
   go_wp2
   go_ret
   have h1 := HF.out
   rw [HT.out, tk_not] at h1
   exact ⟨ret_bool rfl, h1, HK.out⟩
theorem rtake2 (b : Nat) (bad : Bool) (x y : Int) (w : World) (hw : Fl b bad w) :
    Calls Tryz.prog 68 #[.pointer (some ⟨b, 0, none⟩), .slice (some ⟨w.heap.size, 0, none⟩) 2 2] (w.alloc (.cells #[.int .i64 x, .int .i64 y] 2)) fun e w' => e = .returned (.bool (tk bad [x, y])) ∧ Fl b (!tk bad [x, y]) w' ∧ Kept b w w' :=
 (rtake_any b w.heap.size bad [x, y] _ (hw.alloc _) (Ints_two x y w) (by simp) (Nat.ne_of_gt hw.lies) (by simp)).mono fun _ _ h => ⟨h.1, h.2.1, (Kept.alloc b w _).trans h.2.2⟩
theorem rtake3 (b : Nat) (bad : Bool) (x y z : Int) (w : World) (hw : Fl b bad w) :
    Calls Tryz.prog 68 #[.pointer (some ⟨b, 0, none⟩), .slice (some ⟨w.heap.size, 0, none⟩) 3 3] (w.alloc (.cells #[.int .i64 x, .int .i64 y, .int .i64 z] 2)) fun e w' => e = .returned (.bool (tk bad [x, y, z])) ∧ Fl b (!tk bad [x, y, z]) w' ∧ Kept b w w' :=
 (rtake_any b w.heap.size bad [x, y, z] _ (hw.alloc _) (Ints_three x y z w) (by simp) (Nat.ne_of_gt hw.lies) (by simp)).mono fun _ _ h => ⟨h.1, h.2.1, (Kept.alloc b w _).trans h.2.2⟩
end Go.Proofs.YtbophanlmkbfeaaGreatDoor
namespace Go.Proofs.YtbophanlmkbfeaaGreatDoor
open Go.RowKit
attribute [local go_sem ↓] Go.wp_at_zero Go.wp_at_succ
set_option maxHeartbeats 400000 in
theorem rTimes_any (x y : Int) (w : World) (hx : 0 ≤ x ∧ x ≤ 9223372036854775808) (hy : 0 ≤ y ∧ y ≤ 9223372036854775808) :
    Calls Tryz.prog 70 #[.int .u64 x, .int .u64 y] w fun e w' => e = .returned (.agg #[.int .u64 (hi64 (x * y)), .int .u64 (lo64 (x * y))]) ∧ Below w.heap.size w w' := by
 go_enter Tryz.func70, Tryz.ntmps70
 go_wp2
 have HP : Hid _ := mul_bd63 x y hx hy
 go_loopw [1] (fun v wr => ∃ y' s t : Int, v = .int .u64 y' ∧ 0 ≤ y' ∧ y' ≤ 9223372036854775808 ∧ Hid (Wd (w.heap.size + 1) s wr ∧ Wd (w.heap.size + 1 + 1) t wr ∧ Wd w.heap.size 0 wr) ∧ Hid (s + t * y' = x * y ∧ 0 ≤ s ∧ 0 ≤ t ∧ t ≤ 170141183460469231731687303715884105728) ∧ Hid (Below w.heap.size w wr)) (fun v _ => (intOf v).toNat)
 case atStart =>
  have e := hi64_small x hx.1 (by omega)
  have z := hi64_small 0 (by decide) (by decide)
  refine ⟨y, 0, x, rfl, hy.1, hy.2, ⟨⟨?_, ?_, ?_, ?_, ?_⟩, ⟨?_, ?_, ?_, ?_, ?_⟩, ⟨?_, ?_, ?_, ?_, ?_⟩⟩, ⟨by omega, by decide, hx.1, by omega⟩, ?_⟩
  all_goals first | (show Below _ _ _; go_grown; done) | (simp [go_sem, e.1, e.2, z.1, z.2]; done) | (simp [go_sem, e.1, e.2, z.1, z.2]; omega)
 case round =>
  obtain ⟨y', s, t, rfl, hy0, hy1, HM, HE, HB⟩ := hrel
  have hz : w.heap.size + 1 + 1 < wr.heap.size := HM.out.2.1.lies
  by_cases hc : 0 < y'
  ·have HL : Hid _ := times_bd s t y' _ HE.out.1 HE.out.2.1 HE.out.2.2.1 hc
   have m1 := HM.out.1.hi
   have m2 := HM.out.1.lo
   have m3 := HM.out.1.fh
   have m4 := HM.out.1.fl
   have m5 := HM.out.2.1.hi
   have m6 := HM.out.2.1.lo
   have m7 := HM.out.2.1.fh
   have m8 := HM.out.2.1.fl
   by_cases ho : y' % 2 = 1
   ·have HO : Hid _ := times_odd s t y' _ HE.out.1 ho
    have ho1 : (y' % 2 == 1) = true := by simpa using ho
    clear ho
    go_wp2_with fail
    refine (radd_any s t _ HE.out.2.1 HE.out.2.2.1 (by have := HL.out; have := HP.out; omega)).mono ?_
    rintro e w1 ⟨rfl, hb⟩
    have H1 : Hid _ := HM.out.1.below hb
    have H2 : Hid _ := HM.out.2.1.below hb
    have H3 : Hid _ := HM.out.2.2.below hb
    have HB1 : Hid _ := HB.out.trans (hb.mono (Nat.le_of_lt (Nat.lt_of_le_of_lt (by omega) hz)))
    have hz1 : w.heap.size + 1 + 1 < w1.heap.size := H2.out.lies
    clear m1 m2 m3 m4 m5 m6 m7 m8 hb hz
    have m1 := H1.out.hi
    have m2 := H1.out.lo
    have m3 := H1.out.fh
    have m4 := H1.out.fl
    have m5 := H2.out.hi
    have m6 := H2.out.lo
    have m7 := H2.out.fh
    have m8 := H2.out.fl
    go_wp2_with fail
    refine (radd_any t t _ HE.out.2.2.1 HE.out.2.2.1 (by have := HL.out; have := HP.out; omega)).mono ?_
    rintro e w2 ⟨rfl, hb⟩
    have J1 : Hid _ := (H1.out.put (s + t)).below hb
    have J2 : Hid _ := (H2.out.far (by omega) (.int .u64 (hi64 (s + t))) (.int .u64 (lo64 (s + t)))).below hb
    have J3 : Hid _ := (H3.out.far (by omega) (.int .u64 (hi64 (s + t))) (.int .u64 (lo64 (s + t)))).below hb
    have HB2 : Hid (Below w.heap.size w w2) := ((HB1.out.setCell (by simp) _).setCell (by simp) _).trans (hb.mono (by simp; omega))
    have hz2 : w.heap.size + 1 + 1 < w2.heap.size := J2.out.lies
    clear m1 m2 m3 m4 m5 m6 m7 m8 hb hz1
    have m5 := J2.out.hi
    have m6 := J2.out.lo
    have m7 := J2.out.fh
    have m8 := J2.out.fl
    go_wp2
    refine ⟨⟨y' / 2, s + t, t + t, rfl, by omega, by omega, ⟨J1.out.far (by omega) _ _, J2.out.put _, J3.out.far (by omega) _ _⟩, ⟨HO.out, ?_, ?_, ?_⟩, (HB2.out.setCell (by simp; omega) _).setCell (by simp; omega) _⟩, by simp [intOf]; omega⟩
    all_goals (have := HE.out; have := HL.out; have := HP.out; omega)
   ·have HO : Hid _ := times_even s t y' _ HE.out.1 (by omega)
    have ho1 : (y' % 2 == 1) = false := by simpa using ho
    clear ho
    go_wp2_with fail
    refine (radd_any t t _ HE.out.2.2.1 HE.out.2.2.1 (by have := HL.out; have := HP.out; omega)).mono ?_
    rintro e w2 ⟨rfl, hb⟩
    have J1 : Hid _ := HM.out.1.below hb
    have J2 : Hid _ := HM.out.2.1.below hb
    have J3 : Hid _ := HM.out.2.2.below hb
    have HB2 : Hid (Below w.heap.size w w2) := HB.out.trans (hb.mono (by omega))
    have hz2 : w.heap.size + 1 + 1 < w2.heap.size := J2.out.lies
    clear m1 m2 m3 m4 m5 m6 m7 m8 hb hz
    have m5 := J2.out.hi
    have m6 := J2.out.lo
    have m7 := J2.out.fh
    have m8 := J2.out.fl
    go_wp2
    refine ⟨⟨y' / 2, s, t + t, rfl, by omega, by omega, ⟨J1.out.far (by omega) _ _, J2.out.put _, J3.out.far (by omega) _ _⟩, ⟨HO.out, ?_, ?_, ?_⟩, (HB2.out.setCell (by simp; omega) _).setCell (by simp; omega) _⟩, by simp [intOf]; omega⟩
    all_goals (have := HE.out; have := HL.out; have := HP.out; omega)
  ·have m1 := HM.out.1.hi
   have m2 := HM.out.1.lo
   have n1 := HM.out.2.2.hi
   have n2 := HM.out.2.2.lo
   have n3 := HM.out.2.2.fh
   have n4 := HM.out.2.2.fl
   have HZ : Hid (s = x * y) := by show _ = _; have e := HE.out.1; rw [show y' = 0 by omega] at e; omega
   have HQ : Hid _ := World.cell?_setCell_same wr ⟨w.heap.size, 0, none⟩ (.int .u64 (hi64 s)) n1
   have HQ2 : Hid _ := (HM.out.2.2.put s).lo
   go_wp2
   refine bodyPost_ret (v := .agg #[.int .u64 (hi64 s), .int .u64 (lo64 s)]) (by simp [results, Tryz.results70, go_sem, HQ.out, HQ2.out]) rfl ?_
   rw [HZ.out]
   exact ⟨rfl, (HB.out.setCell (Nat.le_refl _) _).setCell (Nat.le_refl _) _⟩
end Go.Proofs.YtbophanlmkbfeaaGreatDoor
namespace Go.Proofs.YtbophanlmkbfeaaGreatDoor
open Go.RowKit
attribute [local go_sem ↓] Go.wp_at_zero Go.wp_at_succ
set_option maxHeartbeats 400000 in
theorem rOver_no (n d : Int) (w : World) (h0 : 0 ≤ d) (h : d = 0 ∨ d ≤ hi64 n) :
    Calls Tryz.prog 203 #[.agg #[.int .u64 (hi64 n), .int .u64 (lo64 n)], .int .u64 d] w fun e w' => e = .returned (.tuple #[.int .u64 0, .int .u64 0, .bool false]) ∧ Below w.heap.size w w' := by
 by_cases c : d = 0
 ·subst c
  clear h h0
  go_enter Tryz.func203, Tryz.ntmps203
  go_wp2
  go_ret3
  exact ⟨rfl, by go_grown⟩
 ·have c1 : (d == 0) = false := by simpa using c
  have c2 : d ≤ hi64 n := by omega
  clear h c
  go_enter Tryz.func203, Tryz.ntmps203
  go_wp2
  go_ret3
  exact ⟨rfl, by go_grown⟩
set_option maxHeartbeats 400000 in
theorem rOver_yes (n d : Int) (w : World) (h0 : 0 ≤ n) (h1 : n ≤ 85070591730234615865843651857942052864) (hq : hi64 n < d) (hd : d ≤ 4611686018427387904) :
    Calls Tryz.prog 203 #[.agg #[.int .u64 (hi64 n), .int .u64 (lo64 n)], .int .u64 d] w fun e w' => e = .returned (.tuple #[.int .u64 (n / d), .int .u64 (n % d), .bool true]) ∧ Below w.heap.size w w' := by
 have b1 := hi64_bd n h0 (by omega)
 have b2 := lo64_bd n
 have hd0 : 0 < d := by omega
 have c1 : (d == 0) = false := by simp; omega
 have c2 : decide (d ≤ hi64 n) = false := by simp; omega
 go_enter Tryz.func203, Tryz.ntmps203
 go_wp2
 go_loop [7, 8, 9] (fun vr vq vj => ∃ j : Int, -1 ≤ j ∧ j ≤ 63 ∧ vr = .int .u64 (ldr n d (j + 1).toNat) ∧ vq = .int .u64 (ldq n d (j + 1).toNat) ∧ vj = .int .i64 j) (fun _ _ vj => (intOf vj + 1).toNat)
 case atStart =>
  have := ldq_64 n d h0 hq
  exact ⟨63, by omega, by omega, by show _ = Value.int .u64 (ldr n d 64); rw [this.2], by show _ = Value.int .u64 (ldq n d 64); rw [this.1], rfl⟩
 case round =>
  obtain ⟨j, hj0, hj1, rfl, rfl, rfl⟩ := hrel
  by_cases hj : 0 ≤ j
  ·obtain ⟨m, rfl⟩ := Int.eq_ofNat_of_zero_le hj
   rw [show ((m : Int) + 1).toNat = m + 1 by omega]
   have HS : Hid _ := ldq_step n d m hd0
   have HR : Hid _ := ldr_bd n d (m + 1) hd0
   have HQ : Hid _ := ldq_bd n d m hd0 h0 hq
   have HQ1 : Hid _ := ldq_bd n d (m + 1) hd0 h0 hq
   generalize ldr n d (m + 1) = r at *
   generalize ldq n d (m + 1) = q at *
   have r1 := HR.out
   have HJ : Hid _ := ld_join n r m (by omega) r1.1 (by omega)
   have ht : (r / 9223372036854775808 == 1) = false := by simp; omega
   go_wp2
   ·rename_i hc
    rw [HJ.out] at hc ⊢
    have e := HS.out.1 (by simpa using hc)
    have q1 := HQ.out
    have q2 := HQ1.out
    refine ⟨⟨(m : Int) - 1, by omega, by omega, ?_, ?_, rfl⟩, by simp [intOf]⟩
    ·rw [show ((m : Int) - 1 + 1).toNat = m by omega, e.2, IntKind.wrap_u64]; congr 1; omega
    ·rw [show ((m : Int) - 1 + 1).toNat = m by omega, e.1]; simp only [IntKind.wrap_u64]; congr 1; omega
   ·rename_i hc
    rw [HJ.out] at hc ⊢
    have e := HS.out.2 (by simpa using hc)
    have q1 := HQ.out
    have q2 := HQ1.out
    refine ⟨⟨(m : Int) - 1, by omega, by omega, ?_, ?_, rfl⟩, by simp [intOf]⟩
    ·rw [show ((m : Int) - 1 + 1).toNat = m by omega, e.2]
    ·rw [show ((m : Int) - 1 + 1).toNat = m by omega, e.1, IntKind.wrap_u64]; congr 1; omega
  ·go_wp2
   go_ret3
   obtain rfl : j = -1 := by omega
   have e := ldq_0 n d
   refine ⟨?_, by go_grown⟩
   show Ending.returned (.tuple #[.int .u64 (ldq n d 0), .int .u64 (ldr n d 0), .bool true]) = _
   rw [e.1, e.2]
set_option maxHeartbeats 400000 in
theorem rRounded_no (n d : Int) (w : World) (h0 : 0 ≤ n) (h1 : n ≤ 85070591730234615865843651857942052864) (hd0 : 0 ≤ d) (hd : d ≤ 4611686018427387904) (h : d = 0 ∨ 4611686018427387904 < n / d) :
    Calls Tryz.prog 144 #[.agg #[.int .u64 (hi64 n), .int .u64 (lo64 n)], .int .u64 d] w fun e w' => e = .returned (.tuple #[.int .u64 0, .bool false]) ∧ Below w.heap.size w w' := by
 by_cases c : d = 0 ∨ d ≤ hi64 n
 ·have HC : Hid _ := c
  have HD : Hid _ := hd0
  clear h c h0 h1 hd
  go_enter Tryz.func144, Tryz.ntmps144
  go_wp2_with fail
  refine (rOver_no n d _ HD.out HC.out).mono ?_
  rintro e w1 ⟨rfl, hb⟩
  have HB : Hid _ := hb
  clear hb
  go_wp2
  go_ret2
  exact ⟨rfl, ((Below.refl _ _).alloc (Nat.le_refl _) _).trans (HB.out.mono (by simp))⟩
 ·have c1 : hi64 n < d := by omega
  have c2 : 4611686018427387904 < n / d := by omega
  clear h c
  go_enter Tryz.func144, Tryz.ntmps144
  go_wp2_with fail
  refine (rOver_yes n d _ h0 h1 c1 hd).mono ?_
  rintro e w1 ⟨rfl, hb⟩
  have HB : Hid _ := hb
  clear hb
  go_wp2
  go_ret2
  exact ⟨rfl, ((Below.refl _ _).alloc (Nat.le_refl _) _).trans (HB.out.mono (by simp))⟩
set_option maxHeartbeats 400000 in
theorem rRounded_yes (n d : Int) (w : World) (h0 : 0 ≤ n) (h1 : n ≤ 85070591730234615865843651857942052864) (hd0 : 1 ≤ d) (hd : d ≤ 4611686018427387904) (h : n / d ≤ 4611686018427387904) :
    Calls Tryz.prog 144 #[.agg #[.int .u64 (hi64 n), .int .u64 (lo64 n)], .int .u64 d] w fun e w' => e = .returned (.tuple #[.int .u64 (rnd n d), .bool true]) ∧ Below w.heap.size w w' := by
 have c1 : hi64 n < d := hi_of_quot n d hd0 h
 have HR : Hid _ := rnd_ways n d hd0
 have hq0 : 0 ≤ n / d := Int.ediv_nonneg h0 (by omega)
 have hr0 : 0 ≤ n % d := Int.emod_nonneg n (by omega)
 have hr1 : n % d < d := Int.emod_lt_of_pos n (by omega)
 go_enter Tryz.func144, Tryz.ntmps144
 go_wp2_with fail
 refine (rOver_yes n d _ h0 h1 c1 hd).mono ?_
 rintro e w1 ⟨rfl, hb⟩
 have HB : Hid _ := hb
 clear hb h0 h1
 generalize n / d = q at *
 generalize n % d = r at *
 go_wp2
 ·go_ret2
  rw [HR.out.1 (by assumption)]
  exact ⟨rfl, ((Below.refl _ _).alloc (Nat.le_refl _) _).trans (HB.out.mono (by simp))⟩
 ·go_ret2
  rw [HR.out.2 (by assumption)]
  exact ⟨rfl, ((Below.refl _ _).alloc (Nat.le_refl _) _).trans (HB.out.mono (by simp))⟩
end Go.Proofs.YtbophanlmkbfeaaGreatDoor
namespace Go.Proofs.YtbophanlmkbfeaaGreatDoor
open Go.RowKit
set_option maxHeartbeats 400000 in
theorem rratio_any (b : Nat) (x p q : Int) (w : World) (hw : Fl b false w) (hx : numB x = true) (hp : numB p = true) (hq : numB q = true) :
    Calls Tryz.prog 74 #[.pointer (some ⟨b, 0, none⟩), .int .i64 x, .int .i64 p, .int .i64 q] w fun e w' => e = .returned (.int .i64 (ratS x p q).1) ∧ Fl b (ratS x p q).2 w' ∧ Kept b w w' := by
 have HX : Hid _ := hx
 have HP : Hid _ := hp
 have HQ : Hid _ := hq
 have HW : Hid _ := hw
 have sx := sz_bd hx
 have sp := sz_bd hp
 have sq := sz_bd hq
 have HM : Hid _ := sz_mul_bd hx hp
 clear hx hp hq hw
 by_cases c : q = 0 ∨ 4611686018427387904 < sz x * sz p / sz q
 ·have HS : Hid (ratS x p q = (0, true)) := ratS_no c
  have HC : Hid (sz q = 0 ∨ 4611686018427387904 < sz x * sz p / sz q) := (by rcases c with c | c; exact .inl (sz_zero c); exact .inr c)
  clear c
  go_enter Tryz.func74, Tryz.ntmps74
  go_wp2_with fail
  refine (rsize_any x _ HX.out).mono ?_
  rintro e w1 ⟨rfl, rfl⟩
  go_wp2_with fail
  refine (rsize_any p _ HP.out).mono ?_
  rintro e w1 ⟨rfl, rfl⟩
  go_wp2_with fail
  refine (rTimes_any (sz x) (sz p) _ ⟨sx.1, by omega⟩ ⟨sp.1, by omega⟩).mono ?_
  rintro e w3 ⟨rfl, h4⟩
  have H4 : Hid _ := h4
  clear h4
  go_wp2_with fail
  refine (rsize_any q _ HQ.out).mono ?_
  rintro e w1 ⟨rfl, rfl⟩
  go_wp2_with fail
  refine (rRounded_no (sz x * sz p) (sz q) _ HM.out.1 (by have := HM.out; omega) sq.1 sq.2 HC.out).mono ?_
  rintro e w4 ⟨rfl, h5⟩
  have HF : Hid _ := (HW.out.below H4.out).below h5
  have HK : Hid (Kept b _ w4) := (Kept.of_below H4.out).trans (Kept.of_below h5)
  clear h5
  have f1 := HF.out.cell
  have f2 := HF.out.free
  go_wp2
  go_ret
  rw [HS.out]
  exact ⟨rfl, HF.out.set true, HK.out.setCell _⟩
 ·have c1 : sz x * sz p / sz q ≤ 4611686018427387904 := by omega
  have c2 : (q != 0) = true := by simp; omega
  have HS : Hid _ := ratS_yes x p q c2
  have s1 := sz_pos c2
  have HC : Hid _ := c1
  have HN : Hid _ := rnd_nonneg HM.out.1 s1
  have HN2 : Hid _ := rnd_top s1 c1
  clear c c1 c2
  go_enter Tryz.func74, Tryz.ntmps74
  go_wp2_with fail
  refine (rsize_any x _ HX.out).mono ?_
  rintro e w1 ⟨rfl, rfl⟩
  go_wp2_with fail
  refine (rsize_any p _ HP.out).mono ?_
  rintro e w1 ⟨rfl, rfl⟩
  go_wp2_with fail
  refine (rTimes_any (sz x) (sz p) _ ⟨sx.1, by omega⟩ ⟨sp.1, by omega⟩).mono ?_
  rintro e w3 ⟨rfl, h4⟩
  have H4 : Hid _ := h4
  clear h4
  go_wp2_with fail
  refine (rsize_any q _ HQ.out).mono ?_
  rintro e w1 ⟨rfl, rfl⟩
  go_wp2_with fail
  refine (rRounded_yes (sz x * sz p) (sz q) _ HM.out.1 (by have := HM.out; omega) s1 sq.2 HC.out).mono ?_
  rintro e w4 ⟨rfl, h5⟩
  have HF : Hid _ := (HW.out.below H4.out).below h5
  have HK : Hid (Kept b _ w4) := (Kept.of_below H4.out).trans (Kept.of_below h5)
  clear h5 s1 sx sp sq
  generalize rnd (sz x * sz p) (sz q) = r at *
  go_wp2_with fail
  all_goals
   refine (rgive_any b _ _ _ HF.out HN.out HN2.out).mono ?_
   rintro e w5 ⟨rfl, h6, h7⟩
   go_wp2
   go_ret
   rw [HS.out]
   first | rw [decide_eq_true (show x < 0 by omega)] | rw [decide_eq_false (show ¬ x < 0 by omega)]
   first | rw [decide_eq_true (show p < 0 by omega)] | rw [decide_eq_false (show ¬ p < 0 by omega)]
   first | rw [decide_eq_true (show q < 0 by omega)] | rw [decide_eq_false (show ¬ q < 0 by omega)]
   exact ⟨rfl, h6, HK.out.trans h7⟩
set_option maxHeartbeats 400000 in
theorem rDiv_any (b : Nat) (bad : Bool) (x y : Int) (w : World) (hw : Fl b bad w) :
    Calls Tryz.prog 76 #[.pointer (some ⟨b, 0, none⟩), .int .i64 x, .int .i64 y] w fun e w' => e = .returned (.int .i64 (divS bad x y).1) ∧ Fl b (divS bad x y).2 w' ∧ Kept b w w' := by
 go_enter Tryz.func76, Tryz.ntmps76
 go_wp2_with fail
 refine (rtake2 b bad x y w hw).mono ?_
 rintro e w1 ⟨rfl, h2, h3⟩
 cases c : tk bad [x, y]
 ·rw [c] at h2
  have HS : Hid (divS bad x y = (0, true)) := partS_no ((tk_one2 bad x y).trans c)
  have H2 : Hid _ := h2
  have H3 : Hid _ := h3
  clear c h2 h3 hw
  go_wp2
  go_ret
  rw [HS.out]
  exact ⟨rfl, H2.out, H3.out⟩
 ·rw [c] at h2
  have HS : Hid (divS bad x y = ratS x 1099511627776 y) := partS_rat ((tk_one2 bad x y).trans c)
  have H3 : Hid _ := h3
  have ht := tk_two c
  have HX : Hid _ := ht.2.1
  have HY : Hid _ := ht.2.2
  clear c hw ht h3
  go_wp2_with fail
  refine (rratio_any b x 1099511627776 y _ h2 HX.out rfl HY.out).mono ?_
  rintro e w2 ⟨rfl, h4, h5⟩
  go_wp2
  go_ret
  rw [HS.out]
  exact ⟨rfl, h4, H3.out.trans h5⟩
set_option maxHeartbeats 400000 in
theorem rPart_any (b : Nat) (bad : Bool) (x p q : Int) (w : World) (hw : Fl b bad w) :
    Calls Tryz.prog 37 #[.pointer (some ⟨b, 0, none⟩), .int .i64 x, .int .i64 p, .int .i64 q] w fun e w' => e = .returned (.int .i64 (partS bad x p q).1) ∧ Fl b (partS bad x p q).2 w' ∧ Kept b w w' := by
 go_enter Tryz.func37, Tryz.ntmps37
 go_wp2_with fail
 refine (rtake3 b bad x p q w hw).mono ?_
 rintro e w1 ⟨rfl, h2, h3⟩
 cases c : tk bad [x, p, q]
 ·rw [c] at h2
  have HS : Hid _ := partS_no c
  have H2 : Hid _ := h2
  have H3 : Hid _ := h3
  clear c h2 h3 hw
  go_wp2
  go_ret
  rw [HS.out]
  exact ⟨rfl, H2.out, H3.out⟩
 ·rw [c] at h2
  have HS : Hid _ := partS_rat c
  have H3 : Hid _ := h3
  have ht := tk_three c
  have HX : Hid _ := ht.2.1
  have HP : Hid _ := ht.2.2.1
  have HQ : Hid _ := ht.2.2.2
  clear c hw ht h3
  go_wp2_with fail
  refine (rratio_any b x p q _ h2 HX.out HP.out HQ.out).mono ?_
  rintro e w2 ⟨rfl, h4, h5⟩
  go_wp2
  go_ret
  rw [HS.out]
  exact ⟨rfl, h4, H3.out.trans h5⟩
end Go.Proofs.YtbophanlmkbfeaaGreatDoor
namespace Go.Proofs.YtbophanlmkbfeaaGreatDoor
open Go.RowKit
set_option maxHeartbeats 400000 in
theorem rFail_any (b : Nat) (bad : Bool) (w : World) (hw : Fl b bad w) :
    Calls Tryz.prog 75 #[.pointer (some ⟨b, 0, none⟩)] w fun e w' => e = .returned (.tuple #[]) ∧ Fl b true w' ∧ Kept b w w' := by
 have HW : Hid _ := hw
 obtain ⟨hc, hf, hl⟩ := hw
 go_enter Tryz.func75, Tryz.ntmps75
 go_wp2
 go_end0
 exact ⟨rfl, HW.out.set true, (Kept.refl _ _).setCell _⟩
end Go.Proofs.YtbophanlmkbfeaaGreatDoor
namespace Go.Proofs.YtbophanlmkbfeaaGreatDoor
open Go.RowKit
set_option maxHeartbeats 400000 in
theorem dRight_any (t : Int) (w : World) : Calls Tryz.prog 35 #[.int .i64 t] w fun e w' => e = .returned (.bool (cRight t)) ∧ Below w.heap.size w w' := by
 rcases cRight_cases t with ⟨h0, h1⟩ | hn
 ·have H : Hid _ := cRight_in h0 h1
  go_enter Tryz.func35, Tryz.ntmps35
  go_wp2
  go_ret
  rw [H.out]
  exact ⟨rfl, Below.refl _ _⟩
 ·have H : Hid _ := cRight_out hn
  by_cases c : 0 ≤ t
  ·have d : ¬ t ≤ 157766400000 := by omega
   clear hn
   go_enter Tryz.func35, Tryz.ntmps35
   go_wp2
   go_ret
   rw [H.out]
   exact ⟨rfl, Below.refl _ _⟩
  ·clear hn
   go_enter Tryz.func35, Tryz.ntmps35
   go_wp2
   go_ret
   rw [H.out]
   exact ⟨rfl, Below.refl _ _⟩
end Go.Proofs.YtbophanlmkbfeaaGreatDoor
namespace Go.Proofs.YtbophanlmkbfeaaGreatDoor
open Go.RowKit
set_option maxRecDepth 100000
set_option maxHeartbeats 20000000
theorem within_any (n a b : Int) (w : World) : Calls Tryz.prog 202 #[.int .i64 n, .int .i64 a, .int .i64 b] w fun e w' => e = .returned (.bool (inR n a b)) ∧ w = w' := by
 by_cases h : a ≤ n
 ·have H : Hid (inR n a b = decide (n ≤ b)) := by show _ = _; unfold inR; rw [decide_eq_true h, Bool.true_and]
  go_enter Tryz.func202, Tryz.ntmps202
  go_wp2
  go_ret
  exact ⟨by rw [H.out]; rfl, rfl⟩
 ·have H : Hid (inR n a b = false) := by show _ = _; unfold inR; rw [decide_eq_false h, Bool.false_and]
  go_enter Tryz.func202, Tryz.ntmps202
  go_wp2
  go_ret
  exact ⟨by rw [H.out]; rfl, rfl⟩
theorem rin_any (n a b : Int) (w : World) : Calls Tryz.prog 67 #[.int .i64 n, .int .i64 a, .int .i64 b] w fun e w' => e = .returned (.bool (inR n a b)) ∧ w = w' := by
 by_cases h : a ≤ n
 ·have H : Hid (inR n a b = decide (n ≤ b)) := by show _ = _; unfold inR; rw [decide_eq_true h, Bool.true_and]
  go_enter Tryz.func67, Tryz.ntmps67
  go_wp2
  go_ret
  exact ⟨by rw [H.out]; rfl, rfl⟩
 ·have H : Hid (inR n a b = false) := by show _ = _; unfold inR; rw [decide_eq_false h, Bool.false_and]
  go_enter Tryz.func67, Tryz.ntmps67
  go_wp2
  go_ret
  exact ⟨by rw [H.out]; rfl, rfl⟩
theorem wtick_any (t : Int) (w : World) (h0 : 0 ≤ t) (h1 : t ≤ 157766400000) :
    Calls Tryz.prog 140 #[.slice none 0 0, .int .i64 t] w fun e w' => ∃ v, e = .returned v ∧ Bytes w.heap.size w' v (tickL t) ∧ Below w.heap.size w w' := by
 have HT : Hid ([IntKind.u8.wrap (IntKind.u64.wrap t / 1099511627776), IntKind.u8.wrap (IntKind.u64.wrap t / 4294967296), IntKind.u8.wrap (IntKind.u64.wrap t / 16777216), IntKind.u8.wrap (IntKind.u64.wrap t / 65536), IntKind.u8.wrap (IntKind.u64.wrap t / 256), IntKind.u8.wrap (IntKind.u64.wrap t)] = tickL t) := by
  show _ = _
  rw [show IntKind.u64.wrap t = t by rw [IntKind.wrap_u64]; omega]
  rfl
 clear h0 h1
 go_enter Tryz.func140, Tryz.ntmps140
 go_wp2_with fail
 refine wp_loop_rounds 7 ?_
 rw [rounds_succ]
 go_wp2_with (at_builtin; refine app_any rfl (.tmp 10) (.tmp 16) rfl w.heap.size (.slice none 0 0) [] [IntKind.u8.wrap (IntKind.u64.wrap t / 1099511627776)] w rfl (World.ownsRow_nil _ _ _ _) rfl (Nat.le_of_ble_eq_true rfl) (Nat.le_refl _) ?_; intro v1 w1 o1 b1 s1)
 have z1 : w.heap.size ≤ w1.heap.size := Nat.le_trans (Nat.le_refl _) s1
 clear s1
 simp only [List.nil_append] at o1
 rw [rounds_succ]
 go_wp2_with (at_builtin; refine app_any rfl (.tmp 10) (.tmp 16) rfl w.heap.size v1 [IntKind.u8.wrap (IntKind.u64.wrap t / 1099511627776)] [IntKind.u8.wrap (IntKind.u64.wrap t / 4294967296)] w1 rfl o1 rfl (Nat.le_of_ble_eq_true rfl) z1 ?_; intro v2 w2 o2 b2 s2)
 have z2 : w.heap.size ≤ w2.heap.size := Nat.le_trans z1 s2
 have b2 := b1.trans b2
 clear b1 s2 o1 z1
 simp only [List.cons_append, List.nil_append] at o2
 rw [rounds_succ]
 go_wp2_with (at_builtin; refine app_any rfl (.tmp 10) (.tmp 16) rfl w.heap.size v2 [IntKind.u8.wrap (IntKind.u64.wrap t / 1099511627776), IntKind.u8.wrap (IntKind.u64.wrap t / 4294967296)] [IntKind.u8.wrap (IntKind.u64.wrap t / 16777216)] w2 rfl o2 rfl (Nat.le_of_ble_eq_true rfl) z2 ?_; intro v3 w3 o3 b3 s3)
 have z3 : w.heap.size ≤ w3.heap.size := Nat.le_trans z2 s3
 have b3 := b2.trans b3
 clear b2 s3 o2 z2
 simp only [List.cons_append, List.nil_append] at o3
 rw [rounds_succ]
 go_wp2_with (at_builtin; refine app_any rfl (.tmp 10) (.tmp 16) rfl w.heap.size v3 [IntKind.u8.wrap (IntKind.u64.wrap t / 1099511627776), IntKind.u8.wrap (IntKind.u64.wrap t / 4294967296), IntKind.u8.wrap (IntKind.u64.wrap t / 16777216)] [IntKind.u8.wrap (IntKind.u64.wrap t / 65536)] w3 rfl o3 rfl (Nat.le_of_ble_eq_true rfl) z3 ?_; intro v4 w4 o4 b4 s4)
 have z4 : w.heap.size ≤ w4.heap.size := Nat.le_trans z3 s4
 have b4 := b3.trans b4
 clear b3 s4 o3 z3
 simp only [List.cons_append, List.nil_append] at o4
 rw [rounds_succ]
 go_wp2_with (at_builtin; refine app_any rfl (.tmp 10) (.tmp 16) rfl w.heap.size v4 [IntKind.u8.wrap (IntKind.u64.wrap t / 1099511627776), IntKind.u8.wrap (IntKind.u64.wrap t / 4294967296), IntKind.u8.wrap (IntKind.u64.wrap t / 16777216), IntKind.u8.wrap (IntKind.u64.wrap t / 65536)] [IntKind.u8.wrap (IntKind.u64.wrap t / 256)] w4 rfl o4 rfl (Nat.le_of_ble_eq_true rfl) z4 ?_; intro v5 w5 o5 b5 s5)
 have z5 : w.heap.size ≤ w5.heap.size := Nat.le_trans z4 s5
 have b5 := b4.trans b5
 clear b4 s5 o4 z4
 simp only [List.cons_append, List.nil_append] at o5
 rw [rounds_succ]
 go_wp2_with (at_builtin; refine app_any rfl (.tmp 10) (.tmp 16) rfl w.heap.size v5 [IntKind.u8.wrap (IntKind.u64.wrap t / 1099511627776), IntKind.u8.wrap (IntKind.u64.wrap t / 4294967296), IntKind.u8.wrap (IntKind.u64.wrap t / 16777216), IntKind.u8.wrap (IntKind.u64.wrap t / 65536), IntKind.u8.wrap (IntKind.u64.wrap t / 256)] [IntKind.u8.wrap (IntKind.u64.wrap t)] w5 rfl o5 rfl (Nat.le_of_ble_eq_true rfl) z5 ?_; intro v6 w6 o6 b6 s6)
 have z6 : w.heap.size ≤ w6.heap.size := Nat.le_trans z5 s6
 have b6 := b5.trans b6
 clear b5 s6 o5 z5
 simp only [List.cons_append, List.nil_append] at o6
 rw [HT.out] at o6
 rw [rounds_succ]
 go_wp2_with (with_reducible refine post_stop ?_)
 exact ⟨bodyPost_ret (v := v6) (by simp [results, Tryz.results140, go_sem]) rfl ⟨v6, rfl, o6, b6⟩⟩
theorem wcount_any (B : Nat) (v : Value) (l : List Int) (c : Int) (w : World) (hO : Bytes B w v l) (hB : B ≤ w.heap.size) (hl : l.length ≤ 90) :
    Calls Tryz.prog 141 #[v, .int .i64 c] w fun e w' => ∃ v', e = .returned v' ∧ Bytes B w' v' (l ++ twoL c) ∧ Below B w w' ∧ w.heap.size ≤ w'.heap.size := by
 have HT : Hid (twoL c = [IntKind.u8.wrap (IntKind.u16.wrap c / 256), IntKind.u8.wrap (IntKind.u16.wrap c)]) := rfl
 go_enter Tryz.func141, Tryz.ntmps141
 go_wp2_with (at_builtin; refine app_any rfl (.tmp 8) (.tmp 14) rfl B v l [IntKind.u8.wrap (IntKind.u16.wrap c / 256), IntKind.u8.wrap (IntKind.u16.wrap c)] w rfl hO rfl (by simp; omega) hB ?_; intro v1 w1 o1 b1 s1)
 skip
 go_wp2_with (with_reducible refine post_stop ?_)
 exact ⟨bodyPost_ret (v := v1) (by simp [results, Tryz.results141, go_sem]) rfl ⟨v1, rfl, by rw [HT.out]; exact o1, b1, s1⟩⟩
theorem rtcount_any (s : ByteArray) (i : Int) (p : Nat) (w : World) (hi : i = p) (h : p + 1 < s.size) (hp : p < 100) :
    Calls Tryz.prog 31 #[.string s, .int .i64 i] w fun e w' => e = .returned (.int .i64 (sg (cnt s p))) ∧ w' = w.drew := by
 subst hi
 have i0 := idx_run (s := s) (i := (p : Int)) (n := p) (by omega) (by omega)
 have i1 := idx_run (s := s) (i := (p : Int) + 1) (n := p + 1) (by omega) (by omega)
 have b0 := bt_lt s p
 have b1 := bt_lt s (p + 1)
 have HC : cnt s p = bt s p * 256 + bt s (p + 1) := rfl
 have w3 : IntKind.i64.wrap ((p : Int) + 1) = (p : Int) + 1 := by rw [IntKind.wrap_i64]; omega
 have HS : sg (cnt s p) = if 32768 ≤ (bt s p : Int) * 256 + (bt s (p + 1) : Int) then (bt s p : Int) * 256 + (bt s (p + 1) : Int) - 65536 else (bt s p : Int) * 256 + (bt s (p + 1) : Int) := by
  unfold sg
  rw [HC]
  split <;> split <;> omega
 rw [HS]
 clear HS HC
 generalize bt s p = a at i0 b0 ⊢
 generalize bt s (p + 1) = b at i1 b1 ⊢
 have w1 : IntKind.i64.wrap ((a : Int) * 256) = (a : Int) * 256 := by rw [IntKind.wrap_i64]; omega
 have w2 : IntKind.i64.wrap ((a : Int) * 256 + b) = (a : Int) * 256 + b := by rw [IntKind.wrap_i64]; omega
 have b0 : 0 ≤ (a : Int) ∧ (a : Int) < 256 := by omega
 have b1 : 0 ≤ (b : Int) ∧ (b : Int) < 256 := by omega
 generalize (a : Int) = x at *
 generalize (b : Int) = y at *
 by_cases c : 32768 ≤ x * 256 + y
 ·rw [if_pos c]
  go_enter Tryz.func31, Tryz.ntmps31
  go_wp2
  go_region
  go_wp2
  go_ret
  exact ⟨rfl, rfl⟩
 ·rw [if_neg c]
  go_enter Tryz.func31, Tryz.ntmps31
  go_wp2
  go_region
  go_wp2
  go_ret
  exact ⟨rfl, rfl⟩
end Go.Proofs.YtbophanlmkbfeaaGreatDoor
namespace Go.Proofs.YtbophanlmkbfeaaGreatDoor
open Go.RowKit
set_option maxRecDepth 100000
set_option maxHeartbeats 20000000
@[go_sem] theorem idx_tq0 (a b c d : Int) (w : World) : (Instr.index 52 (.agg #[.int .i64 a, .int .i64 b, .int .i64 c, .int .i64 d]) (.int .i64 0)).run Tryz.prog w = .ok (.int .i64 a) w := by kernel_rfl
@[go_sem] theorem idx_tq1 (a b c d : Int) (w : World) : (Instr.index 52 (.agg #[.int .i64 a, .int .i64 b, .int .i64 c, .int .i64 d]) (.int .i64 1)).run Tryz.prog w = .ok (.int .i64 b) w := by kernel_rfl
@[go_sem] theorem idx_tq2 (a b c d : Int) (w : World) : (Instr.index 52 (.agg #[.int .i64 a, .int .i64 b, .int .i64 c, .int .i64 d]) (.int .i64 2)).run Tryz.prog w = .ok (.int .i64 c) w := by kernel_rfl
@[go_sem] theorem idx_tq3 (a b c d : Int) (w : World) : (Instr.index 52 (.agg #[.int .i64 a, .int .i64 b, .int .i64 c, .int .i64 d]) (.int .i64 3)).run Tryz.prog w = .ok (.int .i64 d) w := by kernel_rfl
@[go_sem] theorem idx_td0 (a b c : Int) (w : World) : (Instr.index 53 (.agg #[.int .i64 a, .int .i64 b, .int .i64 c]) (.int .i64 0)).run Tryz.prog w = .ok (.int .i64 a) w := by kernel_rfl
@[go_sem] theorem idx_td1 (a b c : Int) (w : World) : (Instr.index 53 (.agg #[.int .i64 a, .int .i64 b, .int .i64 c]) (.int .i64 1)).run Tryz.prog w = .ok (.int .i64 b) w := by kernel_rfl
@[go_sem] theorem idx_td2 (a b c : Int) (w : World) : (Instr.index 53 (.agg #[.int .i64 a, .int .i64 b, .int .i64 c]) (.int .i64 2)).run Tryz.prog w = .ok (.int .i64 c) w := by kernel_rfl
theorem mayTell_any (T : Tl) (w : World) : Calls Tryz.prog 139 #[.agg #[.int .i64 T.t, .int .i64 T.m, .int .i64 T.fa, .int .i64 T.ak, .int .i64 T.er, .int .i64 T.rj, .int .i64 T.q0, .int .i64 T.q1, .int .i64 T.q2, .int .i64 T.q3, .int .i64 T.d0, .int .i64 T.d1, .int .i64 T.d2]] w fun e w' => e = .returned (.bool (tlOk T)) ∧ Below w.heap.size w w' := by
 have HO : Hid (tlOk T = (cRight T.t && inR T.m 0 3 && inR T.fa 0 15 && inR T.ak 0 255 && inR T.er 0 255 && inR T.rj 0 65535 && inR T.q0 (-32768) 32767 && inR T.q1 (-32768) 32767 && inR T.q2 (-32768) 32767 && inR T.q3 (-32768) 32767 && inR T.d0 (-32768) 32767 && inR T.d1 (-32768) 32767 && inR T.d2 (-32768) 32767)) := rfl
 generalize tlOk T = ok at HO ⊢
 have hct := fun W => cRight_any T.t W
 generalize cRight T.t = xt at hct HO
 have hm := fun W => within_any T.m 0 3 W
 generalize inR T.m 0 3 = xm at hm HO
 have hfa := fun W => within_any T.fa 0 15 W
 generalize inR T.fa 0 15 = xfa at hfa HO
 have hak := fun W => within_any T.ak 0 255 W
 generalize inR T.ak 0 255 = xak at hak HO
 have her := fun W => within_any T.er 0 255 W
 generalize inR T.er 0 255 = xer at her HO
 have hrj := fun W => within_any T.rj 0 65535 W
 generalize inR T.rj 0 65535 = xrj at hrj HO
 have hq0 := fun W => within_any T.q0 (-32768) 32767 W
 generalize inR T.q0 (-32768) 32767 = xq0 at hq0 HO
 have hq1 := fun W => within_any T.q1 (-32768) 32767 W
 generalize inR T.q1 (-32768) 32767 = xq1 at hq1 HO
 have hq2 := fun W => within_any T.q2 (-32768) 32767 W
 generalize inR T.q2 (-32768) 32767 = xq2 at hq2 HO
 have hq3 := fun W => within_any T.q3 (-32768) 32767 W
 generalize inR T.q3 (-32768) 32767 = xq3 at hq3 HO
 have hd0 := fun W => within_any T.d0 (-32768) 32767 W
 generalize inR T.d0 (-32768) 32767 = xd0 at hd0 HO
 have hd1 := fun W => within_any T.d1 (-32768) 32767 W
 generalize inR T.d1 (-32768) 32767 = xd1 at hd1 HO
 have hd2 := fun W => within_any T.d2 (-32768) 32767 W
 generalize inR T.d2 (-32768) 32767 = xd2 at hd2 HO
 have A := Arr_at w w.heap.size [.int .i64 T.t, .int .i64 T.m, .int .i64 T.fa, .int .i64 T.ak, .int .i64 T.er, .int .i64 T.rj, .int .i64 T.q0, .int .i64 T.q1, .int .i64 T.q2, .int .i64 T.q3, .int .i64 T.d0, .int .i64 T.d1, .int .i64 T.d2] 55 rfl
 clear A
 go_enter Tryz.func139, Tryz.ntmps139
 go_wp2_with fail
 refine wp_loop_rounds 5 ?_
 rw [rounds_succ]
 go_wp2_with fail
 refine (hq0 _).mono ?_
 rintro e X ⟨rfl, rfl⟩
 cases xq0
 case false =>
  go_wp2_with (with_reducible refine post_stop ?_)
  exact ⟨bodyPost_ret (v := .bool false) (by simp [results, Tryz.results139, go_sem]) rfl ⟨by rw [HO.out]; simp, bel_al (Below.refl _ _) _⟩⟩
 go_wp2_with fail
 rw [rounds_succ]
 go_wp2_with fail
 refine (hq1 _).mono ?_
 rintro e X ⟨rfl, rfl⟩
 cases xq1
 case false =>
  go_wp2_with (with_reducible refine post_stop ?_)
  exact ⟨bodyPost_ret (v := .bool false) (by simp [results, Tryz.results139, go_sem]) rfl ⟨by rw [HO.out]; simp, bel_al (Below.refl _ _) _⟩⟩
 go_wp2_with fail
 rw [rounds_succ]
 go_wp2_with fail
 refine (hq2 _).mono ?_
 rintro e X ⟨rfl, rfl⟩
 cases xq2
 case false =>
  go_wp2_with (with_reducible refine post_stop ?_)
  exact ⟨bodyPost_ret (v := .bool false) (by simp [results, Tryz.results139, go_sem]) rfl ⟨by rw [HO.out]; simp, bel_al (Below.refl _ _) _⟩⟩
 go_wp2_with fail
 rw [rounds_succ]
 go_wp2_with fail
 refine (hq3 _).mono ?_
 rintro e X ⟨rfl, rfl⟩
 cases xq3
 case false =>
  go_wp2_with (with_reducible refine post_stop ?_)
  exact ⟨bodyPost_ret (v := .bool false) (by simp [results, Tryz.results139, go_sem]) rfl ⟨by rw [HO.out]; simp, bel_al (Below.refl _ _) _⟩⟩
 go_wp2_with fail
 rw [rounds_succ]
 go_wp2_with fail
 refine wp_loop_rounds 4 ?_
 rw [rounds_succ]
 go_wp2_with fail
 refine (hd0 _).mono ?_
 rintro e X ⟨rfl, rfl⟩
 cases xd0
 case false =>
  go_wp2_with (with_reducible refine post_stop ?_)
  exact ⟨bodyPost_ret (v := .bool false) (by simp [results, Tryz.results139, go_sem]) rfl ⟨by rw [HO.out]; simp, bel_al (Below.refl _ _) _⟩⟩
 go_wp2_with fail
 rw [rounds_succ]
 go_wp2_with fail
 refine (hd1 _).mono ?_
 rintro e X ⟨rfl, rfl⟩
 cases xd1
 case false =>
  go_wp2_with (with_reducible refine post_stop ?_)
  exact ⟨bodyPost_ret (v := .bool false) (by simp [results, Tryz.results139, go_sem]) rfl ⟨by rw [HO.out]; simp, bel_al (Below.refl _ _) _⟩⟩
 go_wp2_with fail
 rw [rounds_succ]
 go_wp2_with fail
 refine (hd2 _).mono ?_
 rintro e X ⟨rfl, rfl⟩
 cases xd2
 case false =>
  go_wp2_with (with_reducible refine post_stop ?_)
  exact ⟨bodyPost_ret (v := .bool false) (by simp [results, Tryz.results139, go_sem]) rfl ⟨by rw [HO.out]; simp, bel_al (Below.refl _ _) _⟩⟩
 go_wp2_with fail
 rw [rounds_succ]
 have A := Arr_at w w.heap.size [.int .i64 T.t, .int .i64 T.m, .int .i64 T.fa, .int .i64 T.ak, .int .i64 T.er, .int .i64 T.rj, .int .i64 T.q0, .int .i64 T.q1, .int .i64 T.q2, .int .i64 T.q3, .int .i64 T.d0, .int .i64 T.d1, .int .i64 T.d2] 55 rfl
 go_wp2_with fail
 refine (hct _).mono ?_
 rintro e X ⟨rfl, bk⟩
 have A := A.below bk
 have L := bel_then (bel_al (Below.refl _ _) _) bk
 clear bk
 have az := A.lies
 have a1 : X.cell? ⟨w.heap.size, 1, none⟩ = some (.int .i64 T.m) := A.c 1 (zD rfl)
 have a2 : X.cell? ⟨w.heap.size, 2, none⟩ = some (.int .i64 T.fa) := A.c 2 (zD rfl)
 have a3 : X.cell? ⟨w.heap.size, 3, none⟩ = some (.int .i64 T.ak) := A.c 3 (zD rfl)
 have a4 : X.cell? ⟨w.heap.size, 4, none⟩ = some (.int .i64 T.er) := A.c 4 (zD rfl)
 have a5 : X.cell? ⟨w.heap.size, 5, none⟩ = some (.int .i64 T.rj) := A.c 5 (zD rfl)
 cases xt
 case false =>
  go_wp2_with (with_reducible refine post_stop ?_)
  exact ⟨bodyPost_ret (v := .bool false) (by simp [results, Tryz.results139, go_sem]) rfl ⟨by rw [HO.out]; simp, L⟩⟩
 go_wp2_with fail
 refine (hm _).mono ?_
 rintro e Y ⟨rfl, rfl⟩
 cases xm
 case false =>
  go_wp2_with (with_reducible refine post_stop ?_)
  exact ⟨bodyPost_ret (v := .bool false) (by simp [results, Tryz.results139, go_sem]) rfl ⟨by rw [HO.out]; simp, L⟩⟩
 go_wp2_with fail
 refine (hfa _).mono ?_
 rintro e Y ⟨rfl, rfl⟩
 cases xfa
 case false =>
  go_wp2_with (with_reducible refine post_stop ?_)
  exact ⟨bodyPost_ret (v := .bool false) (by simp [results, Tryz.results139, go_sem]) rfl ⟨by rw [HO.out]; simp, L⟩⟩
 go_wp2_with fail
 refine (hak _).mono ?_
 rintro e Y ⟨rfl, rfl⟩
 cases xak
 case false =>
  go_wp2_with (with_reducible refine post_stop ?_)
  exact ⟨bodyPost_ret (v := .bool false) (by simp [results, Tryz.results139, go_sem]) rfl ⟨by rw [HO.out]; simp, L⟩⟩
 go_wp2_with fail
 refine (her _).mono ?_
 rintro e Y ⟨rfl, rfl⟩
 cases xer
 case false =>
  go_wp2_with (with_reducible refine post_stop ?_)
  exact ⟨bodyPost_ret (v := .bool false) (by simp [results, Tryz.results139, go_sem]) rfl ⟨by rw [HO.out]; simp, L⟩⟩
 go_wp2_with fail
 refine (hrj _).mono ?_
 rintro e Y ⟨rfl, rfl⟩
 cases xrj
 case false =>
  go_wp2_with (with_reducible refine post_stop ?_)
  exact ⟨bodyPost_ret (v := .bool false) (by simp [results, Tryz.results139, go_sem]) rfl ⟨by rw [HO.out]; simp, L⟩⟩
 go_wp2_with (with_reducible refine post_stop ?_)
 exact ⟨bodyPost_ret (v := .bool true) (by simp [results, Tryz.results139, go_sem]) rfl ⟨by rw [HO.out]; simp, L⟩⟩
end Go.Proofs.YtbophanlmkbfeaaGreatDoor
