/- A part. -/
import Derived.Test.YtpjobkbefgehjaaGreatJC
import Derived.Handy
import Derived.Deep.RegionHeld3
import Derived.Deep.DrawnRows
namespace Go.Proofs.YtpjobkbefgehjaaGreat
open Go.RowKit
attribute [local go_sem ↓] Go.wp_at_zero Go.wp_at_succ
set_option maxHeartbeats 400000 in
theorem rnumber_any (a : Int) (w : World) :
  Calls Tryz.prog 92 #[.int .i64 a] w fun e w' => e = .returned (.bool (numB a)) ∧ w' = w := by
 go_enter Tryz.func92, Tryz.ntmps92
 go_wp2
 all_goals
  go_ret
  exact ⟨ret_bool (by unfold numB; simp; try omega), rfl⟩
set_option maxHeartbeats 400000 in
theorem radd_gen (a b c d : Int) (w : World) (h1 : 0 ≤ a ∧ a ≤ 18446744073709551615) (h2 : 0 ≤ b ∧ b ≤ 18446744073709551615) (h3 : 0 ≤ c ∧ c ≤ 18446744073709551615) (h4 : 0 ≤ d ∧ d ≤ 18446744073709551615)
  (hs : a * 18446744073709551616 + b + (c * 18446744073709551616 + d) ≤ 340282366920938463463374607431768211455) :
  Calls Tryz.prog 127 #[.agg #[.int .u64 a, .int .u64 b], .agg #[.int .u64 c, .int .u64 d]] w fun e w' => e = .returned (.agg #[.int .u64 (hi64 (a * 18446744073709551616 + b + (c * 18446744073709551616 + d))), .int .u64 (lo64 (a * 18446744073709551616 + b + (c * 18446744073709551616 + d)))]) ∧ Below w.heap.size w w' := by
 have HS : Hid _ := hs
 clear hs
 go_enter Tryz.func127, Tryz.ntmps127
 go_wp2
 all_goals
  rename_i hq
  go_returns
  refine ⟨ret_agg2 ?_ ?_, by go_grown⟩ <;> (have hs := HS.out; rw [IntKind.wrap_u64] at hq; simp only [IntKind.wrap_u64]; first | unfold hi64 | unfold lo64); all_goals omega
theorem radd_any (n m : Int) (w : World) (h0 : 0 ≤ n) (k0 : 0 ≤ m) (hs : n + m ≤ 340282366920938463463374607431768211455) :
  Calls Tryz.prog 127 #[.agg #[.int .u64 (hi64 n), .int .u64 (lo64 n)], .agg #[.int .u64 (hi64 m), .int .u64 (lo64 m)]] w fun e w' => e = .returned (.agg #[.int .u64 (hi64 (n + m)), .int .u64 (lo64 (n + m))]) ∧ Below w.heap.size w w' := by
 have e1 := hilo n
 have e2 := hilo m
 have := radd_gen (hi64 n) (lo64 n) (hi64 m) (lo64 m) w (hi64_bd n h0 (by omega)) (lo64_bd n) (hi64_bd m k0 (by omega)) (lo64_bd m) (by omega)
 rw [e1, e2] at this
 exact this
set_option maxHeartbeats 400000 in
theorem rsize_any (a : Int) (w : World) (h : numB a = true) :
  Calls Tryz.prog 126 #[.int .i64 a] w fun e w' => e = .returned (.int .u64 (sz a)) ∧ w' = w := by
 have hb := numB_bd h
 go_enter Tryz.func126, Tryz.ntmps126
 go_wp2
 all_goals
  go_ret
  exact ⟨ret_int (by unfold sz; split <;>  omega), rfl⟩
set_option maxHeartbeats 400000 in
theorem rgive_any (b : Nat) (n : Int) (minus : Bool) (w : World) (hw : Fl b false w) (h0 : 0 ≤ n) (h1 : n ≤ 18446744073709551615) :
  Calls Tryz.prog 124 #[.pointer (some ⟨b, 0, none⟩), .int .u64 n, .bool minus] w fun e w' => e = .returned (.int .i64 (out n minus).1) ∧ Fl b (out n minus).2 w' ∧ Kept b w w' := by
 show Calls Tryz.prog 124 _ _ fun e w' => e = .returned (.int .i64 (sgnd n minus)) ∧ Fl b (decide (4611686018427387904 < n)) w' ∧ Kept b w w'
 have HW : Hid _ := hw
 obtain ⟨hc, hf, hl⟩ := hw
 by_cases c : n ≤ 4611686018427387904
 ·have HS : Hid _ := sgnd_in n minus c
  have HC : Hid (decide (4611686018427387904 < n) = false) := by show _ = _; simp; omega
  cases minus
  all_goals
   go_enter Tryz.func124, Tryz.ntmps124
   go_wp2
   go_ret
   rw [HC.out]
   exact ⟨ret_int HS.out, HW.out, Kept.refl _ _⟩
 ·have HS : Hid _ := sgnd_out n minus c
  go_enter Tryz.func124, Tryz.ntmps124
  go_wp2
  go_ret
  exact ⟨ret_int HS.out, HW.out.set true, (Kept.refl _ _).setCell _⟩
set_option maxHeartbeats 400000 in
theorem rtake_any (b s : Nat) (bad : Bool) (zs : List Int) (w : World) (hw : Fl b bad w) (hz : Ints s zs w) (hlen : zs.length ≤ 3) (hsb : s ≠ b) (hs : s < w.heap.size) :
  Calls Tryz.prog 83 #[.pointer (some ⟨b, 0, none⟩), .slice (some ⟨s, 0, none⟩) zs.length zs.length] w fun e w' => e = .returned (.bool (tk bad zs)) ∧ Fl b (!tk bad zs) w' ∧ Kept b w w' := by
 have HW : Hid _ := hw
 have HZ : Hid _ := hz
 clear hz hw
 go_enter Tryz.func83, Tryz.ntmps83
 go_wp2
 go_loopw [5] (fun v wr => ∃ k : Nat, k ≤ zs.length ∧ v = .int .i64 k ∧ Hid (Fl b (bad || !(zs.take k).all numB) wr) ∧ Hid (Kept b w wr)) (fun v _ => zs.length - (intOf v).toNat)
 case atStart => exact ⟨0, Nat.zero_le _, rfl, by show Fl _ _ _; simpa using HW.out, Kept.refl _ _⟩
 case round =>
  obtain ⟨k, hk, rfl, HF, HK⟩ := hrel
  by_cases hlt : k < zs.length
  ·have hcell : wr.cell? ⟨s, k, none⟩ = some (.int .i64 zs[k]) := (HK.out.cell (p := ⟨s, k, none⟩) hs hsb).trans (HZ.out k hlt)
   have HS : Hid _ := all_take_succ hlt
   generalize zs[k] = z at *
   cases c : numB z
   ·have HC2 : Hid _ := c
    clear c
    have hf1 := HF.out.cell
    have hf2 := HF.out.free
    go_wp2_with fail
    refine (rnumber_any _ _).mono ?_
    rintro e w1 ⟨rfl, rfl⟩
    rw [HC2.out]
    go_wp2
    refine ⟨⟨k + 1, by omega, by go_num, ?_, HK.out.setCell _⟩, by simp [intOf]; omega⟩
    show Fl _ _ _
    rw [HS.out, HC2.out]
    simpa using HF.out.set true
   ·have HC2 : Hid _ := c
    clear c
    go_wp2_with fail
    refine (rnumber_any _ _).mono ?_
    rintro e w1 ⟨rfl, rfl⟩
    rw [HC2.out]
    go_wp2
    refine ⟨⟨k + 1, by omega, by go_num, ?_, HK.out⟩, by simp [intOf]; omega⟩
    show Fl _ _ _
    rw [HS.out, HC2.out]
    simpa using HF.out
  ·have hf1 := HF.out.cell
   have HT : Hid (zs.take k = zs) := List.take_of_length_le (by omega)
   rw [HT.out] at hf1
   go_wp2
   go_ret
   have h1 := HF.out
   rw [HT.out, tk_not] at h1
   exact ⟨ret_bool rfl, h1, HK.out⟩
theorem rtake1 (b : Nat) (bad : Bool) (x : Int) (w : World) (hw : Fl b bad w) :
  Calls Tryz.prog 83 #[.pointer (some ⟨b, 0, none⟩), .slice (some ⟨w.heap.size, 0, none⟩) 1 1] (w.alloc (.cells #[.int .i64 x] 2)) fun e w' => e = .returned (.bool (tk bad [x])) ∧ Fl b (!tk bad [x]) w' ∧ Kept b w w' :=
 (rtake_any b w.heap.size bad [x] _ (hw.alloc _) (Ints_one x w) (by simp) (zG hw.lies) (by simp)).mono fun _ _ h => ⟨h.1, h.2.1, (Kept.alloc b w _).trans h.2.2⟩
theorem rtake2 (b : Nat) (bad : Bool) (x y : Int) (w : World) (hw : Fl b bad w) :
  Calls Tryz.prog 83 #[.pointer (some ⟨b, 0, none⟩), .slice (some ⟨w.heap.size, 0, none⟩) 2 2] (w.alloc (.cells #[.int .i64 x, .int .i64 y] 2)) fun e w' => e = .returned (.bool (tk bad [x, y])) ∧ Fl b (!tk bad [x, y]) w' ∧ Kept b w w' :=
 (rtake_any b w.heap.size bad [x, y] _ (hw.alloc _) (Ints_two x y w) (by simp) (zG hw.lies) (by simp)).mono fun _ _ h => ⟨h.1, h.2.1, (Kept.alloc b w _).trans h.2.2⟩
theorem rtake3 (b : Nat) (bad : Bool) (x y z : Int) (w : World) (hw : Fl b bad w) :
  Calls Tryz.prog 83 #[.pointer (some ⟨b, 0, none⟩), .slice (some ⟨w.heap.size, 0, none⟩) 3 3] (w.alloc (.cells #[.int .i64 x, .int .i64 y, .int .i64 z] 2)) fun e w' => e = .returned (.bool (tk bad [x, y, z])) ∧ Fl b (!tk bad [x, y, z]) w' ∧ Kept b w w' :=
 (rtake_any b w.heap.size bad [x, y, z] _ (hw.alloc _) (Ints_three x y z w) (by simp) (zG hw.lies) (by simp)).mono fun _ _ h => ⟨h.1, h.2.1, (Kept.alloc b w _).trans h.2.2⟩
end Go.Proofs.YtpjobkbefgehjaaGreat
namespace Go.Proofs.YtpjobkbefgehjaaGreat
open Go.RowKit
attribute [local go_sem ↓] Go.wp_at_zero Go.wp_at_succ
set_option maxHeartbeats 400000 in
theorem rTimes_any (x y : Int) (w : World) (hx : 0 ≤ x ∧ x ≤ 9223372036854775808) (hy : 0 ≤ y ∧ y ≤ 9223372036854775808) :
  Calls Tryz.prog 122 #[.int .u64 x, .int .u64 y] w fun e w' => e = .returned (.agg #[.int .u64 (hi64 (x * y)), .int .u64 (lo64 (x * y))]) ∧ Below w.heap.size w w' := by
 go_enter Tryz.func122, Tryz.ntmps122
 go_wp2
 have HP : Hid _ := mul_bd63 x y hx hy
 go_loopw [1] (fun v wr => ∃ y' s t : Int, v = .int .u64 y' ∧ 0 ≤ y' ∧ y' ≤ 9223372036854775808 ∧ Hid (Wd (w.heap.size + 1) s wr ∧ Wd (w.heap.size + 1 + 1) t wr ∧ Wd w.heap.size 0 wr) ∧ Hid (s + t * y' = x * y ∧ 0 ≤ s ∧ 0 ≤ t ∧ t ≤ 170141183460469231731687303715884105728) ∧ Hid (Below w.heap.size w wr)) (fun v _ => (intOf v).toNat)
 case atStart =>
  have e := hi64_small x hx.1 (by omega)
  have z := hi64_small 0 (by decide) (by decide)
  refine ⟨y, 0, x, rfl, hy.1, hy.2, ⟨⟨?_, ?_, ?_, ?_, ?_⟩, ⟨?_, ?_, ?_, ?_, ?_⟩, ⟨?_, ?_, ?_, ?_, ?_⟩⟩, ⟨by omega, by decide, hx.1, by omega⟩, ?_⟩
  all_goals first | (show Below _ _ _; go_grown; done) | (simp [go_sem, e.1, e.2, z.1, z.2]; done) | (simp [go_sem, e.1, e.2, z.1, z.2]; omega)
 case round =>
  obtain ⟨y', s, t, rfl, hy0, hy1, HM, HE, HB⟩ := hrel
  have hz : w.heap.size + 1 + 1 < wr.heap.size := HM.out.2.1.lies
  by_cases hc : 0 < y'
  ·have HL : Hid _ := times_bd s t y' _ HE.out.1 HE.out.2.1 HE.out.2.2.1 hc
   have m1 := HM.out.1.hi
   have m2 := HM.out.1.lo
   have m3 := HM.out.1.fh
   have m4 := HM.out.1.fl
   have m5 := HM.out.2.1.hi
   have m6 := HM.out.2.1.lo
   have m7 := HM.out.2.1.fh
   have m8 := HM.out.2.1.fl
   by_cases ho : y' % 2 = 1
   ·have HO : Hid _ := times_odd s t y' _ HE.out.1 ho
    have ho1 : (y' % 2 == 1) = true := by simpa using ho
    clear ho
    go_wp2_with fail
    refine (radd_any s t _ HE.out.2.1 HE.out.2.2.1 (by have := HL.out; have := HP.out; omega)).mono ?_
    rintro e w1 ⟨rfl, hb⟩
    have H1 : Hid _ := HM.out.1.below hb
    have H2 : Hid _ := HM.out.2.1.below hb
    have H3 : Hid _ := HM.out.2.2.below hb
    have HB1 : Hid _ := HB.out.trans (hb.mono (Nat.le_of_lt (Nat.lt_of_le_of_lt (by omega) hz)))
    have hz1 : w.heap.size + 1 + 1 < w1.heap.size := H2.out.lies
    clear m1 m2 m3 m4 m5 m6 m7 m8 hb hz
    have m1 := H1.out.hi
    have m2 := H1.out.lo
    have m3 := H1.out.fh
    have m4 := H1.out.fl
    have m5 := H2.out.hi
    have m6 := H2.out.lo
    have m7 := H2.out.fh
    have m8 := H2.out.fl
    go_wp2_with fail
    refine (radd_any t t _ HE.out.2.2.1 HE.out.2.2.1 (by have := HL.out; have := HP.out; omega)).mono ?_
    rintro e w2 ⟨rfl, hb⟩
    have J1 : Hid _ := (H1.out.put (s + t)).below hb
    have J2 : Hid _ := (H2.out.far (by omega) (.int .u64 (hi64 (s + t))) (.int .u64 (lo64 (s + t)))).below hb
    have J3 : Hid _ := (H3.out.far (by omega) (.int .u64 (hi64 (s + t))) (.int .u64 (lo64 (s + t)))).below hb
    have HB2 : Hid (Below w.heap.size w w2) := ((HB1.out.setCell (by simp) _).setCell (by simp) _).trans (hb.mono (by simp; omega))
    have hz2 : w.heap.size + 1 + 1 < w2.heap.size := J2.out.lies
    clear m1 m2 m3 m4 m5 m6 m7 m8 hb hz1
    have m5 := J2.out.hi
    have m6 := J2.out.lo
    have m7 := J2.out.fh
    have m8 := J2.out.fl
    go_wp2
    refine ⟨⟨y' / 2, s + t, t + t, rfl, by omega, by omega, ⟨J1.out.far (by omega) _ _, J2.out.put _, J3.out.far (by omega) _ _⟩, ⟨HO.out, ?_, ?_, ?_⟩, (HB2.out.setCell (by simp; omega) _).setCell (by simp; omega) _⟩, by simp [intOf]; omega⟩
    all_goals (have := HE.out; have := HL.out; have := HP.out; omega)
   ·have HO : Hid _ := times_even s t y' _ HE.out.1 (by omega)
    have ho1 : (y' % 2 == 1) = false := by simpa using ho
    clear ho
    go_wp2_with fail
    refine (radd_any t t _ HE.out.2.2.1 HE.out.2.2.1 (by have := HL.out; have := HP.out; omega)).mono ?_
    rintro e w2 ⟨rfl, hb⟩
    have J1 : Hid _ := HM.out.1.below hb
    have J2 : Hid _ := HM.out.2.1.below hb
    have J3 : Hid _ := HM.out.2.2.below hb
    have HB2 : Hid (Below w.heap.size w w2) := HB.out.trans (hb.mono (by omega))
    have hz2 : w.heap.size + 1 + 1 < w2.heap.size := J2.out.lies
    clear m1 m2 m3 m4 m5 m6 m7 m8 hb hz
    have m5 := J2.out.hi
    have m6 := J2.out.lo
    have m7 := J2.out.fh
    have m8 := J2.out.fl
    go_wp2
    refine ⟨⟨y' / 2, s, t + t, rfl, by omega, by omega, ⟨J1.out.far (by omega) _ _, J2.out.put _, J3.out.far (by omega) _ _⟩, ⟨HO.out, ?_, ?_, ?_⟩, (HB2.out.setCell (by simp; omega) _).setCell (by simp; omega) _⟩, by simp [intOf]; omega⟩
    all_goals (have := HE.out; have := HL.out; have := HP.out; omega)
  ·have m1 := HM.out.1.hi
   have m2 := HM.out.1.lo
   have n1 := HM.out.2.2.hi
   have n2 := HM.out.2.2.lo
   have n3 := HM.out.2.2.fh
   have n4 := HM.out.2.2.fl
   have HZ : Hid (s = x * y) := by show _ = _; have e := HE.out.1; rw [show y' = 0 by omega] at e; omega
   have HQ : Hid _ := World.cell?_setCell_same wr ⟨w.heap.size, 0, none⟩ (.int .u64 (hi64 s)) n1
   have HQ2 : Hid _ := (HM.out.2.2.put s).lo
   go_wp2
   refine bodyPost_ret (v := .agg #[.int .u64 (hi64 s), .int .u64 (lo64 s)]) (by simp [results, Tryz.results122, go_sem, HQ.out, HQ2.out]) rfl ?_
   rw [HZ.out]
   exact ⟨rfl, (HB.out.setCell (Nat.le_refl _) _).setCell (Nat.le_refl _) _⟩
end Go.Proofs.YtpjobkbefgehjaaGreat
namespace Go.Proofs.YtpjobkbefgehjaaGreat
open Go.RowKit
attribute [local go_sem ↓] Go.wp_at_zero Go.wp_at_succ
set_option maxHeartbeats 400000 in
theorem rOver_no (n d : Int) (w : World) (h0 : 0 ≤ d) (h : d = 0 ∨ d ≤ hi64 n) :
  Calls Tryz.prog 129 #[.agg #[.int .u64 (hi64 n), .int .u64 (lo64 n)], .int .u64 d] w fun e w' => e = .returned (.tuple #[.int .u64 0, .int .u64 0, .bool false]) ∧ Below w.heap.size w w' := by
 by_cases c : d = 0
 ·subst c
  clear h h0
  go_enter Tryz.func129, Tryz.ntmps129
  go_wp2
  go_ret3
  exact ⟨rfl, by go_grown⟩
 ·have c1 : (d == 0) = false := by simpa using c
  have c2 : d ≤ hi64 n := by omega
  clear h c
  go_enter Tryz.func129, Tryz.ntmps129
  go_wp2
  go_ret3
  exact ⟨rfl, by go_grown⟩
set_option maxHeartbeats 400000 in
theorem rOver_yes (n d : Int) (w : World) (h0 : 0 ≤ n) (h1 : n ≤ 85070591730234615865843651857942052864) (hq : hi64 n < d) (hd : d ≤ 4611686018427387904) :
  Calls Tryz.prog 129 #[.agg #[.int .u64 (hi64 n), .int .u64 (lo64 n)], .int .u64 d] w fun e w' => e = .returned (.tuple #[.int .u64 (n / d), .int .u64 (n % d), .bool true]) ∧ Below w.heap.size w w' := by
 have b1 := hi64_bd n h0 (by omega)
 have b2 := lo64_bd n
 have hd0 : 0 < d := by omega
 have c1 : (d == 0) = false := by simp; omega
 have c2 : decide (d ≤ hi64 n) = false := by simp; omega
 go_enter Tryz.func129, Tryz.ntmps129
 go_wp2
 go_loop [7, 8, 9] (fun vr vq vj => ∃ j : Int, -1 ≤ j ∧ j ≤ 63 ∧ vr = .int .u64 (ldr n d (j + 1).toNat) ∧ vq = .int .u64 (ldq n d (j + 1).toNat) ∧ vj = .int .i64 j) (fun _ _ vj => (intOf vj + 1).toNat)
 case atStart =>
  have := ldq_64 n d h0 hq
  exact ⟨63, by omega, by omega, by show _ = Value.int .u64 (ldr n d 64); rw [this.2], by show _ = Value.int .u64 (ldq n d 64); rw [this.1], rfl⟩
 case round =>
  obtain ⟨j, hj0, hj1, rfl, rfl, rfl⟩ := hrel
  by_cases hj : 0 ≤ j
  ·obtain ⟨m, rfl⟩ := Int.eq_ofNat_of_zero_le hj
   rw [show ((m : Int) + 1).toNat = m + 1 by omega]
   have HS : Hid _ := ldq_step n d m hd0
   have HR : Hid _ := ldr_bd n d (m + 1) hd0
   have HQ : Hid _ := ldq_bd n d m hd0 h0 hq
   have HQ1 : Hid _ := ldq_bd n d (m + 1) hd0 h0 hq
   generalize ldr n d (m + 1) = r at *
   generalize ldq n d (m + 1) = q at *
   have r1 := HR.out
   have HJ : Hid _ := ld_join n r m (by omega) r1.1 (by omega)
   have ht : (r / 9223372036854775808 == 1) = false := by simp; omega
   go_wp2
   ·rename_i hc
    rw [HJ.out] at hc ⊢
    have e := HS.out.1 (by simpa using hc)
    have q1 := HQ.out
    have q2 := HQ1.out
    refine ⟨⟨(m : Int) - 1, by omega, by omega, ?_, ?_, rfl⟩, by simp [intOf]⟩
    ·rw [show ((m : Int) - 1 + 1).toNat = m by omega, e.2, IntKind.wrap_u64]; congr 1; omega
    ·rw [show ((m : Int) - 1 + 1).toNat = m by omega, e.1]; simp only [IntKind.wrap_u64]; congr 1; omega
   ·rename_i hc
    rw [HJ.out] at hc ⊢
    have e := HS.out.2 (by simpa using hc)
    have q1 := HQ.out
    have q2 := HQ1.out
    refine ⟨⟨(m : Int) - 1, by omega, by omega, ?_, ?_, rfl⟩, by simp [intOf]⟩
    ·rw [show ((m : Int) - 1 + 1).toNat = m by omega, e.2]
    ·rw [show ((m : Int) - 1 + 1).toNat = m by omega, e.1, IntKind.wrap_u64]; congr 1; omega
  ·go_wp2
   go_ret3
   obtain rfl : j = -1 := by omega
   have e := ldq_0 n d
   refine ⟨?_, by go_grown⟩
   show Ending.returned (.tuple #[.int .u64 (ldq n d 0), .int .u64 (ldr n d 0), .bool true]) = _
   rw [e.1, e.2]
set_option maxHeartbeats 400000 in
theorem rRounded_no (n d : Int) (w : World) (h0 : 0 ≤ n) (h1 : n ≤ 85070591730234615865843651857942052864) (hd0 : 0 ≤ d) (hd : d ≤ 4611686018427387904) (h : d = 0 ∨ 4611686018427387904 < n / d) :
  Calls Tryz.prog 125 #[.agg #[.int .u64 (hi64 n), .int .u64 (lo64 n)], .int .u64 d] w fun e w' => e = .returned (.tuple #[.int .u64 0, .bool false]) ∧ Below w.heap.size w w' := by
 by_cases c : d = 0 ∨ d ≤ hi64 n
 ·have HC : Hid _ := c
  have HD : Hid _ := hd0
  clear h c h0 h1 hd
  go_enter Tryz.func125, Tryz.ntmps125
  go_wp2_with fail
  refine (rOver_no n d _ HD.out HC.out).mono ?_
  rintro e w1 ⟨rfl, hb⟩
  have HB : Hid _ := hb
  clear hb
  go_wp2
  go_ret2
  exact ⟨rfl, ((Below.refl _ _).alloc (Nat.le_refl _) _).trans (HB.out.mono (by simp))⟩
 ·have c1 : hi64 n < d := by omega
  have c2 : 4611686018427387904 < n / d := by omega
  clear h c
  go_enter Tryz.func125, Tryz.ntmps125
  go_wp2_with fail
  refine (rOver_yes n d _ h0 h1 c1 hd).mono ?_
  rintro e w1 ⟨rfl, hb⟩
  have HB : Hid _ := hb
  clear hb
  go_wp2
  go_ret2
  exact ⟨rfl, ((Below.refl _ _).alloc (Nat.le_refl _) _).trans (HB.out.mono (by simp))⟩
set_option maxHeartbeats 400000 in
theorem rRounded_yes (n d : Int) (w : World) (h0 : 0 ≤ n) (h1 : n ≤ 85070591730234615865843651857942052864) (hd0 : 1 ≤ d) (hd : d ≤ 4611686018427387904) (h : n / d ≤ 4611686018427387904) :
  Calls Tryz.prog 125 #[.agg #[.int .u64 (hi64 n), .int .u64 (lo64 n)], .int .u64 d] w fun e w' => e = .returned (.tuple #[.int .u64 (rnd n d), .bool true]) ∧ Below w.heap.size w w' := by
 have c1 : hi64 n < d := hi_of_quot n d hd0 h
 have HR : Hid _ := rnd_ways n d hd0
 have hq0 : 0 ≤ n / d := Int.ediv_nonneg h0 (by omega)
 have hr0 : 0 ≤ n % d := Int.emod_nonneg n (by omega)
 have hr1 : n % d < d := Int.emod_lt_of_pos n (by omega)
 go_enter Tryz.func125, Tryz.ntmps125
 go_wp2_with fail
 refine (rOver_yes n d _ h0 h1 c1 hd).mono ?_
 rintro e w1 ⟨rfl, hb⟩
 have HB : Hid _ := hb
 clear hb h0 h1
 generalize n / d = q at *
 generalize n % d = r at *
 go_wp2
 ·go_ret2
  rw [HR.out.1 (by assumption)]
  exact ⟨rfl, ((Below.refl _ _).alloc (Nat.le_refl _) _).trans (HB.out.mono (by simp))⟩
 ·go_ret2
  rw [HR.out.2 (by assumption)]
  exact ⟨rfl, ((Below.refl _ _).alloc (Nat.le_refl _) _).trans (HB.out.mono (by simp))⟩
end Go.Proofs.YtpjobkbefgehjaaGreat
namespace Go.Proofs.YtpjobkbefgehjaaGreat
open Go.RowKit
set_option maxHeartbeats 400000 in
theorem rratio_any (b : Nat) (x p q : Int) (w : World) (hw : Fl b false w) (hx : numB x = true) (hp : numB p = true) (hq : numB q = true) :
  Calls Tryz.prog 84 #[.pointer (some ⟨b, 0, none⟩), .int .i64 x, .int .i64 p, .int .i64 q] w fun e w' => e = .returned (.int .i64 (ratS x p q).1) ∧ Fl b (ratS x p q).2 w' ∧ Kept b w w' := by
 have HX : Hid _ := hx
 have HP : Hid _ := hp
 have HQ : Hid _ := hq
 have HW : Hid _ := hw
 have sx := sz_bd hx
 have sp := sz_bd hp
 have sq := sz_bd hq
 have HM : Hid _ := sz_mul_bd hx hp
 clear hx hp hq hw
 by_cases c : q = 0 ∨ 4611686018427387904 < sz x * sz p / sz q
 ·have HS : Hid (ratS x p q = (0, true)) := ratS_no c
  have HC : Hid (sz q = 0 ∨ 4611686018427387904 < sz x * sz p / sz q) := (by rcases c with c | c; exact .inl (sz_zero c); exact .inr c)
  clear c
  go_enter Tryz.func84, Tryz.ntmps84
  go_wp2_with fail
  refine (rsize_any x _ HX.out).mono ?_
  rintro e w1 ⟨rfl, rfl⟩
  go_wp2_with fail
  refine (rsize_any p _ HP.out).mono ?_
  rintro e w1 ⟨rfl, rfl⟩
  go_wp2_with fail
  refine (rTimes_any (sz x) (sz p) _ ⟨sx.1, by omega⟩ ⟨sp.1, by omega⟩).mono ?_
  rintro e w3 ⟨rfl, h4⟩
  have H4 : Hid _ := h4
  clear h4
  go_wp2_with fail
  refine (rsize_any q _ HQ.out).mono ?_
  rintro e w1 ⟨rfl, rfl⟩
  go_wp2_with fail
  refine (rRounded_no (sz x * sz p) (sz q) _ HM.out.1 (by have := HM.out; omega) sq.1 sq.2 HC.out).mono ?_
  rintro e w4 ⟨rfl, h5⟩
  have HF : Hid _ := (HW.out.below H4.out).below h5
  have HK : Hid (Kept b _ w4) := (Kept.of_below H4.out).trans (Kept.of_below h5)
  clear h5
  have f1 := HF.out.cell
  have f2 := HF.out.free
  go_wp2
  go_ret
  rw [HS.out]
  exact ⟨rfl, HF.out.set true, HK.out.setCell _⟩
 ·have c1 : sz x * sz p / sz q ≤ 4611686018427387904 := by omega
  have c2 : (q != 0) = true := by simp; omega
  have HS : Hid _ := ratS_yes x p q c2
  have s1 := sz_pos c2
  have HC : Hid _ := c1
  have HN : Hid _ := rnd_nonneg HM.out.1 s1
  have HN2 : Hid _ := rnd_top s1 c1
  clear c c1 c2
  go_enter Tryz.func84, Tryz.ntmps84
  go_wp2_with fail
  refine (rsize_any x _ HX.out).mono ?_
  rintro e w1 ⟨rfl, rfl⟩
  go_wp2_with fail
  refine (rsize_any p _ HP.out).mono ?_
  rintro e w1 ⟨rfl, rfl⟩
  go_wp2_with fail
  refine (rTimes_any (sz x) (sz p) _ ⟨sx.1, by omega⟩ ⟨sp.1, by omega⟩).mono ?_
  rintro e w3 ⟨rfl, h4⟩
  have H4 : Hid _ := h4
  clear h4
  go_wp2_with fail
  refine (rsize_any q _ HQ.out).mono ?_
  rintro e w1 ⟨rfl, rfl⟩
  go_wp2_with fail
  refine (rRounded_yes (sz x * sz p) (sz q) _ HM.out.1 (by have := HM.out; omega) s1 sq.2 HC.out).mono ?_
  rintro e w4 ⟨rfl, h5⟩
  have HF : Hid _ := (HW.out.below H4.out).below h5
  have HK : Hid (Kept b _ w4) := (Kept.of_below H4.out).trans (Kept.of_below h5)
  clear h5 s1 sx sp sq
  generalize rnd (sz x * sz p) (sz q) = r at *
  go_wp2_with fail
  all_goals
   refine (rgive_any b _ _ _ HF.out HN.out HN2.out).mono ?_
   rintro e w5 ⟨rfl, h6, h7⟩
   go_wp2
   go_ret
   rw [HS.out]
   first | rw [decide_eq_true (show x < 0 by omega)] | rw [decide_eq_false (show ¬ x < 0 by omega)]
   first | rw [decide_eq_true (show p < 0 by omega)] | rw [decide_eq_false (show ¬ p < 0 by omega)]
   first | rw [decide_eq_true (show q < 0 by omega)] | rw [decide_eq_false (show ¬ q < 0 by omega)]
   exact ⟨rfl, h6, HK.out.trans h7⟩
set_option maxHeartbeats 400000 in
theorem rAdd_any (b : Nat) (bad : Bool) (x y : Int) (w : World) (hw : Fl b bad w) :
  Calls Tryz.prog 39 #[.pointer (some ⟨b, 0, none⟩), .int .i64 x, .int .i64 y] w fun e w' => e = .returned (.int .i64 (addS bad x y).1) ∧ Fl b (addS bad x y).2 w' ∧ Kept b w w' := by
 go_enter Tryz.func39, Tryz.ntmps39
 go_wp2_with fail
 refine (rtake2 b bad x y w hw).mono ?_
 rintro e w1 ⟨rfl, h2, h3⟩
 cases c : tk bad [x, y]
 ·rw [c] at h2
  have HS : Hid _ := addS_no c
  have H2 : Hid _ := h2
  have H3 : Hid _ := h3
  clear c h2 h3 hw
  go_wp2
  go_ret
  rw [HS.out]
  exact ⟨rfl, H2.out, H3.out⟩
 ·rw [c] at h2
  have HS : Hid _ := addS_yes c
  have H2 : Hid _ := h2
  have H3 : Hid _ := h3
  have ht := tk_two c
  have hx := numB_bd ht.2.1
  have hy := numB_bd ht.2.2
  have f1 := h2.cell
  have f2 := h2.free
  have x1 := half_bd x hx
  have y1 := half_bd y hy
  have HH : Hid _ := half_sum x y
  have HI : Hid _ := num_wrap (x + y) (by omega)
  have s1 := half_rest x y
  clear c hw ht h2 h3
  by_cases c : 2305843009213693952 < x.tdiv 2 + y.tdiv 2 + (x.tmod 2 + y.tmod 2).tdiv 2
  ·have HN : Hid (numB (x + y) = false) := by show _ = _; have := HH.out; unfold numB; simp; omega
   go_wp2
   go_ret
   rw [HS.out, gv_no HN.out]
   exact ⟨rfl, H2.out.set true, H3.out.setCell _⟩
  ·by_cases d : x.tdiv 2 + y.tdiv 2 + (x.tmod 2 + y.tmod 2).tdiv 2 < -2305843009213693952
   ·have HN : Hid (numB (x + y) = false) := by show _ = _; have := HH.out; unfold numB; simp; omega
    go_wp2
    go_ret
    rw [HS.out, gv_no HN.out]
    exact ⟨rfl, H2.out.set true, H3.out.setCell _⟩
   ·go_wp2_with fail
    refine (rnumber_any _ _).mono ?_
    rintro e w2 ⟨rfl, rfl⟩
    rw [HI.out]
    cases g : numB (x + y)
    ·have HN : Hid _ := gv_no g
     clear g
     go_wp2
     go_ret
     rw [HS.out, HN.out]
     exact ⟨rfl, H2.out.set true, H3.out.setCell _⟩
    ·have HN : Hid _ := gv_yes g
     have g2 := numB_bd g
     clear g
     go_wp2
     go_ret
     rw [HS.out, HN.out]
     exact ⟨rfl, H2.out, H3.out⟩
set_option maxHeartbeats 400000 in
theorem rSub_any (b : Nat) (bad : Bool) (x y : Int) (w : World) (hw : Fl b bad w) :
  Calls Tryz.prog 53 #[.pointer (some ⟨b, 0, none⟩), .int .i64 x, .int .i64 y] w fun e w' => e = .returned (.int .i64 (subS bad x y).1) ∧ Fl b (subS bad x y).2 w' ∧ Kept b w w' := by
 go_enter Tryz.func53, Tryz.ntmps53
 go_wp2_with fail
 refine (rtake2 b bad x y w hw).mono ?_
 rintro e w1 ⟨rfl, h2, h3⟩
 cases c : tk bad [x, y]
 ·rw [c] at h2
  have HS : Hid _ := subS_no c
  have H2 : Hid _ := h2
  have H3 : Hid _ := h3
  clear c h2 h3 hw
  go_wp2
  go_ret
  rw [HS.out]
  exact ⟨rfl, H2.out, H3.out⟩
 ·rw [c] at h2
  have HS : Hid _ := subS_neg c
  have H3 : Hid _ := h3
  have ht := tk_two c
  have hx := numB_bd ht.2.1
  have hy := numB_bd ht.2.2
  clear c hw ht h3
  go_wp2_with fail
  refine (rAdd_any b false x (-y) _ h2).mono ?_
  rintro e w2 ⟨rfl, h4, h5⟩
  go_wp2
  go_ret
  rw [HS.out]
  exact ⟨rfl, h4, H3.out.trans h5⟩
set_option maxHeartbeats 400000 in
theorem rMul_any (b : Nat) (bad : Bool) (x y : Int) (w : World) (hw : Fl b bad w) :
  Calls Tryz.prog 56 #[.pointer (some ⟨b, 0, none⟩), .int .i64 x, .int .i64 y] w fun e w' => e = .returned (.int .i64 (mulS bad x y).1) ∧ Fl b (mulS bad x y).2 w' ∧ Kept b w w' := by
 go_enter Tryz.func56, Tryz.ntmps56
 go_wp2_with fail
 refine (rtake2 b bad x y w hw).mono ?_
 rintro e w1 ⟨rfl, h2, h3⟩
 cases c : tk bad [x, y]
 ·rw [c] at h2
  have HS : Hid _ := mulS_no c
  have H2 : Hid _ := h2
  have H3 : Hid _ := h3
  clear c h2 h3 hw
  go_wp2
  go_ret
  rw [HS.out]
  exact ⟨rfl, H2.out, H3.out⟩
 ·rw [c] at h2
  have HS : Hid (mulS bad x y = ratS x y 1099511627776) := partS_rat ((tk_one3 bad x y).trans c)
  have H3 : Hid _ := h3
  have ht := tk_two c
  have HX : Hid _ := ht.2.1
  have HY : Hid _ := ht.2.2
  clear c hw ht h3
  go_wp2_with fail
  refine (rratio_any b x y 1099511627776 _ h2 HX.out HY.out rfl).mono ?_
  rintro e w2 ⟨rfl, h4, h5⟩
  go_wp2
  go_ret
  rw [HS.out]
  exact ⟨rfl, h4, H3.out.trans h5⟩
set_option maxHeartbeats 400000 in
theorem rDiv_any (b : Nat) (bad : Bool) (x y : Int) (w : World) (hw : Fl b bad w) :
  Calls Tryz.prog 90 #[.pointer (some ⟨b, 0, none⟩), .int .i64 x, .int .i64 y] w fun e w' => e = .returned (.int .i64 (divS bad x y).1) ∧ Fl b (divS bad x y).2 w' ∧ Kept b w w' := by
 go_enter Tryz.func90, Tryz.ntmps90
 go_wp2_with fail
 refine (rtake2 b bad x y w hw).mono ?_
 rintro e w1 ⟨rfl, h2, h3⟩
 cases c : tk bad [x, y]
 ·rw [c] at h2
  have HS : Hid (divS bad x y = (0, true)) := partS_no ((tk_one2 bad x y).trans c)
  have H2 : Hid _ := h2
  have H3 : Hid _ := h3
  clear c h2 h3 hw
  go_wp2
  go_ret
  rw [HS.out]
  exact ⟨rfl, H2.out, H3.out⟩
 ·rw [c] at h2
  have HS : Hid (divS bad x y = ratS x 1099511627776 y) := partS_rat ((tk_one2 bad x y).trans c)
  have H3 : Hid _ := h3
  have ht := tk_two c
  have HX : Hid _ := ht.2.1
  have HY : Hid _ := ht.2.2
  clear c hw ht h3
  go_wp2_with fail
  refine (rratio_any b x 1099511627776 y _ h2 HX.out rfl HY.out).mono ?_
  rintro e w2 ⟨rfl, h4, h5⟩
  go_wp2
  go_ret
  rw [HS.out]
  exact ⟨rfl, h4, H3.out.trans h5⟩
set_option maxHeartbeats 400000 in
theorem rPart_any (b : Nat) (bad : Bool) (x p q : Int) (w : World) (hw : Fl b bad w) :
  Calls Tryz.prog 29 #[.pointer (some ⟨b, 0, none⟩), .int .i64 x, .int .i64 p, .int .i64 q] w fun e w' => e = .returned (.int .i64 (partS bad x p q).1) ∧ Fl b (partS bad x p q).2 w' ∧ Kept b w w' := by
 go_enter Tryz.func29, Tryz.ntmps29
 go_wp2_with fail
 refine (rtake3 b bad x p q w hw).mono ?_
 rintro e w1 ⟨rfl, h2, h3⟩
 cases c : tk bad [x, p, q]
 ·rw [c] at h2
  have HS : Hid _ := partS_no c
  have H2 : Hid _ := h2
  have H3 : Hid _ := h3
  clear c h2 h3 hw
  go_wp2
  go_ret
  rw [HS.out]
  exact ⟨rfl, H2.out, H3.out⟩
 ·rw [c] at h2
  have HS : Hid _ := partS_rat c
  have H3 : Hid _ := h3
  have ht := tk_three c
  have HX : Hid _ := ht.2.1
  have HP : Hid _ := ht.2.2.1
  have HQ : Hid _ := ht.2.2.2
  clear c hw ht h3
  go_wp2_with fail
  refine (rratio_any b x p q _ h2 HX.out HP.out HQ.out).mono ?_
  rintro e w2 ⟨rfl, h4, h5⟩
  go_wp2
  go_ret
  rw [HS.out]
  exact ⟨rfl, h4, H3.out.trans h5⟩
end Go.Proofs.YtpjobkbefgehjaaGreat
namespace Go.Proofs.YtpjobkbefgehjaaGreat
open Go.RowKit
set_option maxHeartbeats 400000 in
theorem rFail_any (b : Nat) (bad : Bool) (w : World) (hw : Fl b bad w) :
  Calls Tryz.prog 25 #[.pointer (some ⟨b, 0, none⟩)] w fun e w' => e = .returned (.tuple #[]) ∧ Fl b true w' ∧ Kept b w w' := by
 have HW : Hid _ := hw
 obtain ⟨hc, hf, hl⟩ := hw
 go_enter Tryz.func25, Tryz.ntmps25
 go_wp2
 go_end0
 exact ⟨rfl, HW.out.set true, (Kept.refl _ _).setCell _⟩
end Go.Proofs.YtpjobkbefgehjaaGreat
namespace Go.Proofs.YtpjobkbefgehjaaGreat
open Go.RowKit
set_option maxHeartbeats 400000 in
theorem rabove_any (n m : Int) (w : World) :
  Calls Tryz.prog 123 #[.agg #[.int .u64 (hi64 n), .int .u64 (lo64 n)], .agg #[.int .u64 (hi64 m), .int .u64 (lo64 m)]] w fun e w' => e = .returned (.bool (decide (m < n))) ∧ Below w.heap.size w w' := by
 have b2 := lo64_bd n
 have b4 := lo64_bd m
 have e1 := hilo n
 have e2 := hilo m
 by_cases c1 : hi64 m < hi64 n
 ·have HF : Hid (true = decide (m < n)) := by show _ = _; simp; omega
  clear b2 b4 e1 e2
  go_enter Tryz.func123, Tryz.ntmps123
  go_wp2
  go_ret
  exact ⟨ret_bool (by simpa using HF.out), by go_grown⟩
 ·by_cases c2 : hi64 n = hi64 m
  ·have HF : Hid (decide (lo64 m < lo64 n) = decide (m < n)) := by show _ = _; simp; omega
   have c3 : (hi64 n == hi64 m) = true := by simpa using c2
   clear b2 b4 e1 e2 c2
   go_enter Tryz.func123, Tryz.ntmps123
   go_wp2
   go_ret
   exact ⟨ret_bool HF.out, by go_grown⟩
  ·have HF : Hid (false = decide (m < n)) := by show _ = _; simp; omega
   have c3 : (hi64 n == hi64 m) = false := by simpa using c2
   clear b2 b4 e1 e2 c2
   go_enter Tryz.func123, Tryz.ntmps123
   go_wp2
   go_ret
   exact ⟨ret_bool HF.out, by go_grown⟩
end Go.Proofs.YtpjobkbefgehjaaGreat
namespace Go.Proofs.YtpjobkbefgehjaaGreat
open Go.RowKit
attribute [local go_sem ↓] Go.wp_at_zero Go.wp_at_succ
set_option maxHeartbeats 400000 in
theorem rSqrt_any (b : Nat) (bad : Bool) (x : Int) (w : World) (hw : Fl b bad w) :
  Calls Tryz.prog 81 #[.pointer (some ⟨b, 0, none⟩), .int .i64 x] w fun e w' => e = .returned (.int .i64 (sqrtS bad x).1) ∧ Fl b (sqrtS bad x).2 w' ∧ Kept b w w' := by
 go_enter Tryz.func81, Tryz.ntmps81
 go_wp2_with fail
 refine (rtake1 b bad x w hw).mono ?_
 rintro e w1 ⟨rfl, h2, h3⟩
 cases c : tk bad [x]
 ·rw [c] at h2
  have HS : Hid _ := sqrtS_no c
  have H2 : Hid _ := h2
  have H3 : Hid _ := h3
  clear c h2 h3 hw
  go_wp2
  go_ret
  rw [HS.out]
  exact ⟨rfl, H2.out, H3.out⟩
 ·rw [c] at h2
  have H2 : Hid _ := h2
  have H3 : Hid _ := h3
  have f1 := h2.cell
  have f2 := h2.free
  have ht := tk_one c
  have hx := numB_bd ht.2
  clear hw h2 h3 ht
  by_cases x0 : 0 ≤ x
  ·have HS : Hid _ := sqrtS_yes c x0
   have hxd : decide (x < 0) = false := by simp; omega
   clear c
   go_wp2_with fail
   refine (rTimes_any x 1099511627776 _ ⟨x0, by omega⟩ (by decide)).mono ?_
   rintro e w2 ⟨rfl, h4⟩
   have HF : Hid _ := H2.out.below h4
   have HK : Hid _ := H3.out.trans (Kept.of_below h4)
   have n0 : 0 ≤ x * 1099511627776 := by omega
   have n1 : x * 1099511627776 ≤ 5070602400912917605986812821504 := by omega
   clear h4 f1 f2 H2 H3
   generalize x * 1099511627776 = n at *
   go_wp2
   have HB0 : Hid (Below (w2.heap.size + 1) (w2.alloc (.cells #[.int .u64 (hi64 n), .int .u64 (lo64 n)] 136)) (w2.alloc (.cells #[.int .u64 (hi64 n), .int .u64 (lo64 n)] 136))) := Below.refl _ _
   go_loopw [6, 7] (fun v6 v7 wr => ∃ j r : Int, -1 ≤ j ∧ j ≤ 51 ∧ v6 = .int .u64 r ∧ v7 = .int .i64 j ∧ 0 ≤ r ∧ r ≤ 9223372036854775807 ∧ Hid (isqf n (j + 1).toNat r = isqf n 52 0 ∧ r + 2 ^ (j + 1).toNat ≤ 2 ^ 52) ∧ Hid (Below (w2.heap.size + 1) (w2.alloc (.cells #[.int .u64 (hi64 n), .int .u64 (lo64 n)] 136)) wr)) (fun _ v7 _ => (intOf v7 + 1).toNat)
   case atStart => exact ⟨51, 0, by omega, by omega, rfl, rfl, Int.le_refl _, by omega, ⟨rfl, by decide⟩, HB0⟩
   case round =>
    obtain ⟨j, r, hj0, hj1, rfl, rfl, hr0, hr1, HR, HB⟩ := hrel
    by_cases hj : 0 ≤ j
    ·obtain ⟨m, rfl⟩ := Int.eq_ofNat_of_zero_le hj
     have c0 := HB.out.cell (p := ⟨w2.heap.size, 0, none⟩) (by simp)
     have c1 := HB.out.cell (p := ⟨w2.heap.size, 1, none⟩) (by simp)
     simp at c0 c1
     have hzs : w2.heap.size < wr.heap.size := by have := HB.out.size; simp at this; omega
     have HE : Hid (bitAt (m + 1) = 2 ^ m) := rfl
     have hwp : IntKind.u64.wrap (2 ^ m) = bitAt (m + 1) := wrap_bit m (by omega)
     have hbd := bitAt_bd (m + 1) (by omega)
     have HR2 : Hid _ := HR.out.2
     rw [show ((m : Int) + 1).toNat = m + 1 by omega] at HR HR2
     have HL : Hid (r + 2 ^ m + 2 ^ m ≤ 2 ^ 52) := by show _ ≤ _; have := HR2.out; rw [Int.pow_succ] at this; omega
     have HF : Hid (isqf n (m + 1) r = isqf n m (if (r + 2 ^ m) * (r + 2 ^ m) ≤ n then r + 2 ^ m else r)) := rfl
     rw [← HE.out] at HL HF
     have hle : r + bitAt (m + 1) ≤ 4503599627370496 := by have := HL.out; simp at this; omega
     generalize bitAt (m + 1) = t at *
     have hbd2 : 0 ≤ r + t := by omega
     go_wp2
     go_region_held3 (fun w' => w'.cell? ⟨w2.heap.size, 0, none⟩ = some (.int .u64 (hi64 n)) ∧ w'.cell? ⟨w2.heap.size, 1, none⟩ = some (.int .u64 (lo64 n))) ((first | exact ⟨c0, c1⟩ | exact ⟨cell_later hb1 c0, cell_later hb1 c1⟩ | exact ⟨cell_later hb2 (cell_later hb1 c0), cell_later hb2 (cell_later hb1 c1)⟩))
      (first
       | (go_at_call 122; refine (rTimes_any (r + t) (r + t) _ ⟨hbd2, by omega⟩ ⟨hbd2, by omega⟩).mono ?_; rintro e w3 ⟨rfl, hb1⟩)
       | (go_at_call 123; refine (rabove_any _ _ _).mono ?_; rintro e w4 ⟨rfl, hb2⟩))
     have HW : Hid (Below (w2.heap.size + 1) (w2.alloc (.cells #[.int .u64 (hi64 n), .int .u64 (lo64 n)] 136)) w4) := (HB.out.drew.trans (hb1.mono (B' := w2.heap.size + 1) (by simp; omega))).trans (hb2.mono (B' := w2.heap.size + 1) (by have := hb1.size; simp at this; omega))
     clear hb1 hb2 c0 c1
     cases c : decide (n < (r + t) * (r + t))
     ·have hc := Int.not_lt.mp (of_decide_eq_false c)
      have HC : Hid _ := hc
      clear hc c
      go_wp2
      refine ⟨⟨(m : Int) - 1, r + t, by omega, by omega, rfl, rfl, hbd2, by omega, ⟨?_, ?_⟩, HW.out⟩, by simp [intOf]⟩
      ·rw [show ((m : Int) - 1 + 1).toNat = m by omega, ← HR.out.1, HF.out, if_pos HC.out]
      ·rw [show ((m : Int) - 1 + 1).toNat = m by omega, ← HE.out]; exact HL.out
     ·have hc := of_decide_eq_true c
      have HC : Hid _ := hc
      clear hc c
      go_wp2
      refine ⟨⟨(m : Int) - 1, r, by omega, by omega, rfl, rfl, hr0, hr1, ⟨?_, ?_⟩, HW.out⟩, by simp [intOf]⟩
      ·rw [show ((m : Int) - 1 + 1).toNat = m by omega, ← HR.out.1, HF.out, if_neg (Int.not_le.mpr HC.out)]
      ·rw [show ((m : Int) - 1 + 1).toNat = m by omega, ← HE.out]; have := HL.out; omega
    ·have HJ : Hid (j = -1) := by show _ = _; omega
     have hf := (HF.out.alloc (.cells #[.int .u64 (hi64 n), .int .u64 (lo64 n)] 136)).below (HB.out.mono (by simp))
     have HQ : Hid (r = isq n) := by
      have e := HR.out.1
      rw [HJ.out] at e
      rw [isqf_eq n 52 n0 (by omega) (by show n < 4503599627370496 * 4503599627370496; omega)] at e
      exact e
     go_wp2_with fail
     refine (rgive_any b _ _ _ hf hr0 (by omega)).mono ?_
     rintro e w5 ⟨rfl, h6, h7⟩
     go_wp2
     go_ret
     rw [HS.out, ← HQ.out]
     exact ⟨rfl, h6, ((HK.out.trans (Kept.alloc b _ _)).trans (Kept.of_below (HB.out.mono (by simp)))).trans h7⟩
  ·have HS : Hid _ := sqrtS_low (bad := bad) x0
   have x1 : x < 0 := by omega
   clear c x0
   go_wp2
   go_ret
   rw [HS.out]
   exact ⟨rfl, H2.out.set true, H3.out.setCell _⟩
end Go.Proofs.YtpjobkbefgehjaaGreat
namespace Go.Proofs.YtpjobkbefgehjaaGreat
open Go.RowKit
attribute [local go_sem ↓] Go.wp_at_zero Go.wp_at_succ
set_option maxHeartbeats 800000 in
theorem rNorm_any (b : Nat) (bad : Bool) (x y z : Int) (w : World) (hw : Fl b bad w) :
  Calls Tryz.prog 91 #[.pointer (some ⟨b, 0, none⟩), .int .i64 x, .int .i64 y, .int .i64 z] w fun e w' => e = .returned (.int .i64 (normS bad x y z).1) ∧ Fl b (normS bad x y z).2 w' ∧ Kept b w w' := by
 go_enter Tryz.func91, Tryz.ntmps91
 go_wp2_with fail
 refine (rtake3 b bad x y z w hw).mono ?_
 rintro e w1 ⟨rfl, h2, h3⟩
 cases c : tk bad [x, y, z]
 ·rw [c] at h2
  have HS : Hid _ := normS_no c
  have H2 : Hid _ := h2
  have H3 : Hid _ := h3
  clear c h2 h3 hw
  go_wp2
  go_ret
  rw [HS.out]
  exact ⟨rfl, H2.out, H3.out⟩
 ·rw [c] at h2
  have H2 : Hid _ := h2
  have H3 : Hid _ := h3
  have HS : Hid _ := normS_yes c
  have ht := tk_three c
  have HX : Hid _ := ht.2.1
  have HY : Hid _ := ht.2.2.1
  have HZ : Hid _ := ht.2.2.2
  have sx := sz_bd ht.2.1
  have sy := sz_bd ht.2.2.1
  have sz' := sz_bd ht.2.2.2
  clear hw h2 h3 c ht
  go_wp2_with fail
  refine (rsize_any x _ HX.out).mono ?_
  rintro e w2 ⟨rfl, rfl⟩
  go_wp2_with fail
  refine (rsize_any x _ HX.out).mono ?_
  rintro e w2 ⟨rfl, rfl⟩
  go_wp2_with fail
  refine (rTimes_any (sz x) (sz x) _ ⟨sx.1, by omega⟩ ⟨sx.1, by omega⟩).mono ?_
  rintro e w3 ⟨rfl, h4⟩
  rw [sz_sq]
  have F3 : Hid _ := H2.out.below h4
  have K3 : Hid _ := H3.out.trans (Kept.of_below h4)
  clear h4 H2 H3
  go_wp2_with fail
  refine (rsize_any y _ HY.out).mono ?_
  rintro e w2 ⟨rfl, rfl⟩
  go_wp2_with fail
  refine (rsize_any y _ HY.out).mono ?_
  rintro e w2 ⟨rfl, rfl⟩
  go_wp2_with fail
  refine (rTimes_any (sz y) (sz y) _ ⟨sy.1, by omega⟩ ⟨sy.1, by omega⟩).mono ?_
  rintro e w4 ⟨rfl, h4⟩
  rw [sz_sq]
  have F4 : Hid _ := F3.out.below h4
  have K4 : Hid _ := K3.out.trans (Kept.of_below h4)
  clear h4 F3 K3
  go_wp2_with fail
  refine (radd_any (x * x) (y * y) _ (sq_bd HX.out).1 (sq_bd HY.out).1 (by have := sq_bd HX.out; have := sq_bd HY.out; omega)).mono ?_
  rintro e w5 ⟨rfl, h4⟩
  have F5 : Hid _ := F4.out.below h4
  have K5 : Hid _ := K4.out.trans (Kept.of_below h4)
  clear h4 F4 K4
  go_wp2_with fail
  refine (rsize_any z _ HZ.out).mono ?_
  rintro e w2 ⟨rfl, rfl⟩
  go_wp2_with fail
  refine (rsize_any z _ HZ.out).mono ?_
  rintro e w2 ⟨rfl, rfl⟩
  go_wp2_with fail
  refine (rTimes_any (sz z) (sz z) _ ⟨sz'.1, by omega⟩ ⟨sz'.1, by omega⟩).mono ?_
  rintro e w6 ⟨rfl, h4⟩
  rw [sz_sq]
  have F6 : Hid _ := F5.out.below h4
  have K6 : Hid _ := K5.out.trans (Kept.of_below h4)
  clear h4 F5 K5 sx sy sz'
  go_wp2_with fail
  refine (radd_any (x * x + y * y) (z * z) _ (by have := sq_bd HX.out; have := sq_bd HY.out; omega) (sq_bd HZ.out).1 (by have := sq_bd HX.out; have := sq_bd HY.out; have := sq_bd HZ.out; omega)).mono ?_
  rintro e w2 ⟨rfl, h4⟩
  have HF : Hid _ := F6.out.below h4
  have HK : Hid _ := K6.out.trans (Kept.of_below h4)
  have HN : Hid (0 ≤ x * x + y * y + z * z ∧ x * x + y * y + z * z < 85070591730234615865843651857942052864) := by show _ ∧ _; have := sq_bd HX.out; have := sq_bd HY.out; have := sq_bd HZ.out; omega
  clear h4 F6 K6 HX HY HZ
  generalize x * x + y * y + z * z = n at *
  have n0 := HN.out.1
  go_wp2
  have HB0 : Hid (Below (w2.heap.size + 1) (w2.alloc (.cells #[.int .u64 (hi64 n), .int .u64 (lo64 n)] 136)) (w2.alloc (.cells #[.int .u64 (hi64 n), .int .u64 (lo64 n)] 136))) := Below.refl _ _
  go_loopw [10, 11] (fun v6 v7 wr => ∃ j r : Int, -1 ≤ j ∧ j ≤ 62 ∧ v6 = .int .u64 r ∧ v7 = .int .i64 j ∧ 0 ≤ r ∧ r ≤ 9223372036854775807 ∧ Hid (isqf n (j + 1).toNat r = isqf n 63 0 ∧ r + 2 ^ (j + 1).toNat ≤ 2 ^ 63) ∧ Hid (Below (w2.heap.size + 1) (w2.alloc (.cells #[.int .u64 (hi64 n), .int .u64 (lo64 n)] 136)) wr)) (fun _ v7 _ => (intOf v7 + 1).toNat)
  case atStart => exact ⟨62, 0, by omega, by omega, rfl, rfl, Int.le_refl _, by omega, ⟨rfl, by decide⟩, HB0⟩
  case round =>
   obtain ⟨j, r, hj0, hj1, rfl, rfl, hr0, hr1, HR, HB⟩ := hrel
   by_cases hj : 0 ≤ j
   ·obtain ⟨m, rfl⟩ := Int.eq_ofNat_of_zero_le hj
    have c0 := HB.out.cell (p := ⟨w2.heap.size, 0, none⟩) (by simp)
    have c1 := HB.out.cell (p := ⟨w2.heap.size, 1, none⟩) (by simp)
    simp at c0 c1
    have hzs : w2.heap.size < wr.heap.size := by have := HB.out.size; simp at this; omega
    have HE : Hid (bitAt (m + 1) = 2 ^ m) := rfl
    have HP0 : Hid (0 < bitAt (m + 1)) := two_pow_pos m
    have hwp : IntKind.u64.wrap (2 ^ m) = bitAt (m + 1) := wrap_bit m (by omega)
    have hbd := bitAt_bd (m + 1) (by omega)
    have HR2 : Hid _ := HR.out.2
    rw [show ((m : Int) + 1).toNat = m + 1 by omega] at HR HR2
    have HL : Hid (r + 2 ^ m + 2 ^ m ≤ 2 ^ 63) := by show _ ≤ _; have := HR2.out; rw [Int.pow_succ] at this; omega
    have HF : Hid (isqf n (m + 1) r = isqf n m (if (r + 2 ^ m) * (r + 2 ^ m) ≤ n then r + 2 ^ m else r)) := rfl
    rw [← HE.out] at HL HF
    have hle : r + bitAt (m + 1) ≤ 9223372036854775807 := by have := HL.out; simp at this; have := HP0.out; omega
    generalize bitAt (m + 1) = t at *
    have hbd2 : 0 ≤ r + t := by omega
    go_wp2
    go_region_held3 (fun w' => w'.cell? ⟨w2.heap.size, 0, none⟩ = some (.int .u64 (hi64 n)) ∧ w'.cell? ⟨w2.heap.size, 1, none⟩ = some (.int .u64 (lo64 n))) ((first | exact ⟨c0, c1⟩ | exact ⟨cell_later hb1 c0, cell_later hb1 c1⟩ | exact ⟨cell_later hb2 (cell_later hb1 c0), cell_later hb2 (cell_later hb1 c1)⟩))
     (first
      | (go_at_call 122; refine (rTimes_any (r + t) (r + t) _ ⟨hbd2, by omega⟩ ⟨hbd2, by omega⟩).mono ?_; rintro e w3 ⟨rfl, hb1⟩)
      | (go_at_call 123; refine (rabove_any _ _ _).mono ?_; rintro e w4 ⟨rfl, hb2⟩))
    have HW : Hid (Below (w2.heap.size + 1) (w2.alloc (.cells #[.int .u64 (hi64 n), .int .u64 (lo64 n)] 136)) w4) := (HB.out.drew.trans (hb1.mono (B' := w2.heap.size + 1) (by simp; omega))).trans (hb2.mono (B' := w2.heap.size + 1) (by have := hb1.size; simp at this; omega))
    clear hb1 hb2 c0 c1
    cases c : decide (n < (r + t) * (r + t))
    ·have hc := Int.not_lt.mp (of_decide_eq_false c)
     have HC : Hid _ := hc
     clear hc c
     go_wp2
     refine ⟨⟨(m : Int) - 1, r + t, by omega, by omega, rfl, rfl, hbd2, by omega, ⟨?_, ?_⟩, HW.out⟩, by simp [intOf]⟩
     ·rw [show ((m : Int) - 1 + 1).toNat = m by omega, ← HR.out.1, HF.out, if_pos HC.out]
     ·rw [show ((m : Int) - 1 + 1).toNat = m by omega, ← HE.out]; exact HL.out
    ·have hc := of_decide_eq_true c
     have HC : Hid _ := hc
     clear hc c
     go_wp2
     refine ⟨⟨(m : Int) - 1, r, by omega, by omega, rfl, rfl, hr0, hr1, ⟨?_, ?_⟩, HW.out⟩, by simp [intOf]⟩
     ·rw [show ((m : Int) - 1 + 1).toNat = m by omega, ← HR.out.1, HF.out, if_neg (Int.not_le.mpr HC.out)]
     ·rw [show ((m : Int) - 1 + 1).toNat = m by omega, ← HE.out]; have := HL.out; omega
   ·have HJ : Hid (j = -1) := by show _ = _; omega
    have hf := (HF.out.alloc (.cells #[.int .u64 (hi64 n), .int .u64 (lo64 n)] 136)).below (HB.out.mono (by simp))
    have HQ : Hid (r = isq n) := by
     have e := HR.out.1
     rw [HJ.out] at e
     exact e
    go_wp2_with fail
    refine (rgive_any b _ _ _ hf hr0 (by omega)).mono ?_
    rintro e w5 ⟨rfl, h6, h7⟩
    go_wp2
    go_ret
    rw [HS.out, ← HQ.out]
    exact ⟨rfl, h6, ((HK.out.trans (Kept.alloc b _ _)).trans (Kept.of_below (HB.out.mono (by simp)))).trans h7⟩
end Go.Proofs.YtpjobkbefgehjaaGreat
