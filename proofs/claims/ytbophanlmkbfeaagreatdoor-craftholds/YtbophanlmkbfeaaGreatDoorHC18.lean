/-
A part.
A part.
A part.
A part.
A part.
A part.
A part.
A part.
-/
import Derived.Handy
import Derived.Deep.RegionHeld3
import Derived.Deep.DrawnRows
import Derived.Test.YtbophanlmkbfeaaGreatDoorHC17
import Derived.Test.YtbophanlmkbfeaaGreatDoorHC02
import Derived.Test.YtbophanlmkbfeaaGreatDoorHC16
import Derived.Test.YtbophanlmkbfeaaGreatDoorHC11
namespace Go.Proofs.YtbophanlmkbfeaaGreatDoor
open Go.RowKit
attribute [local go_sem ↓] Go.wp_at_zero Go.wp_at_succ
set_option maxHeartbeats 400000 in
theorem rTimes_any (x y : Int) (w : World) (hx : 0 ≤ x ∧ x ≤ 9223372036854775808) (hy : 0 ≤ y ∧ y ≤ 9223372036854775808) :
    Calls Tryz.prog 70 #[.int .u64 x, .int .u64 y] w fun e w' => e = .returned (.agg #[.int .u64 (hi64 (x * y)), .int .u64 (lo64 (x * y))]) ∧ Below w.heap.size w w' := by
 go_enter Tryz.func70, Tryz.ntmps70
 go_wp2
 have HP : Hid _ := mul_bd63 x y hx hy
 go_loopw [1] (fun v wr => ∃ y' s t : Int, v = .int .u64 y' ∧ 0 ≤ y' ∧ y' ≤ 9223372036854775808 ∧ Hid (Wd (w.heap.size + 1) s wr ∧ Wd (w.heap.size + 1 + 1) t wr ∧ Wd w.heap.size 0 wr) ∧ Hid (s + t * y' = x * y ∧ 0 ≤ s ∧ 0 ≤ t ∧ t ≤ 170141183460469231731687303715884105728) ∧ Hid (Below w.heap.size w wr)) (fun v _ => (intOf v).toNat)
 case atStart =>
  have e := hi64_small x hx.1 (by omega)
  have z := hi64_small 0 (by decide) (by decide)
  refine ⟨y, 0, x, rfl, hy.1, hy.2, ⟨⟨?_, ?_, ?_, ?_, ?_⟩, ⟨?_, ?_, ?_, ?_, ?_⟩, ⟨?_, ?_, ?_, ?_, ?_⟩⟩, ⟨by omega, by decide, hx.1, by omega⟩, ?_⟩
  all_goals first | (show Below _ _ _; go_grown; done) | (simp [go_sem, e.1, e.2, z.1, z.2]; done) | (simp [go_sem, e.1, e.2, z.1, z.2]; omega)
 case round =>
  obtain ⟨y', s, t, rfl, hy0, hy1, HM, HE, HB⟩ := hrel
  have hz : w.heap.size + 1 + 1 < wr.heap.size := HM.out.2.1.lies
  by_cases hc : 0 < y'
  ·have HL : Hid _ := times_bd s t y' _ HE.out.1 HE.out.2.1 HE.out.2.2.1 hc
   have m1 := HM.out.1.hi
   have m2 := HM.out.1.lo
   have m3 := HM.out.1.fh
   have m4 := HM.out.1.fl
   have m5 := HM.out.2.1.hi
   have m6 := HM.out.2.1.lo
   have m7 := HM.out.2.1.fh
   have m8 := HM.out.2.1.fl
   by_cases ho : y' % 2 = 1
   ·have HO : Hid _ := times_odd s t y' _ HE.out.1 ho
    have ho1 : (y' % 2 == 1) = true := by simpa using ho
    clear ho
    go_wp2_with fail
    refine (radd_any s t _ HE.out.2.1 HE.out.2.2.1 (by have := HL.out; have := HP.out; omega)).mono ?_
    rintro e w1 ⟨rfl, hb⟩
    have H1 : Hid _ := HM.out.1.below hb
    have H2 : Hid _ := HM.out.2.1.below hb
    have H3 : Hid _ := HM.out.2.2.below hb
    have HB1 : Hid _ := HB.out.trans (hb.mono (Nat.le_of_lt (Nat.lt_of_le_of_lt (by omega) hz)))
    have hz1 : w.heap.size + 1 + 1 < w1.heap.size := H2.out.lies
    clear m1 m2 m3 m4 m5 m6 m7 m8 hb hz
    have m1 := H1.out.hi
    have m2 := H1.out.lo
    have m3 := H1.out.fh
    have m4 := H1.out.fl
    have m5 := H2.out.hi
    have m6 := H2.out.lo
    have m7 := H2.out.fh
    have m8 := H2.out.fl
    go_wp2_with fail
    refine (radd_any t t _ HE.out.2.2.1 HE.out.2.2.1 (by have := HL.out; have := HP.out; omega)).mono ?_
    rintro e w2 ⟨rfl, hb⟩
    have J1 : Hid _ := (H1.out.put (s + t)).below hb
    have J2 : Hid _ := (H2.out.far (by omega) (.int .u64 (hi64 (s + t))) (.int .u64 (lo64 (s + t)))).below hb
    have J3 : Hid _ := (H3.out.far (by omega) (.int .u64 (hi64 (s + t))) (.int .u64 (lo64 (s + t)))).below hb
    have HB2 : Hid (Below w.heap.size w w2) := ((HB1.out.setCell (by simp) _).setCell (by simp) _).trans (hb.mono (by simp; omega))
    have hz2 : w.heap.size + 1 + 1 < w2.heap.size := J2.out.lies
    clear m1 m2 m3 m4 m5 m6 m7 m8 hb hz1
    have m5 := J2.out.hi
    have m6 := J2.out.lo
    have m7 := J2.out.fh
    have m8 := J2.out.fl
    go_wp2
    refine ⟨⟨y' / 2, s + t, t + t, rfl, by omega, by omega, ⟨J1.out.far (by omega) _ _, J2.out.put _, J3.out.far (by omega) _ _⟩, ⟨HO.out, ?_, ?_, ?_⟩, (HB2.out.setCell (by simp; omega) _).setCell (by simp; omega) _⟩, by simp [intOf]; omega⟩
    all_goals (have := HE.out; have := HL.out; have := HP.out; omega)
   ·have HO : Hid _ := times_even s t y' _ HE.out.1 (by omega)
    have ho1 : (y' % 2 == 1) = false := by simpa using ho
    clear ho
    go_wp2_with fail
    refine (radd_any t t _ HE.out.2.2.1 HE.out.2.2.1 (by have := HL.out; have := HP.out; omega)).mono ?_
    rintro e w2 ⟨rfl, hb⟩
    have J1 : Hid _ := HM.out.1.below hb
    have J2 : Hid _ := HM.out.2.1.below hb
    have J3 : Hid _ := HM.out.2.2.below hb
    have HB2 : Hid (Below w.heap.size w w2) := HB.out.trans (hb.mono (by omega))
    have hz2 : w.heap.size + 1 + 1 < w2.heap.size := J2.out.lies
    clear m1 m2 m3 m4 m5 m6 m7 m8 hb hz
    have m5 := J2.out.hi
    have m6 := J2.out.lo
    have m7 := J2.out.fh
    have m8 := J2.out.fl
    go_wp2
    refine ⟨⟨y' / 2, s, t + t, rfl, by omega, by omega, ⟨J1.out.far (by omega) _ _, J2.out.put _, J3.out.far (by omega) _ _⟩, ⟨HO.out, ?_, ?_, ?_⟩, (HB2.out.setCell (by simp; omega) _).setCell (by simp; omega) _⟩, by simp [intOf]; omega⟩
    all_goals (have := HE.out; have := HL.out; have := HP.out; omega)
  ·have m1 := HM.out.1.hi
   have m2 := HM.out.1.lo
   have n1 := HM.out.2.2.hi
   have n2 := HM.out.2.2.lo
   have n3 := HM.out.2.2.fh
   have n4 := HM.out.2.2.fl
   have HZ : Hid (s = x * y) := by show _ = _; have e := HE.out.1; rw [show y' = 0 by omega] at e; omega
   have HQ : Hid _ := World.cell?_setCell_same wr ⟨w.heap.size, 0, none⟩ (.int .u64 (hi64 s)) n1
   have HQ2 : Hid _ := (HM.out.2.2.put s).lo
   go_wp2
   refine bodyPost_ret (v := .agg #[.int .u64 (hi64 s), .int .u64 (lo64 s)]) (by simp [results, Tryz.results70, go_sem, HQ.out, HQ2.out]) rfl ?_
   rw [HZ.out]
   exact ⟨rfl, (HB.out.setCell (Nat.le_refl _) _).setCell (Nat.le_refl _) _⟩
end Go.Proofs.YtbophanlmkbfeaaGreatDoor
namespace Go.Proofs.YtbophanlmkbfeaaGreatDoor
open Go.RowKit
attribute [local go_sem ↓] Go.wp_at_zero Go.wp_at_succ
end Go.Proofs.YtbophanlmkbfeaaGreatDoor
namespace Go.Proofs.YtbophanlmkbfeaaGreatDoor
open Go.RowKit
end Go.Proofs.YtbophanlmkbfeaaGreatDoor
namespace Go.Proofs.YtbophanlmkbfeaaGreatDoor
open Go.RowKit
end Go.Proofs.YtbophanlmkbfeaaGreatDoor
namespace Go.Proofs.YtbophanlmkbfeaaGreatDoor
open Go.RowKit
set_option maxHeartbeats 400000 in
theorem dRight_any (t : Int) (w : World) : Calls Tryz.prog 35 #[.int .i64 t] w fun e w' => e = .returned (.bool (cRight t)) ∧ Below w.heap.size w w' := by
 rcases cRight_cases t with ⟨h0, h1⟩ | hn
 ·have H : Hid _ := cRight_in h0 h1
  go_enter Tryz.func35, Tryz.ntmps35
  go_wp2
  go_ret
  rw [H.out]
  exact ⟨rfl, Below.refl _ _⟩
 ·have H : Hid _ := cRight_out hn
  by_cases c : 0 ≤ t
  ·have d : ¬ t ≤ 157766400000 := by omega
   clear hn
   go_enter Tryz.func35, Tryz.ntmps35
   go_wp2
   go_ret
   rw [H.out]
   exact ⟨rfl, Below.refl _ _⟩
  ·clear hn
   go_enter Tryz.func35, Tryz.ntmps35
   go_wp2
   go_ret
   rw [H.out]
   exact ⟨rfl, Below.refl _ _⟩
end Go.Proofs.YtbophanlmkbfeaaGreatDoor
namespace Go.Proofs.YtbophanlmkbfeaaGreatDoor
open Go.RowKit
set_option maxRecDepth 100000
set_option maxHeartbeats 20000000
theorem within_any (n a b : Int) (w : World) : Calls Tryz.prog 202 #[.int .i64 n, .int .i64 a, .int .i64 b] w fun e w' => e = .returned (.bool (inR n a b)) ∧ w = w' := by
 by_cases h : a ≤ n
 ·have H : Hid (inR n a b = decide (n ≤ b)) := by show _ = _; unfold inR; rw [decide_eq_true h, Bool.true_and]
  go_enter Tryz.func202, Tryz.ntmps202
  go_wp2
  go_ret
  exact ⟨by rw [H.out]; rfl, rfl⟩
 ·have H : Hid (inR n a b = false) := by show _ = _; unfold inR; rw [decide_eq_false h, Bool.false_and]
  go_enter Tryz.func202, Tryz.ntmps202
  go_wp2
  go_ret
  exact ⟨by rw [H.out]; rfl, rfl⟩
theorem rin_any (n a b : Int) (w : World) : Calls Tryz.prog 67 #[.int .i64 n, .int .i64 a, .int .i64 b] w fun e w' => e = .returned (.bool (inR n a b)) ∧ w = w' := by
 by_cases h : a ≤ n
 ·have H : Hid (inR n a b = decide (n ≤ b)) := by show _ = _; unfold inR; rw [decide_eq_true h, Bool.true_and]
  go_enter Tryz.func67, Tryz.ntmps67
  go_wp2
  go_ret
  exact ⟨by rw [H.out]; rfl, rfl⟩
 ·have H : Hid (inR n a b = false) := by show _ = _; unfold inR; rw [decide_eq_false h, Bool.false_and]
  go_enter Tryz.func67, Tryz.ntmps67
  go_wp2
  go_ret
  exact ⟨by rw [H.out]; rfl, rfl⟩
theorem wtick_any (t : Int) (w : World) (h0 : 0 ≤ t) (h1 : t ≤ 157766400000) :
    Calls Tryz.prog 140 #[.slice none 0 0, .int .i64 t] w fun e w' => ∃ v, e = .returned v ∧ Bytes w.heap.size w' v (tickL t) ∧ Below w.heap.size w w' := by
 have HT : Hid ([IntKind.u8.wrap (IntKind.u64.wrap t / 1099511627776), IntKind.u8.wrap (IntKind.u64.wrap t / 4294967296), IntKind.u8.wrap (IntKind.u64.wrap t / 16777216), IntKind.u8.wrap (IntKind.u64.wrap t / 65536), IntKind.u8.wrap (IntKind.u64.wrap t / 256), IntKind.u8.wrap (IntKind.u64.wrap t)] = tickL t) := by
  show _ = _
  rw [show IntKind.u64.wrap t = t by rw [IntKind.wrap_u64]; omega]
  rfl
 clear h0 h1
 go_enter Tryz.func140, Tryz.ntmps140
 go_wp2_with fail
 refine wp_loop_rounds 7 ?_
 rw [rounds_succ]
 go_wp2_with (at_builtin; refine app_any rfl (.tmp 10) (.tmp 16) rfl w.heap.size (.slice none 0 0) [] [IntKind.u8.wrap (IntKind.u64.wrap t / 1099511627776)] w rfl (World.ownsRow_nil _ _ _ _) rfl (Nat.le_of_ble_eq_true rfl) (Nat.le_refl _) ?_; intro v1 w1 o1 b1 s1)
 have z1 : w.heap.size ≤ w1.heap.size := Nat.le_trans (Nat.le_refl _) s1
 clear s1
 simp only [List.nil_append] at o1
 rw [rounds_succ]
 go_wp2_with (at_builtin; refine app_any rfl (.tmp 10) (.tmp 16) rfl w.heap.size v1 [IntKind.u8.wrap (IntKind.u64.wrap t / 1099511627776)] [IntKind.u8.wrap (IntKind.u64.wrap t / 4294967296)] w1 rfl o1 rfl (Nat.le_of_ble_eq_true rfl) z1 ?_; intro v2 w2 o2 b2 s2)
 have z2 : w.heap.size ≤ w2.heap.size := Nat.le_trans z1 s2
 have b2 := b1.trans b2
 clear b1 s2 o1 z1
 simp only [List.cons_append, List.nil_append] at o2
 rw [rounds_succ]
 go_wp2_with (at_builtin; refine app_any rfl (.tmp 10) (.tmp 16) rfl w.heap.size v2 [IntKind.u8.wrap (IntKind.u64.wrap t / 1099511627776), IntKind.u8.wrap (IntKind.u64.wrap t / 4294967296)] [IntKind.u8.wrap (IntKind.u64.wrap t / 16777216)] w2 rfl o2 rfl (Nat.le_of_ble_eq_true rfl) z2 ?_; intro v3 w3 o3 b3 s3)
 have z3 : w.heap.size ≤ w3.heap.size := Nat.le_trans z2 s3
 have b3 := b2.trans b3
 clear b2 s3 o2 z2
 simp only [List.cons_append, List.nil_append] at o3
 rw [rounds_succ]
 go_wp2_with (at_builtin; refine app_any rfl (.tmp 10) (.tmp 16) rfl w.heap.size v3 [IntKind.u8.wrap (IntKind.u64.wrap t / 1099511627776), IntKind.u8.wrap (IntKind.u64.wrap t / 4294967296), IntKind.u8.wrap (IntKind.u64.wrap t / 16777216)] [IntKind.u8.wrap (IntKind.u64.wrap t / 65536)] w3 rfl o3 rfl (Nat.le_of_ble_eq_true rfl) z3 ?_; intro v4 w4 o4 b4 s4)
 have z4 : w.heap.size ≤ w4.heap.size := Nat.le_trans z3 s4
 have b4 := b3.trans b4
 clear b3 s4 o3 z3
 simp only [List.cons_append, List.nil_append] at o4
 rw [rounds_succ]
 go_wp2_with (at_builtin; refine app_any rfl (.tmp 10) (.tmp 16) rfl w.heap.size v4 [IntKind.u8.wrap (IntKind.u64.wrap t / 1099511627776), IntKind.u8.wrap (IntKind.u64.wrap t / 4294967296), IntKind.u8.wrap (IntKind.u64.wrap t / 16777216), IntKind.u8.wrap (IntKind.u64.wrap t / 65536)] [IntKind.u8.wrap (IntKind.u64.wrap t / 256)] w4 rfl o4 rfl (Nat.le_of_ble_eq_true rfl) z4 ?_; intro v5 w5 o5 b5 s5)
 have z5 : w.heap.size ≤ w5.heap.size := Nat.le_trans z4 s5
 have b5 := b4.trans b5
 clear b4 s5 o4 z4
 simp only [List.cons_append, List.nil_append] at o5
 rw [rounds_succ]
 go_wp2_with (at_builtin; refine app_any rfl (.tmp 10) (.tmp 16) rfl w.heap.size v5 [IntKind.u8.wrap (IntKind.u64.wrap t / 1099511627776), IntKind.u8.wrap (IntKind.u64.wrap t / 4294967296), IntKind.u8.wrap (IntKind.u64.wrap t / 16777216), IntKind.u8.wrap (IntKind.u64.wrap t / 65536), IntKind.u8.wrap (IntKind.u64.wrap t / 256)] [IntKind.u8.wrap (IntKind.u64.wrap t)] w5 rfl o5 rfl (Nat.le_of_ble_eq_true rfl) z5 ?_; intro v6 w6 o6 b6 s6)
 have z6 : w.heap.size ≤ w6.heap.size := Nat.le_trans z5 s6
 have b6 := b5.trans b6
 clear b5 s6 o5 z5
 simp only [List.cons_append, List.nil_append] at o6
 rw [HT.out] at o6
 rw [rounds_succ]
 go_wp2_with (with_reducible refine post_stop ?_)
 exact ⟨bodyPost_ret (v := v6) (by simp [results, Tryz.results140, go_sem]) rfl ⟨v6, rfl, o6, b6⟩⟩
theorem wcount_any (B : Nat) (v : Value) (l : List Int) (c : Int) (w : World) (hO : Bytes B w v l) (hB : B ≤ w.heap.size) (hl : l.length ≤ 90) :
    Calls Tryz.prog 141 #[v, .int .i64 c] w fun e w' => ∃ v', e = .returned v' ∧ Bytes B w' v' (l ++ twoL c) ∧ Below B w w' ∧ w.heap.size ≤ w'.heap.size := by
 have HT : Hid (twoL c = [IntKind.u8.wrap (IntKind.u16.wrap c / 256), IntKind.u8.wrap (IntKind.u16.wrap c)]) := rfl
 go_enter Tryz.func141, Tryz.ntmps141
 go_wp2_with (at_builtin; refine app_any rfl (.tmp 8) (.tmp 14) rfl B v l [IntKind.u8.wrap (IntKind.u16.wrap c / 256), IntKind.u8.wrap (IntKind.u16.wrap c)] w rfl hO rfl (by simp; omega) hB ?_; intro v1 w1 o1 b1 s1)
 skip
 go_wp2_with (with_reducible refine post_stop ?_)
 exact ⟨bodyPost_ret (v := v1) (by simp [results, Tryz.results141, go_sem]) rfl ⟨v1, rfl, by rw [HT.out]; exact o1, b1, s1⟩⟩
theorem rtcount_any (s : ByteArray) (i : Int) (p : Nat) (w : World) (hi : i = p) (h : p + 1 < s.size) (hp : p < 100) :
    Calls Tryz.prog 31 #[.string s, .int .i64 i] w fun e w' => e = .returned (.int .i64 (sg (cnt s p))) ∧ w' = w.drew := by
 subst hi
 have i0 := idx_run (s := s) (i := (p : Int)) (n := p) (by omega) (by omega)
 have i1 := idx_run (s := s) (i := (p : Int) + 1) (n := p + 1) (by omega) (by omega)
 have b0 := bt_lt s p
 have b1 := bt_lt s (p + 1)
 have HC : cnt s p = bt s p * 256 + bt s (p + 1) := rfl
 have w3 : IntKind.i64.wrap ((p : Int) + 1) = (p : Int) + 1 := by rw [IntKind.wrap_i64]; omega
 have HS : sg (cnt s p) = if 32768 ≤ (bt s p : Int) * 256 + (bt s (p + 1) : Int) then (bt s p : Int) * 256 + (bt s (p + 1) : Int) - 65536 else (bt s p : Int) * 256 + (bt s (p + 1) : Int) := by
  unfold sg
  rw [HC]
  split <;> split <;> omega
 rw [HS]
 clear HS HC
 generalize bt s p = a at i0 b0 ⊢
 generalize bt s (p + 1) = b at i1 b1 ⊢
 have w1 : IntKind.i64.wrap ((a : Int) * 256) = (a : Int) * 256 := by rw [IntKind.wrap_i64]; omega
 have w2 : IntKind.i64.wrap ((a : Int) * 256 + b) = (a : Int) * 256 + b := by rw [IntKind.wrap_i64]; omega
 have b0 : 0 ≤ (a : Int) ∧ (a : Int) < 256 := by omega
 have b1 : 0 ≤ (b : Int) ∧ (b : Int) < 256 := by omega
 generalize (a : Int) = x at *
 generalize (b : Int) = y at *
 by_cases c : 32768 ≤ x * 256 + y
 ·rw [if_pos c]
  go_enter Tryz.func31, Tryz.ntmps31
  go_wp2
  go_region
  go_wp2
  go_ret
  exact ⟨rfl, rfl⟩
 ·rw [if_neg c]
  go_enter Tryz.func31, Tryz.ntmps31
  go_wp2
  go_region
  go_wp2
  go_ret
  exact ⟨rfl, rfl⟩
end Go.Proofs.YtbophanlmkbfeaaGreatDoor
namespace Go.Proofs.YtbophanlmkbfeaaGreatDoor
open Go.RowKit
set_option maxRecDepth 100000
set_option maxHeartbeats 20000000
@[go_sem] theorem idx_tq0 (a b c d : Int) (w : World) : (Instr.index 52 (.agg #[.int .i64 a, .int .i64 b, .int .i64 c, .int .i64 d]) (.int .i64 0)).run Tryz.prog w = .ok (.int .i64 a) w := by kernel_rfl
@[go_sem] theorem idx_tq1 (a b c d : Int) (w : World) : (Instr.index 52 (.agg #[.int .i64 a, .int .i64 b, .int .i64 c, .int .i64 d]) (.int .i64 1)).run Tryz.prog w = .ok (.int .i64 b) w := by kernel_rfl
@[go_sem] theorem idx_tq2 (a b c d : Int) (w : World) : (Instr.index 52 (.agg #[.int .i64 a, .int .i64 b, .int .i64 c, .int .i64 d]) (.int .i64 2)).run Tryz.prog w = .ok (.int .i64 c) w := by kernel_rfl
@[go_sem] theorem idx_tq3 (a b c d : Int) (w : World) : (Instr.index 52 (.agg #[.int .i64 a, .int .i64 b, .int .i64 c, .int .i64 d]) (.int .i64 3)).run Tryz.prog w = .ok (.int .i64 d) w := by kernel_rfl
@[go_sem] theorem idx_td0 (a b c : Int) (w : World) : (Instr.index 53 (.agg #[.int .i64 a, .int .i64 b, .int .i64 c]) (.int .i64 0)).run Tryz.prog w = .ok (.int .i64 a) w := by kernel_rfl
@[go_sem] theorem idx_td1 (a b c : Int) (w : World) : (Instr.index 53 (.agg #[.int .i64 a, .int .i64 b, .int .i64 c]) (.int .i64 1)).run Tryz.prog w = .ok (.int .i64 b) w := by kernel_rfl
@[go_sem] theorem idx_td2 (a b c : Int) (w : World) : (Instr.index 53 (.agg #[.int .i64 a, .int .i64 b, .int .i64 c]) (.int .i64 2)).run Tryz.prog w = .ok (.int .i64 c) w := by kernel_rfl
theorem mayTell_any (T : Tl) (w : World) : Calls Tryz.prog 139 #[.agg #[.int .i64 T.t, .int .i64 T.m, .int .i64 T.fa, .int .i64 T.ak, .int .i64 T.er, .int .i64 T.rj, .int .i64 T.q0, .int .i64 T.q1, .int .i64 T.q2, .int .i64 T.q3, .int .i64 T.d0, .int .i64 T.d1, .int .i64 T.d2]] w fun e w' => e = .returned (.bool (tlOk T)) ∧ Below w.heap.size w w' := by
 have HO : Hid (tlOk T = (cRight T.t && inR T.m 0 3 && inR T.fa 0 15 && inR T.ak 0 255 && inR T.er 0 255 && inR T.rj 0 65535 && inR T.q0 (-32768) 32767 && inR T.q1 (-32768) 32767 && inR T.q2 (-32768) 32767 && inR T.q3 (-32768) 32767 && inR T.d0 (-32768) 32767 && inR T.d1 (-32768) 32767 && inR T.d2 (-32768) 32767)) := rfl
 generalize tlOk T = ok at HO ⊢
 have hct := fun W => cRight_any T.t W
 generalize cRight T.t = xt at hct HO
 have hm := fun W => within_any T.m 0 3 W
 generalize inR T.m 0 3 = xm at hm HO
 have hfa := fun W => within_any T.fa 0 15 W
 generalize inR T.fa 0 15 = xfa at hfa HO
 have hak := fun W => within_any T.ak 0 255 W
 generalize inR T.ak 0 255 = xak at hak HO
 have her := fun W => within_any T.er 0 255 W
 generalize inR T.er 0 255 = xer at her HO
 have hrj := fun W => within_any T.rj 0 65535 W
 generalize inR T.rj 0 65535 = xrj at hrj HO
 have hq0 := fun W => within_any T.q0 (-32768) 32767 W
 generalize inR T.q0 (-32768) 32767 = xq0 at hq0 HO
 have hq1 := fun W => within_any T.q1 (-32768) 32767 W
 generalize inR T.q1 (-32768) 32767 = xq1 at hq1 HO
 have hq2 := fun W => within_any T.q2 (-32768) 32767 W
 generalize inR T.q2 (-32768) 32767 = xq2 at hq2 HO
 have hq3 := fun W => within_any T.q3 (-32768) 32767 W
 generalize inR T.q3 (-32768) 32767 = xq3 at hq3 HO
 have hd0 := fun W => within_any T.d0 (-32768) 32767 W
 generalize inR T.d0 (-32768) 32767 = xd0 at hd0 HO
 have hd1 := fun W => within_any T.d1 (-32768) 32767 W
 generalize inR T.d1 (-32768) 32767 = xd1 at hd1 HO
 have hd2 := fun W => within_any T.d2 (-32768) 32767 W
 generalize inR T.d2 (-32768) 32767 = xd2 at hd2 HO
 have A := Arr_at w w.heap.size [.int .i64 T.t, .int .i64 T.m, .int .i64 T.fa, .int .i64 T.ak, .int .i64 T.er, .int .i64 T.rj, .int .i64 T.q0, .int .i64 T.q1, .int .i64 T.q2, .int .i64 T.q3, .int .i64 T.d0, .int .i64 T.d1, .int .i64 T.d2] 55 rfl
 clear A
 go_enter Tryz.func139, Tryz.ntmps139
 go_wp2_with fail
 refine wp_loop_rounds 5 ?_
 rw [rounds_succ]
 go_wp2_with fail
 refine (hq0 _).mono ?_
 rintro e X ⟨rfl, rfl⟩
 cases xq0
 case false =>
  go_wp2_with (with_reducible refine post_stop ?_)
  exact ⟨bodyPost_ret (v := .bool false) (by simp [results, Tryz.results139, go_sem]) rfl ⟨by rw [HO.out]; simp, bel_al (Below.refl _ _) _⟩⟩
 go_wp2_with fail
 rw [rounds_succ]
 go_wp2_with fail
 refine (hq1 _).mono ?_
 rintro e X ⟨rfl, rfl⟩
 cases xq1
 case false =>
  go_wp2_with (with_reducible refine post_stop ?_)
  exact ⟨bodyPost_ret (v := .bool false) (by simp [results, Tryz.results139, go_sem]) rfl ⟨by rw [HO.out]; simp, bel_al (Below.refl _ _) _⟩⟩
 go_wp2_with fail
 rw [rounds_succ]
 go_wp2_with fail
 refine (hq2 _).mono ?_
 rintro e X ⟨rfl, rfl⟩
 cases xq2
 case false =>
  go_wp2_with (with_reducible refine post_stop ?_)
  exact ⟨bodyPost_ret (v := .bool false) (by simp [results, Tryz.results139, go_sem]) rfl ⟨by rw [HO.out]; simp, bel_al (Below.refl _ _) _⟩⟩
 go_wp2_with fail
 rw [rounds_succ]
 go_wp2_with fail
 refine (hq3 _).mono ?_
 rintro e X ⟨rfl, rfl⟩
 cases xq3
 case false =>
  go_wp2_with (with_reducible refine post_stop ?_)
  exact ⟨bodyPost_ret (v := .bool false) (by simp [results, Tryz.results139, go_sem]) rfl ⟨by rw [HO.out]; simp, bel_al (Below.refl _ _) _⟩⟩
 go_wp2_with fail
 rw [rounds_succ]
 go_wp2_with fail
 refine wp_loop_rounds 4 ?_
 rw [rounds_succ]
 go_wp2_with fail
 refine (hd0 _).mono ?_
 rintro e X ⟨rfl, rfl⟩
 cases xd0
 case false =>
  go_wp2_with (with_reducible refine post_stop ?_)
  exact ⟨bodyPost_ret (v := .bool false) (by simp [results, Tryz.results139, go_sem]) rfl ⟨by rw [HO.out]; simp, bel_al (Below.refl _ _) _⟩⟩
 go_wp2_with fail
 rw [rounds_succ]
 go_wp2_with fail
 refine (hd1 _).mono ?_
 rintro e X ⟨rfl, rfl⟩
 cases xd1
 case false =>
  go_wp2_with (with_reducible refine post_stop ?_)
  exact ⟨bodyPost_ret (v := .bool false) (by simp [results, Tryz.results139, go_sem]) rfl ⟨by rw [HO.out]; simp, bel_al (Below.refl _ _) _⟩⟩
 go_wp2_with fail
 rw [rounds_succ]
 go_wp2_with fail
 refine (hd2 _).mono ?_
 rintro e X ⟨rfl, rfl⟩
 cases xd2
 case false =>
  go_wp2_with (with_reducible refine post_stop ?_)
  exact ⟨bodyPost_ret (v := .bool false) (by simp [results, Tryz.results139, go_sem]) rfl ⟨by rw [HO.out]; simp, bel_al (Below.refl _ _) _⟩⟩
 go_wp2_with fail
 rw [rounds_succ]
 have A := Arr_at w w.heap.size [.int .i64 T.t, .int .i64 T.m, .int .i64 T.fa, .int .i64 T.ak, .int .i64 T.er, .int .i64 T.rj, .int .i64 T.q0, .int .i64 T.q1, .int .i64 T.q2, .int .i64 T.q3, .int .i64 T.d0, .int .i64 T.d1, .int .i64 T.d2] 55 rfl
 go_wp2_with fail
 refine (hct _).mono ?_
 rintro e X ⟨rfl, bk⟩
 have A := A.below bk
 have L := bel_then (bel_al (Below.refl _ _) _) bk
 clear bk
 have az := A.lies
 have a1 : X.cell? ⟨w.heap.size, 1, none⟩ = some (.int .i64 T.m) := A.c 1 (zD rfl)
 have a2 : X.cell? ⟨w.heap.size, 2, none⟩ = some (.int .i64 T.fa) := A.c 2 (zD rfl)
 have a3 : X.cell? ⟨w.heap.size, 3, none⟩ = some (.int .i64 T.ak) := A.c 3 (zD rfl)
 have a4 : X.cell? ⟨w.heap.size, 4, none⟩ = some (.int .i64 T.er) := A.c 4 (zD rfl)
 have a5 : X.cell? ⟨w.heap.size, 5, none⟩ = some (.int .i64 T.rj) := A.c 5 (zD rfl)
 cases xt
 case false =>
  go_wp2_with (with_reducible refine post_stop ?_)
  exact ⟨bodyPost_ret (v := .bool false) (by simp [results, Tryz.results139, go_sem]) rfl ⟨by rw [HO.out]; simp, L⟩⟩
 go_wp2_with fail
 refine (hm _).mono ?_
 rintro e Y ⟨rfl, rfl⟩
 cases xm
 case false =>
  go_wp2_with (with_reducible refine post_stop ?_)
  exact ⟨bodyPost_ret (v := .bool false) (by simp [results, Tryz.results139, go_sem]) rfl ⟨by rw [HO.out]; simp, L⟩⟩
 go_wp2_with fail
 refine (hfa _).mono ?_
 rintro e Y ⟨rfl, rfl⟩
 cases xfa
 case false =>
  go_wp2_with (with_reducible refine post_stop ?_)
  exact ⟨bodyPost_ret (v := .bool false) (by simp [results, Tryz.results139, go_sem]) rfl ⟨by rw [HO.out]; simp, L⟩⟩
 go_wp2_with fail
 refine (hak _).mono ?_
 rintro e Y ⟨rfl, rfl⟩
 cases xak
 case false =>
  go_wp2_with (with_reducible refine post_stop ?_)
  exact ⟨bodyPost_ret (v := .bool false) (by simp [results, Tryz.results139, go_sem]) rfl ⟨by rw [HO.out]; simp, L⟩⟩
 go_wp2_with fail
 refine (her _).mono ?_
 rintro e Y ⟨rfl, rfl⟩
 cases xer
 case false =>
  go_wp2_with (with_reducible refine post_stop ?_)
  exact ⟨bodyPost_ret (v := .bool false) (by simp [results, Tryz.results139, go_sem]) rfl ⟨by rw [HO.out]; simp, L⟩⟩
 go_wp2_with fail
 refine (hrj _).mono ?_
 rintro e Y ⟨rfl, rfl⟩
 cases xrj
 case false =>
  go_wp2_with (with_reducible refine post_stop ?_)
  exact ⟨bodyPost_ret (v := .bool false) (by simp [results, Tryz.results139, go_sem]) rfl ⟨by rw [HO.out]; simp, L⟩⟩
 go_wp2_with (with_reducible refine post_stop ?_)
 exact ⟨bodyPost_ret (v := .bool true) (by simp [results, Tryz.results139, go_sem]) rfl ⟨by rw [HO.out]; simp, L⟩⟩
end Go.Proofs.YtbophanlmkbfeaaGreatDoor
namespace Go.Proofs.YtbophanlmkbfeaaGreatDoor
open Go.RowKit
set_option maxRecDepth 100000
set_option maxHeartbeats 20000000
theorem twrite_no (T : Tl) (w : World) (h : tlOk T = false) :
    Calls Tryz.prog 64 #[.agg #[.int .i64 T.t, .int .i64 T.m, .int .i64 T.fa, .int .i64 T.ak, .int .i64 T.er, .int .i64 T.rj, .int .i64 T.q0, .int .i64 T.q1, .int .i64 T.q2, .int .i64 T.q3, .int .i64 T.d0, .int .i64 T.d1, .int .i64 T.d2]] w fun e w' => e = .returned (.tuple #[.agg #[.int .i64 0, .string ⟨#[]⟩], .bool false]) ∧ Below w.heap.size w w' := by
 have hm := mayTell_any T
 rw [h] at hm
 go_enter Tryz.func64, Tryz.ntmps64
 have A0 := (Arr_at w w.heap.size [.int .i64 T.t, .int .i64 T.m, .int .i64 T.fa, .int .i64 T.ak, .int .i64 T.er, .int .i64 T.rj, .int .i64 T.q0, .int .i64 T.q1, .int .i64 T.q2, .int .i64 T.q3, .int .i64 T.d0, .int .i64 T.d1, .int .i64 T.d2] 55 rfl).alloc (.cells #[.int .i64 0, .string ⟨#[]⟩] 49)
 have R0 := Arr_at (w.alloc (.cells #[.int .i64 T.t, .int .i64 T.m, .int .i64 T.fa, .int .i64 T.ak, .int .i64 T.er, .int .i64 T.rj, .int .i64 T.q0, .int .i64 T.q1, .int .i64 T.q2, .int .i64 T.q3, .int .i64 T.d0, .int .i64 T.d1, .int .i64 T.d2] 55)) (w.heap.size + 1) [.int .i64 0, .string ⟨#[]⟩] 49 (by simp)
 have L0 := bel_al (bel_al (Below.refl w.heap.size w) (.cells #[.int .i64 T.t, .int .i64 T.m, .int .i64 T.fa, .int .i64 T.ak, .int .i64 T.er, .int .i64 T.rj, .int .i64 T.q0, .int .i64 T.q1, .int .i64 T.q2, .int .i64 T.q3, .int .i64 T.d0, .int .i64 T.d1, .int .i64 T.d2] 55)) (.cells #[.int .i64 0, .string ⟨#[]⟩] 49)
 go_wp2_with fail
 refine (hm _).mono ?_
 rintro e X1 ⟨rfl, k⟩
 have A1 := A0.below k
 have R1 := R0.below k
 have L1 := bel_then L0 k
 have Az1 := A1.lies
 have Rz1 := R1.lies
 clear k A0 R0 L0
 have c0 : X1.cell? ⟨w.heap.size + 1, 0, none⟩ = some (.int .i64 0) := R1.c 0 (zD rfl)
 have c1 : X1.cell? ⟨w.heap.size + 1, 1, none⟩ = some (.string ⟨#[]⟩) := R1.c 1 (zD rfl)
 have f0 := R1.f 0 (zD rfl)
 have f1 := R1.f 1 (zD rfl)
 go_wp2_with (with_reducible refine post_stop ?_)
 have d0 := Arr.c ((R1.put 0 (zD rfl) (.int .i64 0) [.int .i64 0, .string ⟨#[]⟩] rfl).put 1 (zD rfl) (.string ⟨#[]⟩) [.int .i64 0, .string ⟨#[]⟩] rfl) 0 (zD rfl)
 have d1 := Arr.c ((R1.put 0 (zD rfl) (.int .i64 0) [.int .i64 0, .string ⟨#[]⟩] rfl).put 1 (zD rfl) (.string ⟨#[]⟩) [.int .i64 0, .string ⟨#[]⟩] rfl) 1 (zD rfl)
 simp only [List.getElem_cons_zero, List.getElem_cons_succ] at d0 d1
 exact ⟨bodyPost_ret (v := .tuple #[.agg #[.int .i64 0, .string ⟨#[]⟩], .bool false]) (by simp [results_cell_tmp Tryz.results64, asAddr, go_sem, d0, d1]) rfl ⟨rfl, bel_new (bel_new L1 _ _ (by omega) _) _ _ (by omega) _⟩⟩
theorem twrite_yes (T : Tl) (w : World) (h : tlOk T = true) :
    Calls Tryz.prog 64 #[.agg #[.int .i64 T.t, .int .i64 T.m, .int .i64 T.fa, .int .i64 T.ak, .int .i64 T.er, .int .i64 T.rj, .int .i64 T.q0, .int .i64 T.q1, .int .i64 T.q2, .int .i64 T.q3, .int .i64 T.d0, .int .i64 T.d1, .int .i64 T.d2]] w fun e w' => e = .returned (.tuple #[.agg #[.int .i64 32, .string (strOf (tlL T))], .bool true]) ∧ Below w.heap.size w w' := by
 have hm := mayTell_any T
 rw [h] at hm
 have H := tl_in h
 clear h
 have HL : Hid (tickL T.t ++ [T.m, T.fa, T.ak, T.er] ++ twoL T.rj ++ twoL T.q0 ++ twoL T.q1 ++ twoL T.q2 ++ twoL T.q3 ++ twoL T.d0 ++ twoL T.d1 ++ twoL T.d2 = tlL T) := rfl
 have hrg := tlL_rng H
 have wm : IntKind.u8.wrap T.m = T.m := by have := H.m; rw [IntKind.wrap_u8]; omega
 have wfa : IntKind.u8.wrap T.fa = T.fa := by have := H.fa; rw [IntKind.wrap_u8]; omega
 have wak : IntKind.u8.wrap T.ak = T.ak := by have := H.ak; rw [IntKind.wrap_u8]; omega
 have wer : IntKind.u8.wrap T.er = T.er := by have := H.er; rw [IntKind.wrap_u8]; omega
 generalize hS : strOf (tlL T) = S
 have HS : Hid (strOf (tlL T) = S) := hS
 clear hS
 have ht := H.t
 have htk := fun W => wtick_any T.t W ht.1 ht.2
 clear ht
 go_enter Tryz.func64, Tryz.ntmps64
 have A0 := (Arr_at w w.heap.size [.int .i64 T.t, .int .i64 T.m, .int .i64 T.fa, .int .i64 T.ak, .int .i64 T.er, .int .i64 T.rj, .int .i64 T.q0, .int .i64 T.q1, .int .i64 T.q2, .int .i64 T.q3, .int .i64 T.d0, .int .i64 T.d1, .int .i64 T.d2] 55 rfl).alloc (.cells #[.int .i64 0, .string ⟨#[]⟩] 49)
 have R0 := Arr_at (w.alloc (.cells #[.int .i64 T.t, .int .i64 T.m, .int .i64 T.fa, .int .i64 T.ak, .int .i64 T.er, .int .i64 T.rj, .int .i64 T.q0, .int .i64 T.q1, .int .i64 T.q2, .int .i64 T.q3, .int .i64 T.d0, .int .i64 T.d1, .int .i64 T.d2] 55)) (w.heap.size + 1) [.int .i64 0, .string ⟨#[]⟩] 49 (by simp)
 have L0 := bel_al (bel_al (Below.refl w.heap.size w) (.cells #[.int .i64 T.t, .int .i64 T.m, .int .i64 T.fa, .int .i64 T.ak, .int .i64 T.er, .int .i64 T.rj, .int .i64 T.q0, .int .i64 T.q1, .int .i64 T.q2, .int .i64 T.q3, .int .i64 T.d0, .int .i64 T.d1, .int .i64 T.d2] 55)) (.cells #[.int .i64 0, .string ⟨#[]⟩] 49)
 go_wp2_with fail
 refine (hm _).mono ?_
 rintro e X1 ⟨rfl, k⟩
 have A1 := A0.below k
 have R1 := R0.below k
 have L1 := bel_then L0 k
 have Az1 := A1.lies
 have Rz1 := R1.lies
 clear k A0 R0 L0
 have a0 : X1.cell? ⟨w.heap.size, 0, none⟩ = some (.int .i64 T.t) := A1.c 0 (zD rfl)
 go_wp2_with fail
 refine (htk _).mono ?_
 rintro e X2 ⟨v2, rfl, o2, k⟩
 have o2 := o2.base (show w.heap.size + 2 ≤ X1.heap.size by omega)
 have A2 := A1.below k
 have R2 := R1.below k
 have L2 := bel_then L1 k
 have Az2 := A2.lies
 have Rz2 := R2.lies
 clear k A1 R1 L1 Az1 Rz1
 clear a0
 have z2 : w.heap.size + 2 ≤ X2.heap.size := by omega
 have a1 : X2.cell? ⟨w.heap.size, 1, none⟩ = some (.int .i64 T.m) := A2.c 1 (zD rfl)
 have a2 : X2.cell? ⟨w.heap.size, 2, none⟩ = some (.int .i64 T.fa) := A2.c 2 (zD rfl)
 have a3 : X2.cell? ⟨w.heap.size, 3, none⟩ = some (.int .i64 T.ak) := A2.c 3 (zD rfl)
 have a4 : X2.cell? ⟨w.heap.size, 4, none⟩ = some (.int .i64 T.er) := A2.c 4 (zD rfl)
 go_wp2_with (at_builtin; refine app_any rfl (.tmp 16) (.tmp 29) rfl (w.heap.size + 2) v2 (tickL T.t) [T.m, T.fa, T.ak, T.er] X2 rfl o2 rfl (Nat.le_of_ble_eq_true rfl) z2 ?_; intro v3 X3 o3 k s; have A3 := A2.under k (by omega) s; have R3 := R2.under k (by omega) s; have L3 := L2.trans (k.mono (by omega)); have Az3 := A3.lies; have Rz3 := R3.lies; clear k A2 R2 L2 s Az2 Rz2; clear a1 a2 a3 a4; have z3 : w.heap.size + 2 ≤ X3.heap.size := (by omega); clear o2 z2; have a5 : X3.cell? ⟨w.heap.size, 5, none⟩ = some (.int .i64 T.rj) := A3.c 5 (zD rfl))
 skip
 refine (wcount_any (w.heap.size + 2) v3 (tickL T.t ++ [T.m, T.fa, T.ak, T.er]) T.rj _ o3 z3 (Nat.le_of_ble_eq_true rfl)).mono ?_
 rintro e X4 ⟨v4, rfl, o4, k, s⟩
 have A4 := A3.under k (by omega) s
 have R4 := R3.under k (by omega) s
 have L4 := L3.trans (k.mono (by omega))
 have Az4 := A4.lies
 have Rz4 := R4.lies
 clear k A3 R3 L3 s Az3 Rz3
 clear a5
 have z4 : w.heap.size + 2 ≤ X4.heap.size := by omega
 clear o3 z3
 have a6 : X4.cell? ⟨w.heap.size, 6, none⟩ = some (.int .i64 T.q0) := A4.c 6 (zD rfl)
 have a7 : X4.cell? ⟨w.heap.size, 7, none⟩ = some (.int .i64 T.q1) := A4.c 7 (zD rfl)
 have a8 : X4.cell? ⟨w.heap.size, 8, none⟩ = some (.int .i64 T.q2) := A4.c 8 (zD rfl)
 have a9 : X4.cell? ⟨w.heap.size, 9, none⟩ = some (.int .i64 T.q3) := A4.c 9 (zD rfl)
 go_wp2_with fail
 refine wp_loop_rounds 5 ?_
 clear a6 a7 a8 a9
 rw [rounds_succ]
 go_wp2_with fail
 refine (wcount_any (w.heap.size + 2) v4 (tickL T.t ++ [T.m, T.fa, T.ak, T.er] ++ twoL T.rj) T.q0 _ o4 z4 (Nat.le_of_ble_eq_true rfl)).mono ?_
 rintro e X5 ⟨v5, rfl, o5, k, s⟩
 have A5 := A4.under k (by omega) s
 have R5 := R4.under k (by omega) s
 have L5 := L4.trans (k.mono (by omega))
 have Az5 := A5.lies
 have Rz5 := R5.lies
 clear k A4 R4 L4 s Az4 Rz4
 have z5 : w.heap.size + 2 ≤ X5.heap.size := by omega
 clear o4 z4
 go_wp2_with fail
 rw [rounds_succ]
 go_wp2_with fail
 refine (wcount_any (w.heap.size + 2) v5 (tickL T.t ++ [T.m, T.fa, T.ak, T.er] ++ twoL T.rj ++ twoL T.q0) T.q1 _ o5 z5 (Nat.le_of_ble_eq_true rfl)).mono ?_
 rintro e X6 ⟨v6, rfl, o6, k, s⟩
 have A6 := A5.under k (by omega) s
 have R6 := R5.under k (by omega) s
 have L6 := L5.trans (k.mono (by omega))
 have Az6 := A6.lies
 have Rz6 := R6.lies
 clear k A5 R5 L5 s Az5 Rz5
 have z6 : w.heap.size + 2 ≤ X6.heap.size := by omega
 clear o5 z5
 go_wp2_with fail
 rw [rounds_succ]
 go_wp2_with fail
 refine (wcount_any (w.heap.size + 2) v6 (tickL T.t ++ [T.m, T.fa, T.ak, T.er] ++ twoL T.rj ++ twoL T.q0 ++ twoL T.q1) T.q2 _ o6 z6 (Nat.le_of_ble_eq_true rfl)).mono ?_
 rintro e X7 ⟨v7, rfl, o7, k, s⟩
 have A7 := A6.under k (by omega) s
 have R7 := R6.under k (by omega) s
 have L7 := L6.trans (k.mono (by omega))
 have Az7 := A7.lies
 have Rz7 := R7.lies
 clear k A6 R6 L6 s Az6 Rz6
 have z7 : w.heap.size + 2 ≤ X7.heap.size := by omega
 clear o6 z6
 go_wp2_with fail
 rw [rounds_succ]
 go_wp2_with fail
 refine (wcount_any (w.heap.size + 2) v7 (tickL T.t ++ [T.m, T.fa, T.ak, T.er] ++ twoL T.rj ++ twoL T.q0 ++ twoL T.q1 ++ twoL T.q2) T.q3 _ o7 z7 (Nat.le_of_ble_eq_true rfl)).mono ?_
 rintro e X8 ⟨v8, rfl, o8, k, s⟩
 have A8 := A7.under k (by omega) s
 have R8 := R7.under k (by omega) s
 have L8 := L7.trans (k.mono (by omega))
 have Az8 := A8.lies
 have Rz8 := R8.lies
 clear k A7 R7 L7 s Az7 Rz7
 have z8 : w.heap.size + 2 ≤ X8.heap.size := by omega
 clear o7 z7
 go_wp2_with fail
 have a10 : X8.cell? ⟨w.heap.size, 10, none⟩ = some (.int .i64 T.d0) := A8.c 10 (zD rfl)
 have a11 : X8.cell? ⟨w.heap.size, 11, none⟩ = some (.int .i64 T.d1) := A8.c 11 (zD rfl)
 have a12 : X8.cell? ⟨w.heap.size, 12, none⟩ = some (.int .i64 T.d2) := A8.c 12 (zD rfl)
 rw [rounds_succ]
 go_wp2_with fail
 refine wp_loop_rounds 4 ?_
 clear a10 a11 a12
 rw [rounds_succ]
 go_wp2_with fail
 refine (wcount_any (w.heap.size + 2) v8 (tickL T.t ++ [T.m, T.fa, T.ak, T.er] ++ twoL T.rj ++ twoL T.q0 ++ twoL T.q1 ++ twoL T.q2 ++ twoL T.q3) T.d0 _ o8 z8 (Nat.le_of_ble_eq_true rfl)).mono ?_
 rintro e X9 ⟨v9, rfl, o9, k, s⟩
 have A9 := A8.under k (by omega) s
 have R9 := R8.under k (by omega) s
 have L9 := L8.trans (k.mono (by omega))
 have Az9 := A9.lies
 have Rz9 := R9.lies
 clear k A8 R8 L8 s Az8 Rz8
 have z9 : w.heap.size + 2 ≤ X9.heap.size := by omega
 clear o8 z8
 go_wp2_with fail
 rw [rounds_succ]
 go_wp2_with fail
 refine (wcount_any (w.heap.size + 2) v9 (tickL T.t ++ [T.m, T.fa, T.ak, T.er] ++ twoL T.rj ++ twoL T.q0 ++ twoL T.q1 ++ twoL T.q2 ++ twoL T.q3 ++ twoL T.d0) T.d1 _ o9 z9 (Nat.le_of_ble_eq_true rfl)).mono ?_
 rintro e X10 ⟨v10, rfl, o10, k, s⟩
 have A10 := A9.under k (by omega) s
 have R10 := R9.under k (by omega) s
 have L10 := L9.trans (k.mono (by omega))
 have Az10 := A10.lies
 have Rz10 := R10.lies
 clear k A9 R9 L9 s Az9 Rz9
 have z10 : w.heap.size + 2 ≤ X10.heap.size := by omega
 clear o9 z9
 go_wp2_with fail
 rw [rounds_succ]
 go_wp2_with fail
 refine (wcount_any (w.heap.size + 2) v10 (tickL T.t ++ [T.m, T.fa, T.ak, T.er] ++ twoL T.rj ++ twoL T.q0 ++ twoL T.q1 ++ twoL T.q2 ++ twoL T.q3 ++ twoL T.d0 ++ twoL T.d1) T.d2 _ o10 z10 (Nat.le_of_ble_eq_true rfl)).mono ?_
 rintro e X11 ⟨v11, rfl, o11, k, s⟩
 have A11 := A10.under k (by omega) s
 have R11 := R10.under k (by omega) s
 have L11 := L10.trans (k.mono (by omega))
 have Az11 := A11.lies
 have Rz11 := R11.lies
 clear k A10 R10 L10 s Az10 Rz10
 have z11 : w.heap.size + 2 ≤ X11.heap.size := by omega
 clear o10 z10
 go_wp2_with fail
 rw [rounds_succ]
 rw [HL.out] at o11
 have hcv := conv_any o11 (by unfold tlL; simp) hrg
 rw [HS.out] at hcv
 clear o11
 have c0 : X11.cell? ⟨w.heap.size + 1, 0, none⟩ = some (.int .i64 0) := R11.c 0 (zD rfl)
 have c1 : X11.cell? ⟨w.heap.size + 1, 1, none⟩ = some (.string ⟨#[]⟩) := R11.c 1 (zD rfl)
 have f0 := R11.f 0 (zD rfl)
 have f1 := R11.f 1 (zD rfl)
 go_wp2_with (with_reducible refine post_stop ?_)
 have d0 := Arr.c ((R11.put 0 (zD rfl) (.int .i64 32) [.int .i64 32, .string ⟨#[]⟩] rfl).put 1 (zD rfl) (.string S) [.int .i64 32, .string S] rfl) 0 (zD rfl)
 have d1 := Arr.c ((R11.put 0 (zD rfl) (.int .i64 32) [.int .i64 32, .string ⟨#[]⟩] rfl).put 1 (zD rfl) (.string S) [.int .i64 32, .string S] rfl) 1 (zD rfl)
 simp only [List.getElem_cons_zero, List.getElem_cons_succ] at d0 d1
 exact ⟨bodyPost_ret (v := .tuple #[.agg #[.int .i64 32, .string S], .bool true]) (by simp [results_cell_tmp Tryz.results64, asAddr, go_sem, d0, d1]) rfl ⟨rfl, bel_new (bel_new L11 _ _ (by omega) _) _ _ (by omega) _⟩⟩
theorem twrite_any (T : Tl) (w : World) :
    Calls Tryz.prog 64 #[.agg #[.int .i64 T.t, .int .i64 T.m, .int .i64 T.fa, .int .i64 T.ak, .int .i64 T.er, .int .i64 T.rj, .int .i64 T.q0, .int .i64 T.q1, .int .i64 T.q2, .int .i64 T.q3, .int .i64 T.d0, .int .i64 T.d1, .int .i64 T.d2]] w fun e w' => e = .returned (.tuple #[.agg #[.int .i64 (tlW T).1, .string (tlW T).2], .bool (tlOk T)]) ∧ Below w.heap.size w w' := by
 unfold tlW
 cases h : tlOk T
 ·exact twrite_no T w h
 ·exact twrite_yes T w h
end Go.Proofs.YtbophanlmkbfeaaGreatDoor
