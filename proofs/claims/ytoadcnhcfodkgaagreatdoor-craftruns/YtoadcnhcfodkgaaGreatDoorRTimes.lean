/-
  The walk of the reference's product, bit by bit (alidaderef01.Times), for the seat YtoadcnhcfodkgaaGreatDoor.
-/
import Derived.Test.YtoadcnhcfodkgaaGreatDoorRLeaf
import Derived.Handy
import Derived.Deep.RegionHeld3
import Derived.Deep.DrawnRows
namespace Go.Proofs.YtoadcnhcfodkgaaGreatDoor
open Go.RowKit
attribute [local go_sem ↓] Go.wp_at_zero Go.wp_at_succ

set_option maxHeartbeats 400000 in
theorem rTimes_any (x y : Int) (w : World) (hx : 0 ≤ x ∧ x ≤ 9223372036854775808) (hy : 0 ≤ y ∧ y ≤ 9223372036854775808) :
    Calls Tryz.prog 182 #[.int .u64 x, .int .u64 y] w fun e w' => e = .returned (.agg #[.int .u64 (hi64 (x * y)), .int .u64 (lo64 (x * y))]) ∧ Below w.heap.size w w' := by
  go_enter Tryz.func182, Tryz.ntmps182
  go_wp2
  have HP : Hid _ := mul_bd63 x y hx hy
  go_loopw [1] (fun v wr => ∃ y' s t : Int, v = .int .u64 y' ∧ 0 ≤ y' ∧ y' ≤ 9223372036854775808 ∧ Hid (Wd (w.heap.size + 1) s wr ∧ Wd (w.heap.size + 1 + 1) t wr ∧ Wd w.heap.size 0 wr) ∧ Hid (s + t * y' = x * y ∧ 0 ≤ s ∧ 0 ≤ t ∧ t ≤ 170141183460469231731687303715884105728) ∧ Hid (Below w.heap.size w wr)) (fun v _ => (intOf v).toNat)
  case atStart =>
    have e := hi64_small x hx.1 (by omega)
    have z := hi64_small 0 (by decide) (by decide)
    refine ⟨y, 0, x, rfl, hy.1, hy.2, ⟨⟨?_, ?_, ?_, ?_, ?_⟩, ⟨?_, ?_, ?_, ?_, ?_⟩, ⟨?_, ?_, ?_, ?_, ?_⟩⟩, ⟨by omega, by decide, hx.1, by omega⟩, ?_⟩
    all_goals first | (show Below _ _ _; go_grown; done) | (simp [go_sem, e.1, e.2, z.1, z.2]; done) | (simp [go_sem, e.1, e.2, z.1, z.2]; omega)
  case round =>
    obtain ⟨y', s, t, rfl, hy0, hy1, HM, HE, HB⟩ := hrel
    have hz : w.heap.size + 1 + 1 < wr.heap.size := HM.out.2.1.lies
    by_cases hc : 0 < y'
    · have HL : Hid _ := times_bd s t y' _ HE.out.1 HE.out.2.1 HE.out.2.2.1 hc
      have m1 := HM.out.1.hi
      have m2 := HM.out.1.lo
      have m3 := HM.out.1.fh
      have m4 := HM.out.1.fl
      have m5 := HM.out.2.1.hi
      have m6 := HM.out.2.1.lo
      have m7 := HM.out.2.1.fh
      have m8 := HM.out.2.1.fl
      by_cases ho : y' % 2 = 1
      · have HO : Hid _ := times_odd s t y' _ HE.out.1 ho
        have ho1 : (y' % 2 == 1) = true := by simpa using ho
        clear ho
        go_wp2_with fail
        refine (radd_any s t _ HE.out.2.1 HE.out.2.2.1 (by have := HL.out; have := HP.out; omega)).mono ?_
        rintro e w1 ⟨rfl, hb⟩
        have H1 : Hid _ := HM.out.1.below hb
        have H2 : Hid _ := HM.out.2.1.below hb
        have H3 : Hid _ := HM.out.2.2.below hb
        have HB1 : Hid _ := HB.out.trans (hb.mono (Nat.le_of_lt (Nat.lt_of_le_of_lt (by omega) hz)))
        have hz1 : w.heap.size + 1 + 1 < w1.heap.size := H2.out.lies
        clear m1 m2 m3 m4 m5 m6 m7 m8 hb hz
        have m1 := H1.out.hi
        have m2 := H1.out.lo
        have m3 := H1.out.fh
        have m4 := H1.out.fl
        have m5 := H2.out.hi
        have m6 := H2.out.lo
        have m7 := H2.out.fh
        have m8 := H2.out.fl
        go_wp2_with fail
        refine (radd_any t t _ HE.out.2.2.1 HE.out.2.2.1 (by have := HL.out; have := HP.out; omega)).mono ?_
        rintro e w2 ⟨rfl, hb⟩
        have J1 : Hid _ := (H1.out.put (s + t)).below hb
        have J2 : Hid _ := (H2.out.far (by omega) (.int .u64 (hi64 (s + t))) (.int .u64 (lo64 (s + t)))).below hb
        have J3 : Hid _ := (H3.out.far (by omega) (.int .u64 (hi64 (s + t))) (.int .u64 (lo64 (s + t)))).below hb
        have HB2 : Hid (Below w.heap.size w w2) := ((HB1.out.setCell (by simp) _).setCell (by simp) _).trans (hb.mono (by simp; omega))
        have hz2 : w.heap.size + 1 + 1 < w2.heap.size := J2.out.lies
        clear m1 m2 m3 m4 m5 m6 m7 m8 hb hz1
        have m5 := J2.out.hi
        have m6 := J2.out.lo
        have m7 := J2.out.fh
        have m8 := J2.out.fl
        go_wp2
        refine ⟨⟨y' / 2, s + t, t + t, rfl, by omega, by omega, ⟨J1.out.far (by omega) _ _, J2.out.put _, J3.out.far (by omega) _ _⟩, ⟨HO.out, ?_, ?_, ?_⟩, (HB2.out.setCell (by simp; omega) _).setCell (by simp; omega) _⟩, by simp [intOf]; omega⟩
        all_goals (have := HE.out; have := HL.out; have := HP.out; omega)
      · have HO : Hid _ := times_even s t y' _ HE.out.1 (by omega)
        have ho1 : (y' % 2 == 1) = false := by simpa using ho
        clear ho
        go_wp2_with fail
        refine (radd_any t t _ HE.out.2.2.1 HE.out.2.2.1 (by have := HL.out; have := HP.out; omega)).mono ?_
        rintro e w2 ⟨rfl, hb⟩
        have J1 : Hid _ := HM.out.1.below hb
        have J2 : Hid _ := HM.out.2.1.below hb
        have J3 : Hid _ := HM.out.2.2.below hb
        have HB2 : Hid (Below w.heap.size w w2) := HB.out.trans (hb.mono (by omega))
        have hz2 : w.heap.size + 1 + 1 < w2.heap.size := J2.out.lies
        clear m1 m2 m3 m4 m5 m6 m7 m8 hb hz
        have m5 := J2.out.hi
        have m6 := J2.out.lo
        have m7 := J2.out.fh
        have m8 := J2.out.fl
        go_wp2
        refine ⟨⟨y' / 2, s, t + t, rfl, by omega, by omega, ⟨J1.out.far (by omega) _ _, J2.out.put _, J3.out.far (by omega) _ _⟩, ⟨HO.out, ?_, ?_, ?_⟩, (HB2.out.setCell (by simp; omega) _).setCell (by simp; omega) _⟩, by simp [intOf]; omega⟩
        all_goals (have := HE.out; have := HL.out; have := HP.out; omega)
    · have m1 := HM.out.1.hi
      have m2 := HM.out.1.lo
      have n1 := HM.out.2.2.hi
      have n2 := HM.out.2.2.lo
      have n3 := HM.out.2.2.fh
      have n4 := HM.out.2.2.fl
      have HZ : Hid (s = x * y) := by show _ = _; have e := HE.out.1; rw [show y' = 0 by omega] at e; omega
      have HQ : Hid _ := World.cell?_setCell_same wr ⟨w.heap.size, 0, none⟩ (.int .u64 (hi64 s)) n1
      have HQ2 : Hid _ := (HM.out.2.2.put s).lo
      go_wp2
      refine bodyPost_ret (v := .agg #[.int .u64 (hi64 s), .int .u64 (lo64 s)]) (by simp [results, Tryz.results182, go_sem, HQ.out, HQ2.out]) rfl ?_
      rw [HZ.out]
      exact ⟨rfl, (HB.out.setCell (Nat.le_refl _) _).setCell (Nat.le_refl _) _⟩
end Go.Proofs.YtoadcnhcfodkgaaGreatDoor
