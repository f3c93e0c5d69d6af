/-
  The walks of trig.size, arc and Atan2, for the seat Ytndimdodendonab.
-/
import Derived.Test.YtndimdodendonabMeth
import Derived.Test.YtndimdodendonabTArc
import Derived.Handy
namespace Go.Proofs.Ytndimdodendonab
open Go.RowKit

set_option maxHeartbeats 400000 in
theorem tsize_any (a : Int) (w : World) :
    Calls Try.prog 15 #[.int .i64 a] w fun e w' => e = .returned (.int .i64 (szw a)) ∧ w' = w := by
  by_cases c : a < 0
  · have HS : Hid (szw a = wrap64 (-a)) := if_pos c
    go_enter Try.func15, Try.ntmps15
    go_wp2
    go_ret
    rw [HS.out]
    exact ⟨rfl, rfl⟩
  · have HS : Hid (szw a = a) := if_neg c
    go_enter Try.func15, Try.ntmps15
    go_wp2
    go_ret
    rw [HS.out]
    exact ⟨rfl, rfl⟩

set_option maxHeartbeats 400000 in
theorem arc_any (b : Nat) (bad : Bool) (t : Int) (w : World) (hw : Fl b bad w) :
    Calls Try.prog 16 #[.pointer (some ⟨b, 0, none⟩), .int .i64 t] w fun e w' => e = .returned (.int .i64 (arcS bad t).1) ∧ Fl b (arcS bad t).2 w' ∧ Kept b w w' := by
  have H0 : Hid _ := hw
  clear hw
  go_enter Try.func16, Try.ntmps16
  go_wp2
  go_loopw [1, 8] (fun v1 v8 wr => ∃ (t' k : Int) (bd : Bool), 0 ≤ k ∧ k ≤ 2 ∧ v1 = .int .i64 t' ∧ v8 = .int .i64 (2 - k) ∧ Hid (halvN k.toNat (t', bd) = halvN 2 (t, bad)) ∧ Hid (Fl b bd wr) ∧ Hid (Kept b w wr)) (fun _ v8 _ => (2 - intOf v8).toNat)
  case atStart => exact ⟨t, 2, bad, by omega, by omega, rfl, rfl, rfl, H0, Kept.refl _ _⟩
  case round =>
    obtain ⟨t', k, bd, hk0, hk1, rfl, rfl, HR, HF, HK⟩ := hrel
    by_cases hk : 1 ≤ k
    · go_wp2_with fail
      refine (Mul_any b bd _ _ wr HF.out).mono ?_
      rintro e w2 ⟨rfl, h4, h5⟩
      have H5 : Hid _ := HK.out.trans h5
      clear h5
      go_wp2_with fail
      refine (Add_any b _ _ _ w2 h4).mono ?_
      rintro e w3 ⟨rfl, h6, h7⟩
      have H7 : Hid _ := H5.out.trans h7
      clear h4 h7 H5
      go_wp2_with fail
      refine (Sqrt_any b _ _ w3 h6).mono ?_
      rintro e w4 ⟨rfl, h8, h9⟩
      have H9 : Hid _ := H7.out.trans h9
      clear h6 h9 H7
      go_wp2_with fail
      refine (Add_any b _ _ _ w4 h8).mono ?_
      rintro e w5 ⟨rfl, h4, h5⟩
      have H5 : Hid _ := H9.out.trans h5
      clear h8 h5 H9
      go_wp2_with fail
      refine (Div_any b _ _ _ w5 h4).mono ?_
      rintro e w6 ⟨rfl, h6, h7⟩
      have H6 : Hid _ := h6
      have H7 : Hid _ := H5.out.trans h7
      clear h4 h6 h7 H5
      go_wp2
      refine ⟨⟨_, k - 1, _, by omega, by omega, rfl, by go_num, ?_, H6, H7⟩, by simp [intOf]; omega⟩
      exact halvN_round k (t', bd) _ hk HR.out
    · have HE : Hid (halvN 2 (t, bad) = (t', bd)) := by show _ = _; have e := HR.out; rw [show k.toNat = 0 by omega] at e; exact e.symm
      go_wp2_with fail
      refine (Mul_any b bd _ _ wr HF.out).mono ?_
      rintro e w2 ⟨rfl, h4, h5⟩
      have H4 : Hid _ := h4
      have H5 : Hid _ := HK.out.trans h5
      clear h4 h5
      go_wp2
      have HU : Hid (arcV (t', bd) = arcSer (mulS bd t' t').1 13 (0, (mulS bd t' t').2)) := by rfl
      go_loopw [6, 7] (fun v6 v7 wr => ∃ (v n : Int) (be : Bool), -1 ≤ n ∧ n ≤ 12 ∧ v6 = .int .i64 v ∧ v7 = .int .i64 n ∧ Hid (arcSer (mulS bd t' t').1 (n + 1).toNat (v, be) = arcV (t', bd)) ∧ Hid (Fl b be wr) ∧ Hid (Kept b w wr)) (fun _ v7 _ => (intOf v7 + 1).toNat)
      case atStart => exact ⟨0, 12, (mulS bd t' t').2, by omega, by omega, rfl, rfl, HU.out.symm, H4, H5⟩
      case round =>
        obtain ⟨v, n, be, hn0, hn1, rfl, rfl, HR, HF, HK⟩ := hrel
        by_cases hn : 0 ≤ n
        · go_wp2_with fail
          refine (Part_any b be _ _ _ _ HF.out).mono ?_
          rintro e w3 ⟨rfl, h4, h5⟩
          have H5 : Hid _ := HK.out.trans h5
          clear h5
          go_wp2_with fail
          refine (Mul_any b _ _ _ w3 h4).mono ?_
          rintro e w4 ⟨rfl, h6, h7⟩
          have H7 : Hid _ := H5.out.trans h7
          clear h4 h7 H5
          go_wp2_with fail
          refine (Sub_any b _ _ _ w4 h6).mono ?_
          rintro e w5 ⟨rfl, h8, h9⟩
          have H8 : Hid _ := h8
          have H9 : Hid _ := H7.out.trans h9
          clear h6 h8 h9 H7
          go_wp2
          refine ⟨⟨_, n - 1, _, by omega, by omega, rfl, rfl, ?_, H8, H9⟩, by simp [intOf]; omega⟩
          rw [show n - 1 + 1 = n by omega]
          exact arcSer_round _ n (v, be) _ hn HR.out
        · have HV : Hid (arcV (t', bd) = (v, be)) := by show _ = _; have e := HR.out; rw [show (n + 1).toNat = 0 by omega] at e; exact e.symm
          go_wp2_with fail
          refine (Mul_any b be _ _ _ HF.out).mono ?_
          rintro e w3 ⟨rfl, h4, h5⟩
          have H4 : Hid _ := h4
          have H5 : Hid _ := HK.out.trans h5
          clear h4 h5
          go_wp2
          go_ret
          unfold arcS
          rw [HE.out]
          unfold arcW
          rw [HV.out]
          exact ⟨rfl, H4.out, H5.out⟩

set_option maxHeartbeats 400000 in
theorem Atan2_lt11 (b : Nat) (bad : Bool) (y x : Int) (w : World) (hy : -9223372036854775808 ≤ y ∧ y ≤ 9223372036854775807) (hx : -9223372036854775808 ≤ x ∧ x ≤ 9223372036854775807) (hw : Fl b bad w) (hy0 : y < 0) (c1 : szw x < szw y) (c2 : x < 0) :
    Calls Try.prog 6 #[.pointer (some ⟨b, 0, none⟩), .int .i64 y, .int .i64 x] w fun e w' => e = .returned (.int .i64 (atanS bad y x).1) ∧ Fl b (atanS bad y x).2 w' ∧ Kept b w w' := by
  have HB : Hid _ := atanS_bd bad y x hy hx
  have e0 : atan0 bad y x = (arcS (divS bad (szw x) (szw y)).2 (divS bad (szw x) (szw y)).1) := by unfold atan0 lowS highS; rw [if_pos c1, if_pos c1]
  have e1 : atan1 bad y x = (subS (arcS (divS bad (szw x) (szw y)).2 (divS bad (szw x) (szw y)).1).2 1727108826179 (arcS (divS bad (szw x) (szw y)).2 (divS bad (szw x) (szw y)).1).1) := by unfold atan1; rw [if_pos c1, e0]
  have e2 : atan2 bad y x = (subS (subS (arcS (divS bad (szw x) (szw y)).2 (divS bad (szw x) (szw y)).1).2 1727108826179 (arcS (divS bad (szw x) (szw y)).2 (divS bad (szw x) (szw y)).1).1).2 3454217652358 (subS (arcS (divS bad (szw x) (szw y)).2 (divS bad (szw x) (szw y)).1).2 1727108826179 (arcS (divS bad (szw x) (szw y)).2 (divS bad (szw x) (szw y)).1).1).1) := by unfold atan2; rw [if_pos c2, e1]
  have HV : Hid (atanS bad y x = (neg1 (subS (subS (arcS (divS bad (szw x) (szw y)).2 (divS bad (szw x) (szw y)).1).2 1727108826179 (arcS (divS bad (szw x) (szw y)).2 (divS bad (szw x) (szw y)).1).1).2 3454217652358 (subS (arcS (divS bad (szw x) (szw y)).2 (divS bad (szw x) (szw y)).1).2 1727108826179 (arcS (divS bad (szw x) (szw y)).2 (divS bad (szw x) (szw y)).1).1).1))) := by show _ = _; unfold atanS; rw [if_neg (by omega), if_pos hy0, e2]
  have hb : -17592186044416 ≤ (subS (subS (arcS (divS bad (szw x) (szw y)).2 (divS bad (szw x) (szw y)).1).2 1727108826179 (arcS (divS bad (szw x) (szw y)).2 (divS bad (szw x) (szw y)).1).1).2 3454217652358 (subS (arcS (divS bad (szw x) (szw y)).2 (divS bad (szw x) (szw y)).1).2 1727108826179 (arcS (divS bad (szw x) (szw y)).2 (divS bad (szw x) (szw y)).1).1).1).1 ∧ (subS (subS (arcS (divS bad (szw x) (szw y)).2 (divS bad (szw x) (szw y)).1).2 1727108826179 (arcS (divS bad (szw x) (szw y)).2 (divS bad (szw x) (szw y)).1).1).2 3454217652358 (subS (arcS (divS bad (szw x) (szw y)).2 (divS bad (szw x) (szw y)).1).2 1727108826179 (arcS (divS bad (szw x) (szw y)).2 (divS bad (szw x) (szw y)).1).1).1).1 ≤ 17592186044416 := by have h := HB.out; rw [HV.out, neg1_1] at h; omega
  clear e0 e1 e2
  have y0 : (y == 0) = false := by simp; omega
  have H0 : Hid _ := hw
  clear hw hy hx
  go_enter Try.func6, Try.ntmps6
  go_wp2_with fail
  refine (tsize_any y _).mono ?_
  rintro e w1 ⟨rfl, rfl⟩
  go_wp2_with fail
  refine (tsize_any x _).mono ?_
  rintro e w1 ⟨rfl, rfl⟩
  go_wp2_with fail
  refine (Div_any b bad _ _ _ H0.out).mono ?_
  rintro e w2 ⟨rfl, h4, h5⟩
  have H5 : Hid _ := h5
  clear h5
  go_wp2_with fail
  refine (arc_any b _ _ _ h4).mono ?_
  rintro e w3 ⟨rfl, h6, h7⟩
  have H7 : Hid _ := H5.out.trans h7
  clear h4 h7 H5
  go_wp2_with fail
  refine (Sub_any b _ _ _ _ h6).mono ?_
  rintro e w4 ⟨rfl, k4, l4⟩
  have H8 : Hid _ := H7.out.trans l4
  clear h6 l4 H7
  go_wp2_with fail
  refine (Sub_any b _ _ _ _ k4).mono ?_
  rintro e w5 ⟨rfl, k5, l5⟩
  have H9 : Hid _ := H8.out.trans l5
  clear k4 l5 H8
  have HF : Hid _ := k5
  clear k5
  go_wp2
  go_ret
  rw [HV.out]
  rw [neg1_1, neg1_2]
  exact ⟨rfl, HF.out, H9.out⟩

set_option maxHeartbeats 400000 in
theorem Atan2_lt10 (b : Nat) (bad : Bool) (y x : Int) (w : World) (hy : -9223372036854775808 ≤ y ∧ y ≤ 9223372036854775807) (hx : -9223372036854775808 ≤ x ∧ x ≤ 9223372036854775807) (hw : Fl b bad w) (hy0 : y < 0) (c1 : szw x < szw y) (c2 : ¬ x < 0) :
    Calls Try.prog 6 #[.pointer (some ⟨b, 0, none⟩), .int .i64 y, .int .i64 x] w fun e w' => e = .returned (.int .i64 (atanS bad y x).1) ∧ Fl b (atanS bad y x).2 w' ∧ Kept b w w' := by
  have HB : Hid _ := atanS_bd bad y x hy hx
  have e0 : atan0 bad y x = (arcS (divS bad (szw x) (szw y)).2 (divS bad (szw x) (szw y)).1) := by unfold atan0 lowS highS; rw [if_pos c1, if_pos c1]
  have e1 : atan1 bad y x = (subS (arcS (divS bad (szw x) (szw y)).2 (divS bad (szw x) (szw y)).1).2 1727108826179 (arcS (divS bad (szw x) (szw y)).2 (divS bad (szw x) (szw y)).1).1) := by unfold atan1; rw [if_pos c1, e0]
  have e2 : atan2 bad y x = (subS (arcS (divS bad (szw x) (szw y)).2 (divS bad (szw x) (szw y)).1).2 1727108826179 (arcS (divS bad (szw x) (szw y)).2 (divS bad (szw x) (szw y)).1).1) := by unfold atan2; rw [if_neg c2, e1]
  have HV : Hid (atanS bad y x = (neg1 (subS (arcS (divS bad (szw x) (szw y)).2 (divS bad (szw x) (szw y)).1).2 1727108826179 (arcS (divS bad (szw x) (szw y)).2 (divS bad (szw x) (szw y)).1).1))) := by show _ = _; unfold atanS; rw [if_neg (by omega), if_pos hy0, e2]
  have hb : -17592186044416 ≤ (subS (arcS (divS bad (szw x) (szw y)).2 (divS bad (szw x) (szw y)).1).2 1727108826179 (arcS (divS bad (szw x) (szw y)).2 (divS bad (szw x) (szw y)).1).1).1 ∧ (subS (arcS (divS bad (szw x) (szw y)).2 (divS bad (szw x) (szw y)).1).2 1727108826179 (arcS (divS bad (szw x) (szw y)).2 (divS bad (szw x) (szw y)).1).1).1 ≤ 17592186044416 := by have h := HB.out; rw [HV.out, neg1_1] at h; omega
  clear e0 e1 e2
  have y0 : (y == 0) = false := by simp; omega
  have H0 : Hid _ := hw
  clear hw hy hx
  go_enter Try.func6, Try.ntmps6
  go_wp2_with fail
  refine (tsize_any y _).mono ?_
  rintro e w1 ⟨rfl, rfl⟩
  go_wp2_with fail
  refine (tsize_any x _).mono ?_
  rintro e w1 ⟨rfl, rfl⟩
  go_wp2_with fail
  refine (Div_any b bad _ _ _ H0.out).mono ?_
  rintro e w2 ⟨rfl, h4, h5⟩
  have H5 : Hid _ := h5
  clear h5
  go_wp2_with fail
  refine (arc_any b _ _ _ h4).mono ?_
  rintro e w3 ⟨rfl, h6, h7⟩
  have H7 : Hid _ := H5.out.trans h7
  clear h4 h7 H5
  go_wp2_with fail
  refine (Sub_any b _ _ _ _ h6).mono ?_
  rintro e w4 ⟨rfl, k4, l4⟩
  have H8 : Hid _ := H7.out.trans l4
  clear h6 l4 H7
  have HF : Hid _ := k4
  clear k4
  go_wp2
  go_ret
  rw [HV.out]
  rw [neg1_1, neg1_2]
  exact ⟨rfl, HF.out, H8.out⟩

set_option maxHeartbeats 400000 in
theorem Atan2_lt01 (b : Nat) (bad : Bool) (y x : Int) (w : World) (hy : -9223372036854775808 ≤ y ∧ y ≤ 9223372036854775807) (hx : -9223372036854775808 ≤ x ∧ x ≤ 9223372036854775807) (hw : Fl b bad w) (hy0 : y < 0) (c1 : ¬ szw x < szw y) (c2 : x < 0) :
    Calls Try.prog 6 #[.pointer (some ⟨b, 0, none⟩), .int .i64 y, .int .i64 x] w fun e w' => e = .returned (.int .i64 (atanS bad y x).1) ∧ Fl b (atanS bad y x).2 w' ∧ Kept b w w' := by
  have HB : Hid _ := atanS_bd bad y x hy hx
  have e0 : atan0 bad y x = (arcS (divS bad (szw y) (szw x)).2 (divS bad (szw y) (szw x)).1) := by unfold atan0 lowS highS; rw [if_neg c1, if_neg c1]
  have e1 : atan1 bad y x = (arcS (divS bad (szw y) (szw x)).2 (divS bad (szw y) (szw x)).1) := by unfold atan1; rw [if_neg c1, e0]
  have e2 : atan2 bad y x = (subS (arcS (divS bad (szw y) (szw x)).2 (divS bad (szw y) (szw x)).1).2 3454217652358 (arcS (divS bad (szw y) (szw x)).2 (divS bad (szw y) (szw x)).1).1) := by unfold atan2; rw [if_pos c2, e1]
  have HV : Hid (atanS bad y x = (neg1 (subS (arcS (divS bad (szw y) (szw x)).2 (divS bad (szw y) (szw x)).1).2 3454217652358 (arcS (divS bad (szw y) (szw x)).2 (divS bad (szw y) (szw x)).1).1))) := by show _ = _; unfold atanS; rw [if_neg (by omega), if_pos hy0, e2]
  have hb : -17592186044416 ≤ (subS (arcS (divS bad (szw y) (szw x)).2 (divS bad (szw y) (szw x)).1).2 3454217652358 (arcS (divS bad (szw y) (szw x)).2 (divS bad (szw y) (szw x)).1).1).1 ∧ (subS (arcS (divS bad (szw y) (szw x)).2 (divS bad (szw y) (szw x)).1).2 3454217652358 (arcS (divS bad (szw y) (szw x)).2 (divS bad (szw y) (szw x)).1).1).1 ≤ 17592186044416 := by have h := HB.out; rw [HV.out, neg1_1] at h; omega
  clear e0 e1 e2
  have y0 : (y == 0) = false := by simp; omega
  have H0 : Hid _ := hw
  clear hw hy hx
  go_enter Try.func6, Try.ntmps6
  go_wp2_with fail
  refine (tsize_any y _).mono ?_
  rintro e w1 ⟨rfl, rfl⟩
  go_wp2_with fail
  refine (tsize_any x _).mono ?_
  rintro e w1 ⟨rfl, rfl⟩
  go_wp2_with fail
  refine (Div_any b bad _ _ _ H0.out).mono ?_
  rintro e w2 ⟨rfl, h4, h5⟩
  have H5 : Hid _ := h5
  clear h5
  go_wp2_with fail
  refine (arc_any b _ _ _ h4).mono ?_
  rintro e w3 ⟨rfl, h6, h7⟩
  have H7 : Hid _ := H5.out.trans h7
  clear h4 h7 H5
  go_wp2_with fail
  refine (Sub_any b _ _ _ _ h6).mono ?_
  rintro e w5 ⟨rfl, k5, l5⟩
  have H9 : Hid _ := H7.out.trans l5
  clear h6 l5 H7
  have HF : Hid _ := k5
  clear k5
  go_wp2
  go_ret
  rw [HV.out]
  rw [neg1_1, neg1_2]
  exact ⟨rfl, HF.out, H9.out⟩

set_option maxHeartbeats 400000 in
theorem Atan2_lt00 (b : Nat) (bad : Bool) (y x : Int) (w : World) (hy : -9223372036854775808 ≤ y ∧ y ≤ 9223372036854775807) (hx : -9223372036854775808 ≤ x ∧ x ≤ 9223372036854775807) (hw : Fl b bad w) (hy0 : y < 0) (c1 : ¬ szw x < szw y) (c2 : ¬ x < 0) :
    Calls Try.prog 6 #[.pointer (some ⟨b, 0, none⟩), .int .i64 y, .int .i64 x] w fun e w' => e = .returned (.int .i64 (atanS bad y x).1) ∧ Fl b (atanS bad y x).2 w' ∧ Kept b w w' := by
  have HB : Hid _ := atanS_bd bad y x hy hx
  have e0 : atan0 bad y x = (arcS (divS bad (szw y) (szw x)).2 (divS bad (szw y) (szw x)).1) := by unfold atan0 lowS highS; rw [if_neg c1, if_neg c1]
  have e1 : atan1 bad y x = (arcS (divS bad (szw y) (szw x)).2 (divS bad (szw y) (szw x)).1) := by unfold atan1; rw [if_neg c1, e0]
  have e2 : atan2 bad y x = (arcS (divS bad (szw y) (szw x)).2 (divS bad (szw y) (szw x)).1) := by unfold atan2; rw [if_neg c2, e1]
  have HV : Hid (atanS bad y x = (neg1 (arcS (divS bad (szw y) (szw x)).2 (divS bad (szw y) (szw x)).1))) := by show _ = _; unfold atanS; rw [if_neg (by omega), if_pos hy0, e2]
  have hb : -17592186044416 ≤ (arcS (divS bad (szw y) (szw x)).2 (divS bad (szw y) (szw x)).1).1 ∧ (arcS (divS bad (szw y) (szw x)).2 (divS bad (szw y) (szw x)).1).1 ≤ 17592186044416 := by have h := HB.out; rw [HV.out, neg1_1] at h; omega
  clear e0 e1 e2
  have y0 : (y == 0) = false := by simp; omega
  have H0 : Hid _ := hw
  clear hw hy hx
  go_enter Try.func6, Try.ntmps6
  go_wp2_with fail
  refine (tsize_any y _).mono ?_
  rintro e w1 ⟨rfl, rfl⟩
  go_wp2_with fail
  refine (tsize_any x _).mono ?_
  rintro e w1 ⟨rfl, rfl⟩
  go_wp2_with fail
  refine (Div_any b bad _ _ _ H0.out).mono ?_
  rintro e w2 ⟨rfl, h4, h5⟩
  have H5 : Hid _ := h5
  clear h5
  go_wp2_with fail
  refine (arc_any b _ _ _ h4).mono ?_
  rintro e w3 ⟨rfl, h6, h7⟩
  have H7 : Hid _ := H5.out.trans h7
  clear h4 h7 H5
  have HF : Hid _ := h6
  clear h6
  go_wp2
  go_ret
  rw [HV.out]
  rw [neg1_1, neg1_2]
  exact ⟨rfl, HF.out, H7.out⟩

set_option maxHeartbeats 400000 in
theorem Atan2_eq01 (b : Nat) (bad : Bool) (y x : Int) (w : World) (hy : -9223372036854775808 ≤ y ∧ y ≤ 9223372036854775807) (hx : -9223372036854775808 ≤ x ∧ x ≤ 9223372036854775807) (hw : Fl b bad w) (hy0 : y = 0) (hx0 : x ≠ 0) (c1 : ¬ szw x < szw y) (c2 : x < 0) :
    Calls Try.prog 6 #[.pointer (some ⟨b, 0, none⟩), .int .i64 y, .int .i64 x] w fun e w' => e = .returned (.int .i64 (atanS bad y x).1) ∧ Fl b (atanS bad y x).2 w' ∧ Kept b w w' := by
  have HB : Hid _ := atanS_bd bad y x hy hx
  have e0 : atan0 bad y x = (arcS (divS bad (szw y) (szw x)).2 (divS bad (szw y) (szw x)).1) := by unfold atan0 lowS highS; rw [if_neg c1, if_neg c1]
  have e1 : atan1 bad y x = (arcS (divS bad (szw y) (szw x)).2 (divS bad (szw y) (szw x)).1) := by unfold atan1; rw [if_neg c1, e0]
  have e2 : atan2 bad y x = (subS (arcS (divS bad (szw y) (szw x)).2 (divS bad (szw y) (szw x)).1).2 3454217652358 (arcS (divS bad (szw y) (szw x)).2 (divS bad (szw y) (szw x)).1).1) := by unfold atan2; rw [if_pos c2, e1]
  have HV : Hid (atanS bad y x = (subS (arcS (divS bad (szw y) (szw x)).2 (divS bad (szw y) (szw x)).1).2 3454217652358 (arcS (divS bad (szw y) (szw x)).2 (divS bad (szw y) (szw x)).1).1)) := by show _ = _; unfold atanS; rw [if_neg (by omega), if_neg (by omega), e2]
  clear e0 e1 e2
  have x0 : (x == 0) = false := by simpa using hx0
  subst hy0
  have H0 : Hid _ := hw
  clear hw hy hx
  go_enter Try.func6, Try.ntmps6
  go_wp2_with fail
  refine (tsize_any 0 _).mono ?_
  rintro e w1 ⟨rfl, rfl⟩
  go_wp2_with fail
  refine (tsize_any x _).mono ?_
  rintro e w1 ⟨rfl, rfl⟩
  go_wp2_with fail
  refine (Div_any b bad _ _ _ H0.out).mono ?_
  rintro e w2 ⟨rfl, h4, h5⟩
  have H5 : Hid _ := h5
  clear h5
  go_wp2_with fail
  refine (arc_any b _ _ _ h4).mono ?_
  rintro e w3 ⟨rfl, h6, h7⟩
  have H7 : Hid _ := H5.out.trans h7
  clear h4 h7 H5
  go_wp2_with fail
  refine (Sub_any b _ _ _ _ h6).mono ?_
  rintro e w5 ⟨rfl, k5, l5⟩
  have H9 : Hid _ := H7.out.trans l5
  clear h6 l5 H7
  have HF : Hid _ := k5
  clear k5
  go_wp2
  go_ret
  rw [HV.out]
  exact ⟨rfl, HF.out, H9.out⟩

set_option maxHeartbeats 400000 in
theorem Atan2_eq00 (b : Nat) (bad : Bool) (y x : Int) (w : World) (hy : -9223372036854775808 ≤ y ∧ y ≤ 9223372036854775807) (hx : -9223372036854775808 ≤ x ∧ x ≤ 9223372036854775807) (hw : Fl b bad w) (hy0 : y = 0) (hx0 : x ≠ 0) (c1 : ¬ szw x < szw y) (c2 : ¬ x < 0) :
    Calls Try.prog 6 #[.pointer (some ⟨b, 0, none⟩), .int .i64 y, .int .i64 x] w fun e w' => e = .returned (.int .i64 (atanS bad y x).1) ∧ Fl b (atanS bad y x).2 w' ∧ Kept b w w' := by
  have HB : Hid _ := atanS_bd bad y x hy hx
  have e0 : atan0 bad y x = (arcS (divS bad (szw y) (szw x)).2 (divS bad (szw y) (szw x)).1) := by unfold atan0 lowS highS; rw [if_neg c1, if_neg c1]
  have e1 : atan1 bad y x = (arcS (divS bad (szw y) (szw x)).2 (divS bad (szw y) (szw x)).1) := by unfold atan1; rw [if_neg c1, e0]
  have e2 : atan2 bad y x = (arcS (divS bad (szw y) (szw x)).2 (divS bad (szw y) (szw x)).1) := by unfold atan2; rw [if_neg c2, e1]
  have HV : Hid (atanS bad y x = (arcS (divS bad (szw y) (szw x)).2 (divS bad (szw y) (szw x)).1)) := by show _ = _; unfold atanS; rw [if_neg (by omega), if_neg (by omega), e2]
  clear e0 e1 e2
  have x0 : (x == 0) = false := by simpa using hx0
  subst hy0
  have H0 : Hid _ := hw
  clear hw hy hx
  go_enter Try.func6, Try.ntmps6
  go_wp2_with fail
  refine (tsize_any 0 _).mono ?_
  rintro e w1 ⟨rfl, rfl⟩
  go_wp2_with fail
  refine (tsize_any x _).mono ?_
  rintro e w1 ⟨rfl, rfl⟩
  go_wp2_with fail
  refine (Div_any b bad _ _ _ H0.out).mono ?_
  rintro e w2 ⟨rfl, h4, h5⟩
  have H5 : Hid _ := h5
  clear h5
  go_wp2_with fail
  refine (arc_any b _ _ _ h4).mono ?_
  rintro e w3 ⟨rfl, h6, h7⟩
  have H7 : Hid _ := H5.out.trans h7
  clear h4 h7 H5
  have HF : Hid _ := h6
  clear h6
  go_wp2
  go_ret
  rw [HV.out]
  exact ⟨rfl, HF.out, H7.out⟩

set_option maxHeartbeats 400000 in
theorem Atan2_gt11 (b : Nat) (bad : Bool) (y x : Int) (w : World) (hy : -9223372036854775808 ≤ y ∧ y ≤ 9223372036854775807) (hx : -9223372036854775808 ≤ x ∧ x ≤ 9223372036854775807) (hw : Fl b bad w) (hy0 : 0 < y) (c1 : szw x < szw y) (c2 : x < 0) :
    Calls Try.prog 6 #[.pointer (some ⟨b, 0, none⟩), .int .i64 y, .int .i64 x] w fun e w' => e = .returned (.int .i64 (atanS bad y x).1) ∧ Fl b (atanS bad y x).2 w' ∧ Kept b w w' := by
  have HB : Hid _ := atanS_bd bad y x hy hx
  have e0 : atan0 bad y x = (arcS (divS bad (szw x) (szw y)).2 (divS bad (szw x) (szw y)).1) := by unfold atan0 lowS highS; rw [if_pos c1, if_pos c1]
  have e1 : atan1 bad y x = (subS (arcS (divS bad (szw x) (szw y)).2 (divS bad (szw x) (szw y)).1).2 1727108826179 (arcS (divS bad (szw x) (szw y)).2 (divS bad (szw x) (szw y)).1).1) := by unfold atan1; rw [if_pos c1, e0]
  have e2 : atan2 bad y x = (subS (subS (arcS (divS bad (szw x) (szw y)).2 (divS bad (szw x) (szw y)).1).2 1727108826179 (arcS (divS bad (szw x) (szw y)).2 (divS bad (szw x) (szw y)).1).1).2 3454217652358 (subS (arcS (divS bad (szw x) (szw y)).2 (divS bad (szw x) (szw y)).1).2 1727108826179 (arcS (divS bad (szw x) (szw y)).2 (divS bad (szw x) (szw y)).1).1).1) := by unfold atan2; rw [if_pos c2, e1]
  have HV : Hid (atanS bad y x = (subS (subS (arcS (divS bad (szw x) (szw y)).2 (divS bad (szw x) (szw y)).1).2 1727108826179 (arcS (divS bad (szw x) (szw y)).2 (divS bad (szw x) (szw y)).1).1).2 3454217652358 (subS (arcS (divS bad (szw x) (szw y)).2 (divS bad (szw x) (szw y)).1).2 1727108826179 (arcS (divS bad (szw x) (szw y)).2 (divS bad (szw x) (szw y)).1).1).1)) := by show _ = _; unfold atanS; rw [if_neg (by omega), if_neg (by omega), e2]
  clear e0 e1 e2
  have y0 : (y == 0) = false := by simp; omega
  have H0 : Hid _ := hw
  clear hw hy hx
  go_enter Try.func6, Try.ntmps6
  go_wp2_with fail
  refine (tsize_any y _).mono ?_
  rintro e w1 ⟨rfl, rfl⟩
  go_wp2_with fail
  refine (tsize_any x _).mono ?_
  rintro e w1 ⟨rfl, rfl⟩
  go_wp2_with fail
  refine (Div_any b bad _ _ _ H0.out).mono ?_
  rintro e w2 ⟨rfl, h4, h5⟩
  have H5 : Hid _ := h5
  clear h5
  go_wp2_with fail
  refine (arc_any b _ _ _ h4).mono ?_
  rintro e w3 ⟨rfl, h6, h7⟩
  have H7 : Hid _ := H5.out.trans h7
  clear h4 h7 H5
  go_wp2_with fail
  refine (Sub_any b _ _ _ _ h6).mono ?_
  rintro e w4 ⟨rfl, k4, l4⟩
  have H8 : Hid _ := H7.out.trans l4
  clear h6 l4 H7
  go_wp2_with fail
  refine (Sub_any b _ _ _ _ k4).mono ?_
  rintro e w5 ⟨rfl, k5, l5⟩
  have H9 : Hid _ := H8.out.trans l5
  clear k4 l5 H8
  have HF : Hid _ := k5
  clear k5
  go_wp2
  go_ret
  rw [HV.out]
  exact ⟨rfl, HF.out, H9.out⟩

set_option maxHeartbeats 400000 in
theorem Atan2_gt10 (b : Nat) (bad : Bool) (y x : Int) (w : World) (hy : -9223372036854775808 ≤ y ∧ y ≤ 9223372036854775807) (hx : -9223372036854775808 ≤ x ∧ x ≤ 9223372036854775807) (hw : Fl b bad w) (hy0 : 0 < y) (c1 : szw x < szw y) (c2 : ¬ x < 0) :
    Calls Try.prog 6 #[.pointer (some ⟨b, 0, none⟩), .int .i64 y, .int .i64 x] w fun e w' => e = .returned (.int .i64 (atanS bad y x).1) ∧ Fl b (atanS bad y x).2 w' ∧ Kept b w w' := by
  have HB : Hid _ := atanS_bd bad y x hy hx
  have e0 : atan0 bad y x = (arcS (divS bad (szw x) (szw y)).2 (divS bad (szw x) (szw y)).1) := by unfold atan0 lowS highS; rw [if_pos c1, if_pos c1]
  have e1 : atan1 bad y x = (subS (arcS (divS bad (szw x) (szw y)).2 (divS bad (szw x) (szw y)).1).2 1727108826179 (arcS (divS bad (szw x) (szw y)).2 (divS bad (szw x) (szw y)).1).1) := by unfold atan1; rw [if_pos c1, e0]
  have e2 : atan2 bad y x = (subS (arcS (divS bad (szw x) (szw y)).2 (divS bad (szw x) (szw y)).1).2 1727108826179 (arcS (divS bad (szw x) (szw y)).2 (divS bad (szw x) (szw y)).1).1) := by unfold atan2; rw [if_neg c2, e1]
  have HV : Hid (atanS bad y x = (subS (arcS (divS bad (szw x) (szw y)).2 (divS bad (szw x) (szw y)).1).2 1727108826179 (arcS (divS bad (szw x) (szw y)).2 (divS bad (szw x) (szw y)).1).1)) := by show _ = _; unfold atanS; rw [if_neg (by omega), if_neg (by omega), e2]
  clear e0 e1 e2
  have y0 : (y == 0) = false := by simp; omega
  have H0 : Hid _ := hw
  clear hw hy hx
  go_enter Try.func6, Try.ntmps6
  go_wp2_with fail
  refine (tsize_any y _).mono ?_
  rintro e w1 ⟨rfl, rfl⟩
  go_wp2_with fail
  refine (tsize_any x _).mono ?_
  rintro e w1 ⟨rfl, rfl⟩
  go_wp2_with fail
  refine (Div_any b bad _ _ _ H0.out).mono ?_
  rintro e w2 ⟨rfl, h4, h5⟩
  have H5 : Hid _ := h5
  clear h5
  go_wp2_with fail
  refine (arc_any b _ _ _ h4).mono ?_
  rintro e w3 ⟨rfl, h6, h7⟩
  have H7 : Hid _ := H5.out.trans h7
  clear h4 h7 H5
  go_wp2_with fail
  refine (Sub_any b _ _ _ _ h6).mono ?_
  rintro e w4 ⟨rfl, k4, l4⟩
  have H8 : Hid _ := H7.out.trans l4
  clear h6 l4 H7
  have HF : Hid _ := k4
  clear k4
  go_wp2
  go_ret
  rw [HV.out]
  exact ⟨rfl, HF.out, H8.out⟩

set_option maxHeartbeats 400000 in
theorem Atan2_gt01 (b : Nat) (bad : Bool) (y x : Int) (w : World) (hy : -9223372036854775808 ≤ y ∧ y ≤ 9223372036854775807) (hx : -9223372036854775808 ≤ x ∧ x ≤ 9223372036854775807) (hw : Fl b bad w) (hy0 : 0 < y) (c1 : ¬ szw x < szw y) (c2 : x < 0) :
    Calls Try.prog 6 #[.pointer (some ⟨b, 0, none⟩), .int .i64 y, .int .i64 x] w fun e w' => e = .returned (.int .i64 (atanS bad y x).1) ∧ Fl b (atanS bad y x).2 w' ∧ Kept b w w' := by
  have HB : Hid _ := atanS_bd bad y x hy hx
  have e0 : atan0 bad y x = (arcS (divS bad (szw y) (szw x)).2 (divS bad (szw y) (szw x)).1) := by unfold atan0 lowS highS; rw [if_neg c1, if_neg c1]
  have e1 : atan1 bad y x = (arcS (divS bad (szw y) (szw x)).2 (divS bad (szw y) (szw x)).1) := by unfold atan1; rw [if_neg c1, e0]
  have e2 : atan2 bad y x = (subS (arcS (divS bad (szw y) (szw x)).2 (divS bad (szw y) (szw x)).1).2 3454217652358 (arcS (divS bad (szw y) (szw x)).2 (divS bad (szw y) (szw x)).1).1) := by unfold atan2; rw [if_pos c2, e1]
  have HV : Hid (atanS bad y x = (subS (arcS (divS bad (szw y) (szw x)).2 (divS bad (szw y) (szw x)).1).2 3454217652358 (arcS (divS bad (szw y) (szw x)).2 (divS bad (szw y) (szw x)).1).1)) := by show _ = _; unfold atanS; rw [if_neg (by omega), if_neg (by omega), e2]
  clear e0 e1 e2
  have y0 : (y == 0) = false := by simp; omega
  have H0 : Hid _ := hw
  clear hw hy hx
  go_enter Try.func6, Try.ntmps6
  go_wp2_with fail
  refine (tsize_any y _).mono ?_
  rintro e w1 ⟨rfl, rfl⟩
  go_wp2_with fail
  refine (tsize_any x _).mono ?_
  rintro e w1 ⟨rfl, rfl⟩
  go_wp2_with fail
  refine (Div_any b bad _ _ _ H0.out).mono ?_
  rintro e w2 ⟨rfl, h4, h5⟩
  have H5 : Hid _ := h5
  clear h5
  go_wp2_with fail
  refine (arc_any b _ _ _ h4).mono ?_
  rintro e w3 ⟨rfl, h6, h7⟩
  have H7 : Hid _ := H5.out.trans h7
  clear h4 h7 H5
  go_wp2_with fail
  refine (Sub_any b _ _ _ _ h6).mono ?_
  rintro e w5 ⟨rfl, k5, l5⟩
  have H9 : Hid _ := H7.out.trans l5
  clear h6 l5 H7
  have HF : Hid _ := k5
  clear k5
  go_wp2
  go_ret
  rw [HV.out]
  exact ⟨rfl, HF.out, H9.out⟩

set_option maxHeartbeats 400000 in
theorem Atan2_gt00 (b : Nat) (bad : Bool) (y x : Int) (w : World) (hy : -9223372036854775808 ≤ y ∧ y ≤ 9223372036854775807) (hx : -9223372036854775808 ≤ x ∧ x ≤ 9223372036854775807) (hw : Fl b bad w) (hy0 : 0 < y) (c1 : ¬ szw x < szw y) (c2 : ¬ x < 0) :
    Calls Try.prog 6 #[.pointer (some ⟨b, 0, none⟩), .int .i64 y, .int .i64 x] w fun e w' => e = .returned (.int .i64 (atanS bad y x).1) ∧ Fl b (atanS bad y x).2 w' ∧ Kept b w w' := by
  have HB : Hid _ := atanS_bd bad y x hy hx
  have e0 : atan0 bad y x = (arcS (divS bad (szw y) (szw x)).2 (divS bad (szw y) (szw x)).1) := by unfold atan0 lowS highS; rw [if_neg c1, if_neg c1]
  have e1 : atan1 bad y x = (arcS (divS bad (szw y) (szw x)).2 (divS bad (szw y) (szw x)).1) := by unfold atan1; rw [if_neg c1, e0]
  have e2 : atan2 bad y x = (arcS (divS bad (szw y) (szw x)).2 (divS bad (szw y) (szw x)).1) := by unfold atan2; rw [if_neg c2, e1]
  have HV : Hid (atanS bad y x = (arcS (divS bad (szw y) (szw x)).2 (divS bad (szw y) (szw x)).1)) := by show _ = _; unfold atanS; rw [if_neg (by omega), if_neg (by omega), e2]
  clear e0 e1 e2
  have y0 : (y == 0) = false := by simp; omega
  have H0 : Hid _ := hw
  clear hw hy hx
  go_enter Try.func6, Try.ntmps6
  go_wp2_with fail
  refine (tsize_any y _).mono ?_
  rintro e w1 ⟨rfl, rfl⟩
  go_wp2_with fail
  refine (tsize_any x _).mono ?_
  rintro e w1 ⟨rfl, rfl⟩
  go_wp2_with fail
  refine (Div_any b bad _ _ _ H0.out).mono ?_
  rintro e w2 ⟨rfl, h4, h5⟩
  have H5 : Hid _ := h5
  clear h5
  go_wp2_with fail
  refine (arc_any b _ _ _ h4).mono ?_
  rintro e w3 ⟨rfl, h6, h7⟩
  have H7 : Hid _ := H5.out.trans h7
  clear h4 h7 H5
  have HF : Hid _ := h6
  clear h6
  go_wp2
  go_ret
  rw [HV.out]
  exact ⟨rfl, HF.out, H7.out⟩

set_option maxHeartbeats 400000 in
theorem Atan2_eq11 (b : Nat) (bad : Bool) (y x : Int) (w : World) (hy : -9223372036854775808 ≤ y ∧ y ≤ 9223372036854775807) (hx : -9223372036854775808 ≤ x ∧ x ≤ 9223372036854775807) (hw : Fl b bad w) (hy0 : y = 0) (hx0 : x ≠ 0) (c1 : szw x < szw y) (c2 : x < 0) :
    Calls Try.prog 6 #[.pointer (some ⟨b, 0, none⟩), .int .i64 y, .int .i64 x] w fun e w' => e = .returned (.int .i64 (atanS bad y x).1) ∧ Fl b (atanS bad y x).2 w' ∧ Kept b w w' := by
  have HB : Hid _ := atanS_bd bad y x hy hx
  have e0 : atan0 bad y x = (arcS (divS bad (szw x) (szw y)).2 (divS bad (szw x) (szw y)).1) := by unfold atan0 lowS highS; rw [if_pos c1, if_pos c1]
  have e1 : atan1 bad y x = (subS (arcS (divS bad (szw x) (szw y)).2 (divS bad (szw x) (szw y)).1).2 1727108826179 (arcS (divS bad (szw x) (szw y)).2 (divS bad (szw x) (szw y)).1).1) := by unfold atan1; rw [if_pos c1, e0]
  have e2 : atan2 bad y x = (subS (subS (arcS (divS bad (szw x) (szw y)).2 (divS bad (szw x) (szw y)).1).2 1727108826179 (arcS (divS bad (szw x) (szw y)).2 (divS bad (szw x) (szw y)).1).1).2 3454217652358 (subS (arcS (divS bad (szw x) (szw y)).2 (divS bad (szw x) (szw y)).1).2 1727108826179 (arcS (divS bad (szw x) (szw y)).2 (divS bad (szw x) (szw y)).1).1).1) := by unfold atan2; rw [if_pos c2, e1]
  have HV : Hid (atanS bad y x = (subS (subS (arcS (divS bad (szw x) (szw y)).2 (divS bad (szw x) (szw y)).1).2 1727108826179 (arcS (divS bad (szw x) (szw y)).2 (divS bad (szw x) (szw y)).1).1).2 3454217652358 (subS (arcS (divS bad (szw x) (szw y)).2 (divS bad (szw x) (szw y)).1).2 1727108826179 (arcS (divS bad (szw x) (szw y)).2 (divS bad (szw x) (szw y)).1).1).1)) := by show _ = _; unfold atanS; rw [if_neg (by omega), if_neg (by omega), e2]
  clear e0 e1 e2
  have x0 : (x == 0) = false := by simpa using hx0
  subst hy0
  have H0 : Hid _ := hw
  clear hw hy hx
  go_enter Try.func6, Try.ntmps6
  go_wp2_with fail
  refine (tsize_any 0 _).mono ?_
  rintro e w1 ⟨rfl, rfl⟩
  go_wp2_with fail
  refine (tsize_any x _).mono ?_
  rintro e w1 ⟨rfl, rfl⟩
  go_wp2_with fail
  refine (Div_any b bad _ _ _ H0.out).mono ?_
  rintro e w2 ⟨rfl, h4, h5⟩
  have H5 : Hid _ := h5
  clear h5
  go_wp2_with fail
  refine (arc_any b _ _ _ h4).mono ?_
  rintro e w3 ⟨rfl, h6, h7⟩
  have H7 : Hid _ := H5.out.trans h7
  clear h4 h7 H5
  go_wp2_with fail
  refine (Sub_any b _ _ _ _ h6).mono ?_
  rintro e w4 ⟨rfl, k4, l4⟩
  have H8 : Hid _ := H7.out.trans l4
  clear h6 l4 H7
  go_wp2_with fail
  refine (Sub_any b _ _ _ _ k4).mono ?_
  rintro e w5 ⟨rfl, k5, l5⟩
  have H9 : Hid _ := H8.out.trans l5
  clear k4 l5 H8
  have HF : Hid _ := k5
  clear k5
  go_wp2
  go_ret
  rw [HV.out]
  exact ⟨rfl, HF.out, H9.out⟩

theorem Atan2_any (b : Nat) (bad : Bool) (y x : Int) (w : World) (hy : -9223372036854775808 ≤ y ∧ y ≤ 9223372036854775807) (hx : -9223372036854775808 ≤ x ∧ x ≤ 9223372036854775807) (hw : Fl b bad w) :
    Calls Try.prog 6 #[.pointer (some ⟨b, 0, none⟩), .int .i64 y, .int .i64 x] w fun e w' => e = .returned (.int .i64 (atanS bad y x).1) ∧ Fl b (atanS bad y x).2 w' ∧ Kept b w w' := by
  by_cases hz : y = 0 ∧ x = 0
  · have HZ : Hid (atanS bad y x = (0, bad)) := if_pos hz
    obtain ⟨rfl, rfl⟩ := hz
    have H0 : Hid _ := hw
    clear hw
    go_enter Try.func6, Try.ntmps6
    go_wp2
    go_ret
    rw [HZ.out]
    exact ⟨rfl, H0.out, Kept.refl _ _⟩
  · by_cases c1 : szw x < szw y
    · by_cases c2 : x < 0
      · by_cases y0 : y < 0
        · exact Atan2_lt11 b bad y x w hy hx hw y0 c1 c2
        · by_cases y1 : y = 0
          · exact Atan2_eq11 b bad y x w hy hx hw y1 (fun h => hz ⟨y1, h⟩) c1 c2
          · exact Atan2_gt11 b bad y x w hy hx hw (by omega) c1 c2
      · by_cases y0 : y < 0
        · exact Atan2_lt10 b bad y x w hy hx hw y0 c1 c2
        · by_cases y1 : y = 0
          · refine absurd c1 ?_
            subst y1
            rw [show szw x = x from if_neg c2, show szw 0 = 0 from rfl]
            omega
          · exact Atan2_gt10 b bad y x w hy hx hw (by omega) c1 c2
    · by_cases c2 : x < 0
      · by_cases y0 : y < 0
        · exact Atan2_lt01 b bad y x w hy hx hw y0 c1 c2
        · by_cases y1 : y = 0
          · exact Atan2_eq01 b bad y x w hy hx hw y1 (fun h => hz ⟨y1, h⟩) c1 c2
          · exact Atan2_gt01 b bad y x w hy hx hw (by omega) c1 c2
      · by_cases y0 : y < 0
        · exact Atan2_lt00 b bad y x w hy hx hw y0 c1 c2
        · by_cases y1 : y = 0
          · exact Atan2_eq00 b bad y x w hy hx hw y1 (fun h => hz ⟨y1, h⟩) c1 c2
          · exact Atan2_gt00 b bad y x w hy hx hw (by omega) c1 c2
end Go.Proofs.Ytndimdodendonab
