/-
  The walks of trig.parted, Sin and Cos, for the seat Ytnfaafdoefpomaa.
-/
import Derived.Test.YtnfaafdoefpomaaTSine
import Derived.Handy
namespace Go.Proofs.Ytnfaafdoefpomaa
open Go.RowKit

set_option maxHeartbeats 400000 in
theorem parted_any (b : Nat) (bad : Bool) (a : Int) (w : World) (hw : Fl b bad w) :
    Calls Try.prog 46 #[.pointer (some ⟨b, 0, none⟩), .int .i64 a] w fun e w' => e = .returned (.tuple #[.int .i64 (quart bad a), .int .i64 (inq bad a)]) ∧ Fl b (badM bad a) w' ∧ Kept b w w' := by
  go_enter Try.func46, Try.ntmps46
  go_wp2_with fail
  refine (Mod_any b bad a 6908435304716 w hw).mono ?_
  rintro e w1 ⟨rfl, h2, h3⟩
  have HQ : Hid (quart bad a = (modS bad a 6908435304716).1 / 1727108826179) := by rfl
  have HI : Hid (inq bad a = (modS bad a 6908435304716).1 - (modS bad a 6908435304716).1 / 1727108826179 * 1727108826179) := by rfl
  have hr : 0 ≤ (modS bad a 6908435304716).1 ∧ (modS bad a 6908435304716).1 < 6908435304716 := rest4_bd bad a
  have H2 : Hid (Fl b (badM bad a) w1) := h2
  have H3 : Hid _ := h3
  clear h2 h3 hw
  generalize (modS bad a 6908435304716).1 = r at *
  have r0 := hr.1
  have r1 := hr.2
  clear hr
  have q0 : 0 ≤ r / 1727108826179 := by omega
  have q1 : r / 1727108826179 ≤ 3 := by omega
  have q2 : r.tdiv 1727108826179 = r / 1727108826179 := Int.tdiv_eq_ediv_of_nonneg r0
  go_wp2
  go_ret2
  rw [HI.out, HQ.out]
  exact ⟨rfl, H2.out, H3.out⟩

set_option maxHeartbeats 400000 in
theorem Sin_any (b : Nat) (bad : Bool) (a : Int) (w : World) (hw : Fl b bad w) :
    Calls Try.prog 19 #[.pointer (some ⟨b, 0, none⟩), .int .i64 a] w fun e w' => e = .returned (.int .i64 (sinA bad a).1) ∧ Fl b (sinA bad a).2 w' ∧ Kept b w w' := by
  go_enter Try.func19, Try.ntmps19
  go_wp2_with fail
  refine (parted_any b bad a w hw).mono ?_
  rintro e w1 ⟨rfl, h2, h3⟩
  have H3 : Hid _ := h3
  have hq := quart_bd bad a
  have HP : Hid (sinA bad a = pick (quart bad a) (badM bad a) (inq bad a)) := by rfl
  clear h3 hw
  generalize quart bad a = k at *
  generalize inq bad a = t at *
  generalize badM bad a = bd at *
  have sf := sinS_fits bd t
  have cf := cosS_fits bd t
  have hk : k = 0 ∨ k = 1 ∨ k = 2 ∨ k = 3 := by omega
  clear hq
  rcases hk with rfl | rfl | rfl | rfl
  · have HV : Hid (sinA bad a = sinS bd t) := HP.out.trans (pick_0 bd t)
    clear HP
    go_wp2_with fail
    refine (sine_any b bd t w1 h2).mono ?_
    rintro e w2 ⟨rfl, h4, h5⟩
    have H4 : Hid _ := h4
    have H5 : Hid _ := H3.out.trans h5
    clear h2 h4 h5 H3
    go_wp2
    go_ret
    rw [HV.out]
    first | rw [neg1_1, neg1_2] | skip
    exact ⟨rfl, H4.out, H5.out⟩
  · have HV : Hid (sinA bad a = cosS bd t) := HP.out.trans (pick_1 bd t)
    clear HP
    go_wp2_with fail
    refine (cosine_any b bd t w1 h2).mono ?_
    rintro e w2 ⟨rfl, h4, h5⟩
    have H4 : Hid _ := h4
    have H5 : Hid _ := H3.out.trans h5
    clear h2 h4 h5 H3
    go_wp2
    go_ret
    rw [HV.out]
    first | rw [neg1_1, neg1_2] | skip
    exact ⟨rfl, H4.out, H5.out⟩
  · have HV : Hid (sinA bad a = neg1 (sinS bd t)) := HP.out.trans (pick_2 bd t)
    clear HP
    go_wp2_with fail
    refine (sine_any b bd t w1 h2).mono ?_
    rintro e w2 ⟨rfl, h4, h5⟩
    have H4 : Hid _ := h4
    have H5 : Hid _ := H3.out.trans h5
    clear h2 h4 h5 H3
    go_wp2
    go_ret
    rw [HV.out]
    first | rw [neg1_1, neg1_2] | skip
    exact ⟨rfl, H4.out, H5.out⟩
  · have HV : Hid (sinA bad a = neg1 (cosS bd t)) := HP.out.trans (pick_3 bd t)
    clear HP
    go_wp2_with fail
    refine (cosine_any b bd t w1 h2).mono ?_
    rintro e w2 ⟨rfl, h4, h5⟩
    have H4 : Hid _ := h4
    have H5 : Hid _ := H3.out.trans h5
    clear h2 h4 h5 H3
    go_wp2
    go_ret
    rw [HV.out]
    first | rw [neg1_1, neg1_2] | skip
    exact ⟨rfl, H4.out, H5.out⟩

set_option maxHeartbeats 400000 in
theorem Cos_any (b : Nat) (bad : Bool) (a : Int) (w : World) (hw : Fl b bad w) :
    Calls Try.prog 20 #[.pointer (some ⟨b, 0, none⟩), .int .i64 a] w fun e w' => e = .returned (.int .i64 (cosA bad a).1) ∧ Fl b (cosA bad a).2 w' ∧ Kept b w w' := by
  go_enter Try.func20, Try.ntmps20
  go_wp2_with fail
  refine (parted_any b bad a w hw).mono ?_
  rintro e w1 ⟨rfl, h2, h3⟩
  have H3 : Hid _ := h3
  have hq := quart_bd bad a
  have HP : Hid (cosA bad a = pick (if quart bad a = 3 then 0 else quart bad a + 1) (badM bad a) (inq bad a)) := by rfl
  clear h3 hw
  generalize quart bad a = k at *
  generalize inq bad a = t at *
  generalize badM bad a = bd at *
  have sf := sinS_fits bd t
  have cf := cosS_fits bd t
  have hk : k = 0 ∨ k = 1 ∨ k = 2 ∨ k = 3 := by omega
  clear hq
  rcases hk with rfl | rfl | rfl | rfl
  · have HV : Hid (cosA bad a = cosS bd t) := HP.out.trans (pick_1 bd t)
    clear HP
    go_wp2_with fail
    refine (cosine_any b bd t w1 h2).mono ?_
    rintro e w2 ⟨rfl, h4, h5⟩
    have H4 : Hid _ := h4
    have H5 : Hid _ := H3.out.trans h5
    clear h2 h4 h5 H3
    go_wp2
    go_ret
    rw [HV.out]
    first | rw [neg1_1, neg1_2] | skip
    exact ⟨rfl, H4.out, H5.out⟩
  · have HV : Hid (cosA bad a = neg1 (sinS bd t)) := HP.out.trans (pick_2 bd t)
    clear HP
    go_wp2_with fail
    refine (sine_any b bd t w1 h2).mono ?_
    rintro e w2 ⟨rfl, h4, h5⟩
    have H4 : Hid _ := h4
    have H5 : Hid _ := H3.out.trans h5
    clear h2 h4 h5 H3
    go_wp2
    go_ret
    rw [HV.out]
    first | rw [neg1_1, neg1_2] | skip
    exact ⟨rfl, H4.out, H5.out⟩
  · have HV : Hid (cosA bad a = neg1 (cosS bd t)) := HP.out.trans (pick_3 bd t)
    clear HP
    go_wp2_with fail
    refine (cosine_any b bd t w1 h2).mono ?_
    rintro e w2 ⟨rfl, h4, h5⟩
    have H4 : Hid _ := h4
    have H5 : Hid _ := H3.out.trans h5
    clear h2 h4 h5 H3
    go_wp2
    go_ret
    rw [HV.out]
    first | rw [neg1_1, neg1_2] | skip
    exact ⟨rfl, H4.out, H5.out⟩
  · have HV : Hid (cosA bad a = sinS bd t) := HP.out.trans (pick_0 bd t)
    clear HP
    go_wp2_with fail
    refine (sine_any b bd t w1 h2).mono ?_
    rintro e w2 ⟨rfl, h4, h5⟩
    have H4 : Hid _ := h4
    have H5 : Hid _ := H3.out.trans h5
    clear h2 h4 h5 H3
    go_wp2
    go_ret
    rw [HV.out]
    first | rw [neg1_1, neg1_2] | skip
    exact ⟨rfl, H4.out, H5.out⟩
end Go.Proofs.Ytnfaafdoefpomaa
