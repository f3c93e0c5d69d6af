/-
  The walks of the reference's Sin and Cos (alidaderef02), for the seat Ytnfaafdoefpomaa.
-/
import Derived.Test.YtnfaafdoefpomaaRSine
import Derived.Handy
namespace Go.Proofs.Ytnfaafdoefpomaa
open Go.RowKit

set_option maxHeartbeats 400000 in
theorem rSin_any (b : Nat) (bad : Bool) (a : Int) (w : World) (hw : Fl b bad w) :
    Calls Try.prog 25 #[.pointer (some ⟨b, 0, none⟩), .int .i64 a] w fun e w' => e = .returned (.int .i64 (sinA bad a).1) ∧ Fl b (sinA bad a).2 w' ∧ Kept b w w' := by
  go_enter Try.func25, Try.ntmps25
  go_wp2_with fail
  refine (rMod_any b bad a 6908435304716 w hw).mono ?_
  rintro e w1 ⟨rfl, h20, h3⟩
  have h2 : Fl b (badM bad a) w1 := h20
  have H3 : Hid _ := h3
  have HP : Hid (sinA bad a = pick (quart bad a) (badM bad a) (inq bad a)) := by rfl
  have HQ : Hid (quart bad a = (modS bad a 6908435304716).1 / 1727108826179) := by rfl
  have HI : Hid (inq bad a = (modS bad a 6908435304716).1 - (modS bad a 6908435304716).1 / 1727108826179 * 1727108826179) := by rfl
  have hr : 0 ≤ (modS bad a 6908435304716).1 ∧ (modS bad a 6908435304716).1 < 6908435304716 := rest4_bd bad a
  have HB : Hid (badM bad a = true → sinA bad a = (0, true)) := fun h => sinA_bad h
  clear h3 hw h20
  generalize (modS bad a 6908435304716).1 = r at *
  generalize inq bad a = t at *
  generalize quart bad a = k at *
  generalize badM bad a = bd at *
  have f1 := h2.cell
  cases bd
  · have sf := sinS_fits false t
    have cf := cosS_fits false t
    have q2 : r.tdiv 1727108826179 = r / 1727108826179 := Int.tdiv_eq_ediv_of_nonneg hr.1
    have r0 := hr.1
    have r1 := hr.2
    have hk : r / 1727108826179 = 0 ∨ r / 1727108826179 = 1 ∨ r / 1727108826179 = 2 ∨ r / 1727108826179 = 3 := by omega
    clear hr HB
    have H2 : Hid _ := h2
    clear h2
    rcases hk with hk | hk | hk | hk
    · have HV : Hid (sinA bad a = sinS false t) := by
        show _ = _
        rw [HP.out, HQ.out, hk]
        exact (pick_0 false t)
      have ht : r - 0 = t := by rw [HI.out, hk]; omega
      clear HP HQ HI
      go_wp2_with fail
      try rw [ht]
      refine (rs_any b false t w1 H2.out).mono ?_
      rintro e w2 ⟨rfl, h4, h5⟩
      have H4 : Hid _ := h4
      have H5 : Hid _ := H3.out.trans h5
      clear H2 f1 h4 h5 H3
      go_wp2
      go_ret
      rw [HV.out]
      first | rw [neg1_1, neg1_2] | skip
      exact ⟨rfl, H4.out, H5.out⟩
    · have HV : Hid (sinA bad a = cosS false t) := by
        show _ = _
        rw [HP.out, HQ.out, hk]
        exact (pick_1 false t)
      have ht : r - 1727108826179 = t := by rw [HI.out, hk]; omega
      clear HP HQ HI
      go_wp2_with fail
      try rw [ht]
      refine (rc_any b false t w1 H2.out).mono ?_
      rintro e w2 ⟨rfl, h4, h5⟩
      have H4 : Hid _ := h4
      have H5 : Hid _ := H3.out.trans h5
      clear H2 f1 h4 h5 H3
      go_wp2
      go_ret
      rw [HV.out]
      first | rw [neg1_1, neg1_2] | skip
      exact ⟨rfl, H4.out, H5.out⟩
    · have HV : Hid (sinA bad a = neg1 (sinS false t)) := by
        show _ = _
        rw [HP.out, HQ.out, hk]
        exact (pick_2 false t)
      have ht : r - 3454217652358 = t := by rw [HI.out, hk]; omega
      clear HP HQ HI
      go_wp2_with fail
      try rw [ht]
      refine (rs_any b false t w1 H2.out).mono ?_
      rintro e w2 ⟨rfl, h4, h5⟩
      have H4 : Hid _ := h4
      have H5 : Hid _ := H3.out.trans h5
      clear H2 f1 h4 h5 H3
      go_wp2
      go_ret
      rw [HV.out]
      first | rw [neg1_1, neg1_2] | skip
      exact ⟨rfl, H4.out, H5.out⟩
    · have HV : Hid (sinA bad a = neg1 (cosS false t)) := by
        show _ = _
        rw [HP.out, HQ.out, hk]
        exact (pick_3 false t)
      have ht : r - 5181326478537 = t := by rw [HI.out, hk]; omega
      clear HP HQ HI
      go_wp2_with fail
      try rw [ht]
      refine (rc_any b false t w1 H2.out).mono ?_
      rintro e w2 ⟨rfl, h4, h5⟩
      have H4 : Hid _ := h4
      have H5 : Hid _ := H3.out.trans h5
      clear H2 f1 h4 h5 H3
      go_wp2
      go_ret
      rw [HV.out]
      first | rw [neg1_1, neg1_2] | skip
      exact ⟨rfl, H4.out, H5.out⟩
  · have HE : Hid _ := HB.out rfl
    have H2 : Hid _ := h2
    clear h2 HP HQ HI HB hr
    go_wp2
    go_ret
    rw [HE.out]
    exact ⟨rfl, H2.out, H3.out⟩

set_option maxHeartbeats 400000 in
theorem rCos_any (b : Nat) (bad : Bool) (a : Int) (w : World) (hw : Fl b bad w) :
    Calls Try.prog 27 #[.pointer (some ⟨b, 0, none⟩), .int .i64 a] w fun e w' => e = .returned (.int .i64 (cosA bad a).1) ∧ Fl b (cosA bad a).2 w' ∧ Kept b w w' := by
  go_enter Try.func27, Try.ntmps27
  go_wp2_with fail
  refine (rMod_any b bad a 6908435304716 w hw).mono ?_
  rintro e w1 ⟨rfl, h20, h3⟩
  have h2 : Fl b (badM bad a) w1 := h20
  have H3 : Hid _ := h3
  have HP : Hid (cosA bad a = pick (if quart bad a = 3 then 0 else quart bad a + 1) (badM bad a) (inq bad a)) := by rfl
  have HQ : Hid (quart bad a = (modS bad a 6908435304716).1 / 1727108826179) := by rfl
  have HI : Hid (inq bad a = (modS bad a 6908435304716).1 - (modS bad a 6908435304716).1 / 1727108826179 * 1727108826179) := by rfl
  have hr : 0 ≤ (modS bad a 6908435304716).1 ∧ (modS bad a 6908435304716).1 < 6908435304716 := rest4_bd bad a
  have HB : Hid (badM bad a = true → cosA bad a = (0, true)) := fun h => cosA_bad h
  clear h3 hw h20
  generalize (modS bad a 6908435304716).1 = r at *
  generalize inq bad a = t at *
  generalize quart bad a = k at *
  generalize badM bad a = bd at *
  have f1 := h2.cell
  cases bd
  · have sf := sinS_fits false t
    have cf := cosS_fits false t
    have q2 : r.tdiv 1727108826179 = r / 1727108826179 := Int.tdiv_eq_ediv_of_nonneg hr.1
    have r0 := hr.1
    have r1 := hr.2
    have hk : r / 1727108826179 = 0 ∨ r / 1727108826179 = 1 ∨ r / 1727108826179 = 2 ∨ r / 1727108826179 = 3 := by omega
    clear hr HB
    have H2 : Hid _ := h2
    clear h2
    rcases hk with hk | hk | hk | hk
    · have HV : Hid (cosA bad a = cosS false t) := by
        show _ = _
        rw [HP.out, HQ.out, hk]
        exact (pick_1 false t)
      have ht : r - 0 = t := by rw [HI.out, hk]; omega
      clear HP HQ HI
      go_wp2_with fail
      try rw [ht]
      refine (rc_any b false t w1 H2.out).mono ?_
      rintro e w2 ⟨rfl, h4, h5⟩
      have H4 : Hid _ := h4
      have H5 : Hid _ := H3.out.trans h5
      clear H2 f1 h4 h5 H3
      go_wp2
      go_ret
      rw [HV.out]
      first | rw [neg1_1, neg1_2] | skip
      exact ⟨rfl, H4.out, H5.out⟩
    · have HV : Hid (cosA bad a = neg1 (sinS false t)) := by
        show _ = _
        rw [HP.out, HQ.out, hk]
        exact (pick_2 false t)
      have ht : r - 1727108826179 = t := by rw [HI.out, hk]; omega
      clear HP HQ HI
      go_wp2_with fail
      try rw [ht]
      refine (rs_any b false t w1 H2.out).mono ?_
      rintro e w2 ⟨rfl, h4, h5⟩
      have H4 : Hid _ := h4
      have H5 : Hid _ := H3.out.trans h5
      clear H2 f1 h4 h5 H3
      go_wp2
      go_ret
      rw [HV.out]
      first | rw [neg1_1, neg1_2] | skip
      exact ⟨rfl, H4.out, H5.out⟩
    · have HV : Hid (cosA bad a = neg1 (cosS false t)) := by
        show _ = _
        rw [HP.out, HQ.out, hk]
        exact (pick_3 false t)
      have ht : r - 3454217652358 = t := by rw [HI.out, hk]; omega
      clear HP HQ HI
      go_wp2_with fail
      try rw [ht]
      refine (rc_any b false t w1 H2.out).mono ?_
      rintro e w2 ⟨rfl, h4, h5⟩
      have H4 : Hid _ := h4
      have H5 : Hid _ := H3.out.trans h5
      clear H2 f1 h4 h5 H3
      go_wp2
      go_ret
      rw [HV.out]
      first | rw [neg1_1, neg1_2] | skip
      exact ⟨rfl, H4.out, H5.out⟩
    · have HV : Hid (cosA bad a = sinS false t) := by
        show _ = _
        rw [HP.out, HQ.out, hk]
        exact (pick_0 false t)
      have ht : r - 5181326478537 = t := by rw [HI.out, hk]; omega
      clear HP HQ HI
      go_wp2_with fail
      try rw [ht]
      refine (rs_any b false t w1 H2.out).mono ?_
      rintro e w2 ⟨rfl, h4, h5⟩
      have H4 : Hid _ := h4
      have H5 : Hid _ := H3.out.trans h5
      clear H2 f1 h4 h5 H3
      go_wp2
      go_ret
      rw [HV.out]
      first | rw [neg1_1, neg1_2] | skip
      exact ⟨rfl, H4.out, H5.out⟩
  · have HE : Hid _ := HB.out rfl
    have H2 : Hid _ := h2
    clear h2 HP HQ HI HB hr
    go_wp2
    go_ret
    rw [HE.out]
    exact ⟨rfl, H2.out, H3.out⟩
end Go.Proofs.Ytnfaafdoefpomaa
