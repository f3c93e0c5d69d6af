/-
  The walks of the reference's Atan2 (alidaderef02), for the seat Ytndimdodendonaa.
-/
import Derived.Test.YtndimdodendonaaRMeth
import Derived.Test.YtndimdodendonaaRRoot
import Derived.Test.YtndimdodendonaaTArc
import Derived.Handy
namespace Go.Proofs.Ytndimdodendonaa
open Go.RowKit

theorem tk_adds (bad : Bool) (y x : Int) : (addS (addS bad y 0).2 x 0).2 = !tk bad [y, x] := by
  cases bad
  · cases h1 : numB y
    · rw [addS_no (a := y) (by unfold tk; simp [h1])]
      rw [addS_t]
      unfold tk
      simp [h1]
    · rw [addS_yes (bad := false) (a := y) (by unfold tk; simp [h1, show numB 0 = true by rfl]), Int.add_zero, gv_yes h1]
      cases h2 : numB x
      · rw [addS_no (a := x) (by unfold tk; simp [h2])]
        unfold tk
        simp [h2]
      · rw [addS_yes (bad := false) (a := x) (by unfold tk; simp [h2, show numB 0 = true by rfl]), Int.add_zero, gv_yes h2]
        unfold tk
        simp [h1, h2]
  · rfl

set_option maxHeartbeats 400000 in
theorem rAtan2_no (b : Nat) (bad : Bool) (y x : Int) (w : World) (hy : -9223372036854775808 ≤ y ∧ y ≤ 9223372036854775807) (hx : -9223372036854775808 ≤ x ∧ x ≤ 9223372036854775807) (hw : Fl b bad w) (h : tk bad [y, x] = false) :
    Calls Try.prog 15 #[.pointer (some ⟨b, 0, none⟩), .int .i64 y, .int .i64 x] w fun e w' => e = .returned (.int .i64 (atanS bad y x).1) ∧ Fl b (atanS bad y x).2 w' ∧ Kept b w w' := by
  have HV : Hid _ := atanS_no hy hx h
  have HT : Hid ((addS (addS bad y 0).2 x 0).2 = true) := by show _ = _; rw [tk_adds, h]; rfl
  clear h hy hx
  go_enter Try.func15, Try.ntmps15
  go_wp2_with fail
  refine (rAdd_any b bad y 0 w hw).mono ?_
  rintro e w1 ⟨rfl, h2, h3⟩
  have H3 : Hid _ := h3
  clear hw h3
  go_wp2_with fail
  refine (rAdd_any b _ x 0 w1 h2).mono ?_
  rintro e w2 ⟨rfl, h4, h5⟩
  have H5 : Hid _ := H3.out.trans h5
  rw [HT.out] at h4
  have H4 : Hid _ := h4
  have f1 := h4.cell
  clear h2 h4 h5 H3
  go_wp2
  go_ret
  rw [HV.out]
  exact ⟨rfl, H4.out, H5.out⟩

set_option maxHeartbeats 400000 in
theorem rAtan2_zero (b : Nat) (w : World) (hw : Fl b false w) :
    Calls Try.prog 15 #[.pointer (some ⟨b, 0, none⟩), .int .i64 0, .int .i64 0] w fun e w' => e = .returned (.int .i64 (atanS false 0 0).1) ∧ Fl b (atanS false 0 0).2 w' ∧ Kept b w w' := by
  have HV : Hid (atanS false 0 0 = (0, false)) := if_pos ⟨rfl, rfl⟩
  have HT : Hid ((addS (addS false 0 0).2 0 0).2 = false) := by show _ = _; rfl
  go_enter Try.func15, Try.ntmps15
  go_wp2_with fail
  refine (rAdd_any b false 0 0 w hw).mono ?_
  rintro e w1 ⟨rfl, h2, h3⟩
  have H3 : Hid _ := h3
  clear hw h3
  go_wp2_with fail
  refine (rAdd_any b _ 0 0 w1 h2).mono ?_
  rintro e w2 ⟨rfl, h4, h5⟩
  have H5 : Hid _ := H3.out.trans h5
  rw [HT.out] at h4
  have H4 : Hid _ := h4
  have f1 := h4.cell
  clear h2 h4 h5 H3
  go_wp2
  go_ret
  rw [HV.out]
  exact ⟨rfl, H4.out, H5.out⟩

/-! ### Ways -/
set_option maxRecDepth 100000 in
set_option maxHeartbeats 800000 in
theorem rAtan2_ll1 (b : Nat) (y x : Int) (w : World) (hy : numB y = true) (hx : numB x = true) (hw : Fl b false w) (c1 : szw x < szw y) (c2 : x < 0) (c3 : y < 0) :
    Calls Try.prog 15 #[.pointer (some ⟨b, 0, none⟩), .int .i64 y, .int .i64 x] w fun e w' => e = .returned (.int .i64 (atanS false y x).1) ∧ Fl b (atanS false y x).2 w' ∧ Kept b w w' := by
  obtain ⟨t, z, et, ez, t0, t1, z0, z1, ev⟩ := atanS_yes hy hx (by omega)
  have HV : Hid (atanS false y x = (-(3454217652358 - (1727108826179 - 4 * z)), false)) := by
    show _ = _
    rw [ev]; unfold fin; dsimp only; rw [if_pos c1, if_pos c2, if_pos c3]
  have HT : Hid ((addS (addS false y 0).2 x 0).2 = false) := by show _ = _; rw [tk_adds]; unfold tk; simp [hy, hx]
  have by1 := numB_bd hy
  have bx1 := numB_bd hx
  have ex : szw x = -x := by rw [szw_of x hx]; unfold sz; rw [if_pos c2]
  have ey : szw y = -y := by rw [szw_of y hy]; unfold sz; rw [if_pos c3]
  have HD : Hid (divS false (-x) (-y) = (t, false)) := by
    show _ = _
    rw [← et]; unfold lowS highS; rw [if_pos c1, if_pos c1, ex, ey]
  rw [ex, ey] at c1
  have HZ : Hid _ := ez
  have x0 : (x == 0) = false := by simp; omega
  clear et ez ev hy hx ex ey
  go_enter Try.func15, Try.ntmps15
  go_wp2_with fail
  refine (rAdd_any b false y 0 w hw).mono ?_
  rintro e w1 ⟨rfl, h2, h3⟩
  have H3 : Hid _ := h3
  clear hw h3
  go_wp2_with fail
  refine (rAdd_any b _ x 0 w1 h2).mono ?_
  rintro e w2 ⟨rfl, h4, h5⟩
  have H5 : Hid _ := H3.out.trans h5
  rw [HT.out] at h4
  have H4 : Hid _ := h4
  have f1 := h4.cell
  clear h2 h4 h5 H3
  go_wp2_with fail
  refine (rDiv_any b false _ _ _ H4.out).mono ?_
  rintro e w3 ⟨rfl, h6, h7⟩
  rw [HD.out] at h6 ⊢
  have H6 : Hid _ := h6
  have H7 : Hid _ := H5.out.trans h7
  clear h6 h7 H5 H4 f1 HD HT
  go_wp2
  have HC : Hid _ := And.intro c1 (And.intro by1 (And.intro bx1 (And.intro z0 (And.intro z1 (And.intro c2 c3)))))
  clear c1 by1 bx1 z0 z1 t0 t1 c3 c2 x0
  go_loopw [9, 10] (fun v1 v8 wr => ∃ (t' k : Int) (bd : Bool), 0 ≤ k ∧ k ≤ 2 ∧ v1 = .int .i64 t' ∧ v8 = .int .i64 (2 - k) ∧ Hid (halvN k.toNat (t', bd) = halvN 2 (t, false)) ∧ Hid (Fl b bd wr) ∧ Hid (Kept b w wr)) (fun _ v8 _ => (2 - intOf v8).toNat)
  case atStart => exact ⟨t, 2, false, by omega, by omega, rfl, rfl, rfl, H6, H7⟩
  case round =>
    obtain ⟨t', k, bd, hk0, hk1, rfl, rfl, HR, HF, HK⟩ := hrel
    by_cases hk : 1 ≤ k
    · go_wp2_with fail
      refine (rMul_any b _ _ _ _ HF.out).mono ?_
      rintro e u0 ⟨rfl, f0, k0⟩
      have K0 : Hid _ := HK.out.trans k0
      clear k0
      go_wp2_with fail
      refine (rAdd_any b _ _ _ _ f0).mono ?_
      rintro e u1 ⟨rfl, f1, k1⟩
      have K1 : Hid _ := K0.out.trans k1
      clear k1 f0 K0
      go_wp2_with fail
      refine (rSqrt_any b _ _ _ f1).mono ?_
      rintro e u2 ⟨rfl, f2, k2⟩
      have K2 : Hid _ := K1.out.trans k2
      clear k2 f1 K1
      go_wp2_with fail
      refine (rAdd_any b _ _ _ _ f2).mono ?_
      rintro e u3 ⟨rfl, f3, k3⟩
      have K3 : Hid _ := K2.out.trans k3
      clear k3 f2 K2
      go_wp2_with fail
      refine (rDiv_any b _ _ _ _ f3).mono ?_
      rintro e u4 ⟨rfl, f4, k4⟩
      have K4 : Hid _ := K3.out.trans k4
      clear k4 f3 K3
      have HG : Hid _ := f4
      clear f4
      go_wp2
      refine ⟨⟨_, k - 1, _, by omega, by omega, rfl, by go_num, ?_, HG, K4⟩, by simp [intOf]; omega⟩
      exact halvN_round k (t', bd) _ hk HR.out
    · have HE : Hid (halvN 2 (t, false) = (t', bd)) := by show _ = _; have e := HR.out; rw [show k.toNat = 0 by omega] at e; exact e.symm
      go_wp2_with fail
      refine (rMul_any b bd _ _ wr HF.out).mono ?_
      rintro e w2 ⟨rfl, h4, h5⟩
      have H4 : Hid _ := h4
      have H5 : Hid _ := HK.out.trans h5
      clear h4 h5
      go_wp2
      have HU : Hid (arcV (t', bd) = arcSer (mulS bd t' t').1 13 (0, (mulS bd t' t').2)) := by rfl
      go_loopw [12, 13] (fun v6 v7 wr => ∃ (v n : Int) (be : Bool), -1 ≤ n ∧ n ≤ 12 ∧ v6 = .int .i64 v ∧ v7 = .int .i64 n ∧ Hid (arcSer (mulS bd t' t').1 (n + 1).toNat (v, be) = arcV (t', bd)) ∧ Hid (Fl b be wr) ∧ Hid (Kept b w wr)) (fun _ v7 _ => (intOf v7 + 1).toNat)
      case atStart => exact ⟨0, 12, (mulS bd t' t').2, by omega, by omega, rfl, rfl, HU.out.symm, H4, H5⟩
      case round =>
        obtain ⟨v, n, be, hn0, hn1, rfl, rfl, HR, HF, HK⟩ := hrel
        by_cases hn : 0 ≤ n
        · go_wp2_with fail
          refine (rPart_any b _ _ _ _ _ HF.out).mono ?_
          rintro e u0 ⟨rfl, f0, k0⟩
          have K0 : Hid _ := HK.out.trans k0
          clear k0
          go_wp2_with fail
          refine (rMul_any b _ _ _ _ f0).mono ?_
          rintro e u1 ⟨rfl, f1, k1⟩
          have K1 : Hid _ := K0.out.trans k1
          clear k1 f0 K0
          go_wp2_with fail
          refine (rSub_any b _ _ _ _ f1).mono ?_
          rintro e u2 ⟨rfl, f2, k2⟩
          have K2 : Hid _ := K1.out.trans k2
          clear k2 f1 K1
          have HG : Hid _ := f2
          clear f2
          go_wp2
          refine ⟨⟨_, n - 1, _, by omega, by omega, rfl, rfl, ?_, HG, K2⟩, by simp [intOf]; omega⟩
          rw [show n - 1 + 1 = n by omega]
          exact arcSer_round _ n (v, be) _ hn HR.out
        · have HM : Hid (mulS be t' v = (z, false)) := by
            show _ = _
            have e := HR.out; rw [show (n + 1).toNat = 0 by omega] at e
            have h := HZ.out; rw [HE.out] at h; unfold arcW at h; rw [← e] at h; exact h
          go_wp2_with fail
          refine (rMul_any b be _ _ _ HF.out).mono ?_
          rintro e w3 ⟨rfl, h4, h5⟩
          rw [HM.out] at h4 ⊢
          obtain ⟨c1, by1, bx1, z0, z1, c2, c3⟩ := HC.out
          have H4 : Hid _ := h4
          have H5 : Hid _ := HK.out.trans h5
          clear h4 h5
          go_wp2
          go_ret
          rw [HV.out]
          exact ⟨ret_int (by omega), H4.out, H5.out⟩

set_option maxRecDepth 100000 in
set_option maxHeartbeats 800000 in
theorem rAtan2_ll0 (b : Nat) (y x : Int) (w : World) (hy : numB y = true) (hx : numB x = true) (hw : Fl b false w) (c1 : ¬ szw x < szw y) (c2 : x < 0) (c3 : y < 0) :
    Calls Try.prog 15 #[.pointer (some ⟨b, 0, none⟩), .int .i64 y, .int .i64 x] w fun e w' => e = .returned (.int .i64 (atanS false y x).1) ∧ Fl b (atanS false y x).2 w' ∧ Kept b w w' := by
  obtain ⟨t, z, et, ez, t0, t1, z0, z1, ev⟩ := atanS_yes hy hx (by omega)
  have HV : Hid (atanS false y x = (-(3454217652358 - (4 * z)), false)) := by
    show _ = _
    rw [ev]; unfold fin; dsimp only; rw [if_neg c1, if_pos c2, if_pos c3]
  have HT : Hid ((addS (addS false y 0).2 x 0).2 = false) := by show _ = _; rw [tk_adds]; unfold tk; simp [hy, hx]
  have by1 := numB_bd hy
  have bx1 := numB_bd hx
  have ex : szw x = -x := by rw [szw_of x hx]; unfold sz; rw [if_pos c2]
  have ey : szw y = -y := by rw [szw_of y hy]; unfold sz; rw [if_pos c3]
  have HD : Hid (divS false (-y) (-x) = (t, false)) := by
    show _ = _
    rw [← et]; unfold lowS highS; rw [if_neg c1, if_neg c1, ex, ey]
  rw [ex, ey] at c1
  have HZ : Hid _ := ez
  have x0 : (x == 0) = false := by simp; omega
  clear et ez ev hy hx ex ey
  go_enter Try.func15, Try.ntmps15
  go_wp2_with fail
  refine (rAdd_any b false y 0 w hw).mono ?_
  rintro e w1 ⟨rfl, h2, h3⟩
  have H3 : Hid _ := h3
  clear hw h3
  go_wp2_with fail
  refine (rAdd_any b _ x 0 w1 h2).mono ?_
  rintro e w2 ⟨rfl, h4, h5⟩
  have H5 : Hid _ := H3.out.trans h5
  rw [HT.out] at h4
  have H4 : Hid _ := h4
  have f1 := h4.cell
  clear h2 h4 h5 H3
  go_wp2_with fail
  refine (rDiv_any b false _ _ _ H4.out).mono ?_
  rintro e w3 ⟨rfl, h6, h7⟩
  rw [HD.out] at h6 ⊢
  have H6 : Hid _ := h6
  have H7 : Hid _ := H5.out.trans h7
  clear h6 h7 H5 H4 f1 HD HT
  go_wp2
  have HC : Hid _ := And.intro c1 (And.intro by1 (And.intro bx1 (And.intro z0 (And.intro z1 (And.intro c2 c3)))))
  clear c1 by1 bx1 z0 z1 t0 t1 c3 c2 x0
  go_loopw [9, 10] (fun v1 v8 wr => ∃ (t' k : Int) (bd : Bool), 0 ≤ k ∧ k ≤ 2 ∧ v1 = .int .i64 t' ∧ v8 = .int .i64 (2 - k) ∧ Hid (halvN k.toNat (t', bd) = halvN 2 (t, false)) ∧ Hid (Fl b bd wr) ∧ Hid (Kept b w wr)) (fun _ v8 _ => (2 - intOf v8).toNat)
  case atStart => exact ⟨t, 2, false, by omega, by omega, rfl, rfl, rfl, H6, H7⟩
  case round =>
    obtain ⟨t', k, bd, hk0, hk1, rfl, rfl, HR, HF, HK⟩ := hrel
    by_cases hk : 1 ≤ k
    · go_wp2_with fail
      refine (rMul_any b _ _ _ _ HF.out).mono ?_
      rintro e u0 ⟨rfl, f0, k0⟩
      have K0 : Hid _ := HK.out.trans k0
      clear k0
      go_wp2_with fail
      refine (rAdd_any b _ _ _ _ f0).mono ?_
      rintro e u1 ⟨rfl, f1, k1⟩
      have K1 : Hid _ := K0.out.trans k1
      clear k1 f0 K0
      go_wp2_with fail
      refine (rSqrt_any b _ _ _ f1).mono ?_
      rintro e u2 ⟨rfl, f2, k2⟩
      have K2 : Hid _ := K1.out.trans k2
      clear k2 f1 K1
      go_wp2_with fail
      refine (rAdd_any b _ _ _ _ f2).mono ?_
      rintro e u3 ⟨rfl, f3, k3⟩
      have K3 : Hid _ := K2.out.trans k3
      clear k3 f2 K2
      go_wp2_with fail
      refine (rDiv_any b _ _ _ _ f3).mono ?_
      rintro e u4 ⟨rfl, f4, k4⟩
      have K4 : Hid _ := K3.out.trans k4
      clear k4 f3 K3
      have HG : Hid _ := f4
      clear f4
      go_wp2
      refine ⟨⟨_, k - 1, _, by omega, by omega, rfl, by go_num, ?_, HG, K4⟩, by simp [intOf]; omega⟩
      exact halvN_round k (t', bd) _ hk HR.out
    · have HE : Hid (halvN 2 (t, false) = (t', bd)) := by show _ = _; have e := HR.out; rw [show k.toNat = 0 by omega] at e; exact e.symm
      go_wp2_with fail
      refine (rMul_any b bd _ _ wr HF.out).mono ?_
      rintro e w2 ⟨rfl, h4, h5⟩
      have H4 : Hid _ := h4
      have H5 : Hid _ := HK.out.trans h5
      clear h4 h5
      go_wp2
      have HU : Hid (arcV (t', bd) = arcSer (mulS bd t' t').1 13 (0, (mulS bd t' t').2)) := by rfl
      go_loopw [12, 13] (fun v6 v7 wr => ∃ (v n : Int) (be : Bool), -1 ≤ n ∧ n ≤ 12 ∧ v6 = .int .i64 v ∧ v7 = .int .i64 n ∧ Hid (arcSer (mulS bd t' t').1 (n + 1).toNat (v, be) = arcV (t', bd)) ∧ Hid (Fl b be wr) ∧ Hid (Kept b w wr)) (fun _ v7 _ => (intOf v7 + 1).toNat)
      case atStart => exact ⟨0, 12, (mulS bd t' t').2, by omega, by omega, rfl, rfl, HU.out.symm, H4, H5⟩
      case round =>
        obtain ⟨v, n, be, hn0, hn1, rfl, rfl, HR, HF, HK⟩ := hrel
        by_cases hn : 0 ≤ n
        · go_wp2_with fail
          refine (rPart_any b _ _ _ _ _ HF.out).mono ?_
          rintro e u0 ⟨rfl, f0, k0⟩
          have K0 : Hid _ := HK.out.trans k0
          clear k0
          go_wp2_with fail
          refine (rMul_any b _ _ _ _ f0).mono ?_
          rintro e u1 ⟨rfl, f1, k1⟩
          have K1 : Hid _ := K0.out.trans k1
          clear k1 f0 K0
          go_wp2_with fail
          refine (rSub_any b _ _ _ _ f1).mono ?_
          rintro e u2 ⟨rfl, f2, k2⟩
          have K2 : Hid _ := K1.out.trans k2
          clear k2 f1 K1
          have HG : Hid _ := f2
          clear f2
          go_wp2
          refine ⟨⟨_, n - 1, _, by omega, by omega, rfl, rfl, ?_, HG, K2⟩, by simp [intOf]; omega⟩
          rw [show n - 1 + 1 = n by omega]
          exact arcSer_round _ n (v, be) _ hn HR.out
        · have HM : Hid (mulS be t' v = (z, false)) := by
            show _ = _
            have e := HR.out; rw [show (n + 1).toNat = 0 by omega] at e
            have h := HZ.out; rw [HE.out] at h; unfold arcW at h; rw [← e] at h; exact h
          go_wp2_with fail
          refine (rMul_any b be _ _ _ HF.out).mono ?_
          rintro e w3 ⟨rfl, h4, h5⟩
          rw [HM.out] at h4 ⊢
          obtain ⟨c1, by1, bx1, z0, z1, c2, c3⟩ := HC.out
          have H4 : Hid _ := h4
          have H5 : Hid _ := HK.out.trans h5
          clear h4 h5
          go_wp2
          go_ret
          rw [HV.out]
          exact ⟨ret_int (by omega), H4.out, H5.out⟩

set_option maxRecDepth 100000 in
set_option maxHeartbeats 800000 in
theorem rAtan2_ln1 (b : Nat) (y x : Int) (w : World) (hy : numB y = true) (hx : numB x = true) (hw : Fl b false w) (c1 : szw x < szw y) (c2 : x < 0) (c3 : 0 ≤ y) :
    Calls Try.prog 15 #[.pointer (some ⟨b, 0, none⟩), .int .i64 y, .int .i64 x] w fun e w' => e = .returned (.int .i64 (atanS false y x).1) ∧ Fl b (atanS false y x).2 w' ∧ Kept b w w' := by
  obtain ⟨t, z, et, ez, t0, t1, z0, z1, ev⟩ := atanS_yes hy hx (by omega)
  have HV : Hid (atanS false y x = (3454217652358 - (1727108826179 - 4 * z), false)) := by
    show _ = _
    rw [ev]; unfold fin; dsimp only; rw [if_pos c1, if_pos c2, if_neg (show ¬ y < 0 by omega)]
  have HT : Hid ((addS (addS false y 0).2 x 0).2 = false) := by show _ = _; rw [tk_adds]; unfold tk; simp [hy, hx]
  have by1 := numB_bd hy
  have bx1 := numB_bd hx
  have ex : szw x = -x := by rw [szw_of x hx]; unfold sz; rw [if_pos c2]
  have ey : szw y = y := by rw [szw_of y hy]; unfold sz; rw [if_neg (show ¬ y < 0 by omega)]
  have HD : Hid (divS false (-x) (y) = (t, false)) := by
    show _ = _
    rw [← et]; unfold lowS highS; rw [if_pos c1, if_pos c1, ex, ey]
  rw [ex, ey] at c1
  have HZ : Hid _ := ez
  have x0 : (x == 0) = false := by simp; omega
  clear et ez ev hy hx ex ey
  go_enter Try.func15, Try.ntmps15
  go_wp2_with fail
  refine (rAdd_any b false y 0 w hw).mono ?_
  rintro e w1 ⟨rfl, h2, h3⟩
  have H3 : Hid _ := h3
  clear hw h3
  go_wp2_with fail
  refine (rAdd_any b _ x 0 w1 h2).mono ?_
  rintro e w2 ⟨rfl, h4, h5⟩
  have H5 : Hid _ := H3.out.trans h5
  rw [HT.out] at h4
  have H4 : Hid _ := h4
  have f1 := h4.cell
  clear h2 h4 h5 H3
  go_wp2_with fail
  refine (rDiv_any b false _ _ _ H4.out).mono ?_
  rintro e w3 ⟨rfl, h6, h7⟩
  rw [HD.out] at h6 ⊢
  have H6 : Hid _ := h6
  have H7 : Hid _ := H5.out.trans h7
  clear h6 h7 H5 H4 f1 HD HT
  go_wp2
  have HC : Hid _ := And.intro c1 (And.intro by1 (And.intro bx1 (And.intro z0 (And.intro z1 (And.intro c2 c3)))))
  clear c1 by1 bx1 z0 z1 t0 t1 c3 c2 x0
  go_loopw [9, 10] (fun v1 v8 wr => ∃ (t' k : Int) (bd : Bool), 0 ≤ k ∧ k ≤ 2 ∧ v1 = .int .i64 t' ∧ v8 = .int .i64 (2 - k) ∧ Hid (halvN k.toNat (t', bd) = halvN 2 (t, false)) ∧ Hid (Fl b bd wr) ∧ Hid (Kept b w wr)) (fun _ v8 _ => (2 - intOf v8).toNat)
  case atStart => exact ⟨t, 2, false, by omega, by omega, rfl, rfl, rfl, H6, H7⟩
  case round =>
    obtain ⟨t', k, bd, hk0, hk1, rfl, rfl, HR, HF, HK⟩ := hrel
    by_cases hk : 1 ≤ k
    · go_wp2_with fail
      refine (rMul_any b _ _ _ _ HF.out).mono ?_
      rintro e u0 ⟨rfl, f0, k0⟩
      have K0 : Hid _ := HK.out.trans k0
      clear k0
      go_wp2_with fail
      refine (rAdd_any b _ _ _ _ f0).mono ?_
      rintro e u1 ⟨rfl, f1, k1⟩
      have K1 : Hid _ := K0.out.trans k1
      clear k1 f0 K0
      go_wp2_with fail
      refine (rSqrt_any b _ _ _ f1).mono ?_
      rintro e u2 ⟨rfl, f2, k2⟩
      have K2 : Hid _ := K1.out.trans k2
      clear k2 f1 K1
      go_wp2_with fail
      refine (rAdd_any b _ _ _ _ f2).mono ?_
      rintro e u3 ⟨rfl, f3, k3⟩
      have K3 : Hid _ := K2.out.trans k3
      clear k3 f2 K2
      go_wp2_with fail
      refine (rDiv_any b _ _ _ _ f3).mono ?_
      rintro e u4 ⟨rfl, f4, k4⟩
      have K4 : Hid _ := K3.out.trans k4
      clear k4 f3 K3
      have HG : Hid _ := f4
      clear f4
      go_wp2
      refine ⟨⟨_, k - 1, _, by omega, by omega, rfl, by go_num, ?_, HG, K4⟩, by simp [intOf]; omega⟩
      exact halvN_round k (t', bd) _ hk HR.out
    · have HE : Hid (halvN 2 (t, false) = (t', bd)) := by show _ = _; have e := HR.out; rw [show k.toNat = 0 by omega] at e; exact e.symm
      go_wp2_with fail
      refine (rMul_any b bd _ _ wr HF.out).mono ?_
      rintro e w2 ⟨rfl, h4, h5⟩
      have H4 : Hid _ := h4
      have H5 : Hid _ := HK.out.trans h5
      clear h4 h5
      go_wp2
      have HU : Hid (arcV (t', bd) = arcSer (mulS bd t' t').1 13 (0, (mulS bd t' t').2)) := by rfl
      go_loopw [12, 13] (fun v6 v7 wr => ∃ (v n : Int) (be : Bool), -1 ≤ n ∧ n ≤ 12 ∧ v6 = .int .i64 v ∧ v7 = .int .i64 n ∧ Hid (arcSer (mulS bd t' t').1 (n + 1).toNat (v, be) = arcV (t', bd)) ∧ Hid (Fl b be wr) ∧ Hid (Kept b w wr)) (fun _ v7 _ => (intOf v7 + 1).toNat)
      case atStart => exact ⟨0, 12, (mulS bd t' t').2, by omega, by omega, rfl, rfl, HU.out.symm, H4, H5⟩
      case round =>
        obtain ⟨v, n, be, hn0, hn1, rfl, rfl, HR, HF, HK⟩ := hrel
        by_cases hn : 0 ≤ n
        · go_wp2_with fail
          refine (rPart_any b _ _ _ _ _ HF.out).mono ?_
          rintro e u0 ⟨rfl, f0, k0⟩
          have K0 : Hid _ := HK.out.trans k0
          clear k0
          go_wp2_with fail
          refine (rMul_any b _ _ _ _ f0).mono ?_
          rintro e u1 ⟨rfl, f1, k1⟩
          have K1 : Hid _ := K0.out.trans k1
          clear k1 f0 K0
          go_wp2_with fail
          refine (rSub_any b _ _ _ _ f1).mono ?_
          rintro e u2 ⟨rfl, f2, k2⟩
          have K2 : Hid _ := K1.out.trans k2
          clear k2 f1 K1
          have HG : Hid _ := f2
          clear f2
          go_wp2
          refine ⟨⟨_, n - 1, _, by omega, by omega, rfl, rfl, ?_, HG, K2⟩, by simp [intOf]; omega⟩
          rw [show n - 1 + 1 = n by omega]
          exact arcSer_round _ n (v, be) _ hn HR.out
        · have HM : Hid (mulS be t' v = (z, false)) := by
            show _ = _
            have e := HR.out; rw [show (n + 1).toNat = 0 by omega] at e
            have h := HZ.out; rw [HE.out] at h; unfold arcW at h; rw [← e] at h; exact h
          go_wp2_with fail
          refine (rMul_any b be _ _ _ HF.out).mono ?_
          rintro e w3 ⟨rfl, h4, h5⟩
          rw [HM.out] at h4 ⊢
          obtain ⟨c1, by1, bx1, z0, z1, c2, c3⟩ := HC.out
          have H4 : Hid _ := h4
          have H5 : Hid _ := HK.out.trans h5
          clear h4 h5
          go_wp2
          go_ret
          rw [HV.out]
          exact ⟨ret_int (by omega), H4.out, H5.out⟩

set_option maxRecDepth 100000 in
set_option maxHeartbeats 800000 in
theorem rAtan2_ln0 (b : Nat) (y x : Int) (w : World) (hy : numB y = true) (hx : numB x = true) (hw : Fl b false w) (c1 : ¬ szw x < szw y) (c2 : x < 0) (c3 : 0 ≤ y) :
    Calls Try.prog 15 #[.pointer (some ⟨b, 0, none⟩), .int .i64 y, .int .i64 x] w fun e w' => e = .returned (.int .i64 (atanS false y x).1) ∧ Fl b (atanS false y x).2 w' ∧ Kept b w w' := by
  obtain ⟨t, z, et, ez, t0, t1, z0, z1, ev⟩ := atanS_yes hy hx (by omega)
  have HV : Hid (atanS false y x = (3454217652358 - (4 * z), false)) := by
    show _ = _
    rw [ev]; unfold fin; dsimp only; rw [if_neg c1, if_pos c2, if_neg (show ¬ y < 0 by omega)]
  have HT : Hid ((addS (addS false y 0).2 x 0).2 = false) := by show _ = _; rw [tk_adds]; unfold tk; simp [hy, hx]
  have by1 := numB_bd hy
  have bx1 := numB_bd hx
  have ex : szw x = -x := by rw [szw_of x hx]; unfold sz; rw [if_pos c2]
  have ey : szw y = y := by rw [szw_of y hy]; unfold sz; rw [if_neg (show ¬ y < 0 by omega)]
  have HD : Hid (divS false (y) (-x) = (t, false)) := by
    show _ = _
    rw [← et]; unfold lowS highS; rw [if_neg c1, if_neg c1, ex, ey]
  rw [ex, ey] at c1
  have HZ : Hid _ := ez
  have x0 : (x == 0) = false := by simp; omega
  clear et ez ev hy hx ex ey
  go_enter Try.func15, Try.ntmps15
  go_wp2_with fail
  refine (rAdd_any b false y 0 w hw).mono ?_
  rintro e w1 ⟨rfl, h2, h3⟩
  have H3 : Hid _ := h3
  clear hw h3
  go_wp2_with fail
  refine (rAdd_any b _ x 0 w1 h2).mono ?_
  rintro e w2 ⟨rfl, h4, h5⟩
  have H5 : Hid _ := H3.out.trans h5
  rw [HT.out] at h4
  have H4 : Hid _ := h4
  have f1 := h4.cell
  clear h2 h4 h5 H3
  go_wp2_with fail
  refine (rDiv_any b false _ _ _ H4.out).mono ?_
  rintro e w3 ⟨rfl, h6, h7⟩
  rw [HD.out] at h6 ⊢
  have H6 : Hid _ := h6
  have H7 : Hid _ := H5.out.trans h7
  clear h6 h7 H5 H4 f1 HD HT
  go_wp2
  have HC : Hid _ := And.intro c1 (And.intro by1 (And.intro bx1 (And.intro z0 (And.intro z1 (And.intro c2 c3)))))
  clear c1 by1 bx1 z0 z1 t0 t1 c3 c2 x0
  go_loopw [9, 10] (fun v1 v8 wr => ∃ (t' k : Int) (bd : Bool), 0 ≤ k ∧ k ≤ 2 ∧ v1 = .int .i64 t' ∧ v8 = .int .i64 (2 - k) ∧ Hid (halvN k.toNat (t', bd) = halvN 2 (t, false)) ∧ Hid (Fl b bd wr) ∧ Hid (Kept b w wr)) (fun _ v8 _ => (2 - intOf v8).toNat)
  case atStart => exact ⟨t, 2, false, by omega, by omega, rfl, rfl, rfl, H6, H7⟩
  case round =>
    obtain ⟨t', k, bd, hk0, hk1, rfl, rfl, HR, HF, HK⟩ := hrel
    by_cases hk : 1 ≤ k
    · go_wp2_with fail
      refine (rMul_any b _ _ _ _ HF.out).mono ?_
      rintro e u0 ⟨rfl, f0, k0⟩
      have K0 : Hid _ := HK.out.trans k0
      clear k0
      go_wp2_with fail
      refine (rAdd_any b _ _ _ _ f0).mono ?_
      rintro e u1 ⟨rfl, f1, k1⟩
      have K1 : Hid _ := K0.out.trans k1
      clear k1 f0 K0
      go_wp2_with fail
      refine (rSqrt_any b _ _ _ f1).mono ?_
      rintro e u2 ⟨rfl, f2, k2⟩
      have K2 : Hid _ := K1.out.trans k2
      clear k2 f1 K1
      go_wp2_with fail
      refine (rAdd_any b _ _ _ _ f2).mono ?_
      rintro e u3 ⟨rfl, f3, k3⟩
      have K3 : Hid _ := K2.out.trans k3
      clear k3 f2 K2
      go_wp2_with fail
      refine (rDiv_any b _ _ _ _ f3).mono ?_
      rintro e u4 ⟨rfl, f4, k4⟩
      have K4 : Hid _ := K3.out.trans k4
      clear k4 f3 K3
      have HG : Hid _ := f4
      clear f4
      go_wp2
      refine ⟨⟨_, k - 1, _, by omega, by omega, rfl, by go_num, ?_, HG, K4⟩, by simp [intOf]; omega⟩
      exact halvN_round k (t', bd) _ hk HR.out
    · have HE : Hid (halvN 2 (t, false) = (t', bd)) := by show _ = _; have e := HR.out; rw [show k.toNat = 0 by omega] at e; exact e.symm
      go_wp2_with fail
      refine (rMul_any b bd _ _ wr HF.out).mono ?_
      rintro e w2 ⟨rfl, h4, h5⟩
      have H4 : Hid _ := h4
      have H5 : Hid _ := HK.out.trans h5
      clear h4 h5
      go_wp2
      have HU : Hid (arcV (t', bd) = arcSer (mulS bd t' t').1 13 (0, (mulS bd t' t').2)) := by rfl
      go_loopw [12, 13] (fun v6 v7 wr => ∃ (v n : Int) (be : Bool), -1 ≤ n ∧ n ≤ 12 ∧ v6 = .int .i64 v ∧ v7 = .int .i64 n ∧ Hid (arcSer (mulS bd t' t').1 (n + 1).toNat (v, be) = arcV (t', bd)) ∧ Hid (Fl b be wr) ∧ Hid (Kept b w wr)) (fun _ v7 _ => (intOf v7 + 1).toNat)
      case atStart => exact ⟨0, 12, (mulS bd t' t').2, by omega, by omega, rfl, rfl, HU.out.symm, H4, H5⟩
      case round =>
        obtain ⟨v, n, be, hn0, hn1, rfl, rfl, HR, HF, HK⟩ := hrel
        by_cases hn : 0 ≤ n
        · go_wp2_with fail
          refine (rPart_any b _ _ _ _ _ HF.out).mono ?_
          rintro e u0 ⟨rfl, f0, k0⟩
          have K0 : Hid _ := HK.out.trans k0
          clear k0
          go_wp2_with fail
          refine (rMul_any b _ _ _ _ f0).mono ?_
          rintro e u1 ⟨rfl, f1, k1⟩
          have K1 : Hid _ := K0.out.trans k1
          clear k1 f0 K0
          go_wp2_with fail
          refine (rSub_any b _ _ _ _ f1).mono ?_
          rintro e u2 ⟨rfl, f2, k2⟩
          have K2 : Hid _ := K1.out.trans k2
          clear k2 f1 K1
          have HG : Hid _ := f2
          clear f2
          go_wp2
          refine ⟨⟨_, n - 1, _, by omega, by omega, rfl, rfl, ?_, HG, K2⟩, by simp [intOf]; omega⟩
          rw [show n - 1 + 1 = n by omega]
          exact arcSer_round _ n (v, be) _ hn HR.out
        · have HM : Hid (mulS be t' v = (z, false)) := by
            show _ = _
            have e := HR.out; rw [show (n + 1).toNat = 0 by omega] at e
            have h := HZ.out; rw [HE.out] at h; unfold arcW at h; rw [← e] at h; exact h
          go_wp2_with fail
          refine (rMul_any b be _ _ _ HF.out).mono ?_
          rintro e w3 ⟨rfl, h4, h5⟩
          rw [HM.out] at h4 ⊢
          obtain ⟨c1, by1, bx1, z0, z1, c2, c3⟩ := HC.out
          have H4 : Hid _ := h4
          have H5 : Hid _ := HK.out.trans h5
          clear h4 h5
          go_wp2
          go_ret
          rw [HV.out]
          exact ⟨ret_int (by omega), H4.out, H5.out⟩

set_option maxRecDepth 100000 in
set_option maxHeartbeats 800000 in
theorem rAtan2_gl1 (b : Nat) (y x : Int) (w : World) (hy : numB y = true) (hx : numB x = true) (hw : Fl b false w) (c1 : szw x < szw y) (c2 : 0 < x) (c3 : y < 0) :
    Calls Try.prog 15 #[.pointer (some ⟨b, 0, none⟩), .int .i64 y, .int .i64 x] w fun e w' => e = .returned (.int .i64 (atanS false y x).1) ∧ Fl b (atanS false y x).2 w' ∧ Kept b w w' := by
  obtain ⟨t, z, et, ez, t0, t1, z0, z1, ev⟩ := atanS_yes hy hx (by omega)
  have HV : Hid (atanS false y x = (-(1727108826179 - 4 * z), false)) := by
    show _ = _
    rw [ev]; unfold fin; dsimp only; rw [if_pos c1, if_neg (show ¬ x < 0 by omega), if_pos c3]
  have HT : Hid ((addS (addS false y 0).2 x 0).2 = false) := by show _ = _; rw [tk_adds]; unfold tk; simp [hy, hx]
  have by1 := numB_bd hy
  have bx1 := numB_bd hx
  have ex : szw x = x := by rw [szw_of x hx]; unfold sz; rw [if_neg (show ¬ x < 0 by omega)]
  have ey : szw y = -y := by rw [szw_of y hy]; unfold sz; rw [if_pos c3]
  have HD : Hid (divS false (x) (-y) = (t, false)) := by
    show _ = _
    rw [← et]; unfold lowS highS; rw [if_pos c1, if_pos c1, ex, ey]
  rw [ex, ey] at c1
  have HZ : Hid _ := ez
  have x0 : (x == 0) = false := by simp; omega
  clear et ez ev hy hx ex ey
  go_enter Try.func15, Try.ntmps15
  go_wp2_with fail
  refine (rAdd_any b false y 0 w hw).mono ?_
  rintro e w1 ⟨rfl, h2, h3⟩
  have H3 : Hid _ := h3
  clear hw h3
  go_wp2_with fail
  refine (rAdd_any b _ x 0 w1 h2).mono ?_
  rintro e w2 ⟨rfl, h4, h5⟩
  have H5 : Hid _ := H3.out.trans h5
  rw [HT.out] at h4
  have H4 : Hid _ := h4
  have f1 := h4.cell
  clear h2 h4 h5 H3
  go_wp2_with fail
  refine (rDiv_any b false _ _ _ H4.out).mono ?_
  rintro e w3 ⟨rfl, h6, h7⟩
  rw [HD.out] at h6 ⊢
  have H6 : Hid _ := h6
  have H7 : Hid _ := H5.out.trans h7
  clear h6 h7 H5 H4 f1 HD HT
  go_wp2
  have HC : Hid _ := And.intro c1 (And.intro by1 (And.intro bx1 (And.intro z0 (And.intro z1 (And.intro c2 c3)))))
  clear c1 by1 bx1 z0 z1 t0 t1 c3 c2 x0
  go_loopw [9, 10] (fun v1 v8 wr => ∃ (t' k : Int) (bd : Bool), 0 ≤ k ∧ k ≤ 2 ∧ v1 = .int .i64 t' ∧ v8 = .int .i64 (2 - k) ∧ Hid (halvN k.toNat (t', bd) = halvN 2 (t, false)) ∧ Hid (Fl b bd wr) ∧ Hid (Kept b w wr)) (fun _ v8 _ => (2 - intOf v8).toNat)
  case atStart => exact ⟨t, 2, false, by omega, by omega, rfl, rfl, rfl, H6, H7⟩
  case round =>
    obtain ⟨t', k, bd, hk0, hk1, rfl, rfl, HR, HF, HK⟩ := hrel
    by_cases hk : 1 ≤ k
    · go_wp2_with fail
      refine (rMul_any b _ _ _ _ HF.out).mono ?_
      rintro e u0 ⟨rfl, f0, k0⟩
      have K0 : Hid _ := HK.out.trans k0
      clear k0
      go_wp2_with fail
      refine (rAdd_any b _ _ _ _ f0).mono ?_
      rintro e u1 ⟨rfl, f1, k1⟩
      have K1 : Hid _ := K0.out.trans k1
      clear k1 f0 K0
      go_wp2_with fail
      refine (rSqrt_any b _ _ _ f1).mono ?_
      rintro e u2 ⟨rfl, f2, k2⟩
      have K2 : Hid _ := K1.out.trans k2
      clear k2 f1 K1
      go_wp2_with fail
      refine (rAdd_any b _ _ _ _ f2).mono ?_
      rintro e u3 ⟨rfl, f3, k3⟩
      have K3 : Hid _ := K2.out.trans k3
      clear k3 f2 K2
      go_wp2_with fail
      refine (rDiv_any b _ _ _ _ f3).mono ?_
      rintro e u4 ⟨rfl, f4, k4⟩
      have K4 : Hid _ := K3.out.trans k4
      clear k4 f3 K3
      have HG : Hid _ := f4
      clear f4
      go_wp2
      refine ⟨⟨_, k - 1, _, by omega, by omega, rfl, by go_num, ?_, HG, K4⟩, by simp [intOf]; omega⟩
      exact halvN_round k (t', bd) _ hk HR.out
    · have HE : Hid (halvN 2 (t, false) = (t', bd)) := by show _ = _; have e := HR.out; rw [show k.toNat = 0 by omega] at e; exact e.symm
      go_wp2_with fail
      refine (rMul_any b bd _ _ wr HF.out).mono ?_
      rintro e w2 ⟨rfl, h4, h5⟩
      have H4 : Hid _ := h4
      have H5 : Hid _ := HK.out.trans h5
      clear h4 h5
      go_wp2
      have HU : Hid (arcV (t', bd) = arcSer (mulS bd t' t').1 13 (0, (mulS bd t' t').2)) := by rfl
      go_loopw [12, 13] (fun v6 v7 wr => ∃ (v n : Int) (be : Bool), -1 ≤ n ∧ n ≤ 12 ∧ v6 = .int .i64 v ∧ v7 = .int .i64 n ∧ Hid (arcSer (mulS bd t' t').1 (n + 1).toNat (v, be) = arcV (t', bd)) ∧ Hid (Fl b be wr) ∧ Hid (Kept b w wr)) (fun _ v7 _ => (intOf v7 + 1).toNat)
      case atStart => exact ⟨0, 12, (mulS bd t' t').2, by omega, by omega, rfl, rfl, HU.out.symm, H4, H5⟩
      case round =>
        obtain ⟨v, n, be, hn0, hn1, rfl, rfl, HR, HF, HK⟩ := hrel
        by_cases hn : 0 ≤ n
        · go_wp2_with fail
          refine (rPart_any b _ _ _ _ _ HF.out).mono ?_
          rintro e u0 ⟨rfl, f0, k0⟩
          have K0 : Hid _ := HK.out.trans k0
          clear k0
          go_wp2_with fail
          refine (rMul_any b _ _ _ _ f0).mono ?_
          rintro e u1 ⟨rfl, f1, k1⟩
          have K1 : Hid _ := K0.out.trans k1
          clear k1 f0 K0
          go_wp2_with fail
          refine (rSub_any b _ _ _ _ f1).mono ?_
          rintro e u2 ⟨rfl, f2, k2⟩
          have K2 : Hid _ := K1.out.trans k2
          clear k2 f1 K1
          have HG : Hid _ := f2
          clear f2
          go_wp2
          refine ⟨⟨_, n - 1, _, by omega, by omega, rfl, rfl, ?_, HG, K2⟩, by simp [intOf]; omega⟩
          rw [show n - 1 + 1 = n by omega]
          exact arcSer_round _ n (v, be) _ hn HR.out
        · have HM : Hid (mulS be t' v = (z, false)) := by
            show _ = _
            have e := HR.out; rw [show (n + 1).toNat = 0 by omega] at e
            have h := HZ.out; rw [HE.out] at h; unfold arcW at h; rw [← e] at h; exact h
          go_wp2_with fail
          refine (rMul_any b be _ _ _ HF.out).mono ?_
          rintro e w3 ⟨rfl, h4, h5⟩
          rw [HM.out] at h4 ⊢
          obtain ⟨c1, by1, bx1, z0, z1, c2, c3⟩ := HC.out
          have H4 : Hid _ := h4
          have H5 : Hid _ := HK.out.trans h5
          clear h4 h5
          go_wp2
          go_ret
          rw [HV.out]
          exact ⟨ret_int (by omega), H4.out, H5.out⟩

set_option maxRecDepth 100000 in
set_option maxHeartbeats 800000 in
theorem rAtan2_gl0 (b : Nat) (y x : Int) (w : World) (hy : numB y = true) (hx : numB x = true) (hw : Fl b false w) (c1 : ¬ szw x < szw y) (c2 : 0 < x) (c3 : y < 0) :
    Calls Try.prog 15 #[.pointer (some ⟨b, 0, none⟩), .int .i64 y, .int .i64 x] w fun e w' => e = .returned (.int .i64 (atanS false y x).1) ∧ Fl b (atanS false y x).2 w' ∧ Kept b w w' := by
  obtain ⟨t, z, et, ez, t0, t1, z0, z1, ev⟩ := atanS_yes hy hx (by omega)
  have HV : Hid (atanS false y x = (-(4 * z), false)) := by
    show _ = _
    rw [ev]; unfold fin; dsimp only; rw [if_neg c1, if_neg (show ¬ x < 0 by omega), if_pos c3]
  have HT : Hid ((addS (addS false y 0).2 x 0).2 = false) := by show _ = _; rw [tk_adds]; unfold tk; simp [hy, hx]
  have by1 := numB_bd hy
  have bx1 := numB_bd hx
  have ex : szw x = x := by rw [szw_of x hx]; unfold sz; rw [if_neg (show ¬ x < 0 by omega)]
  have ey : szw y = -y := by rw [szw_of y hy]; unfold sz; rw [if_pos c3]
  have HD : Hid (divS false (-y) (x) = (t, false)) := by
    show _ = _
    rw [← et]; unfold lowS highS; rw [if_neg c1, if_neg c1, ex, ey]
  rw [ex, ey] at c1
  have HZ : Hid _ := ez
  have x0 : (x == 0) = false := by simp; omega
  clear et ez ev hy hx ex ey
  go_enter Try.func15, Try.ntmps15
  go_wp2_with fail
  refine (rAdd_any b false y 0 w hw).mono ?_
  rintro e w1 ⟨rfl, h2, h3⟩
  have H3 : Hid _ := h3
  clear hw h3
  go_wp2_with fail
  refine (rAdd_any b _ x 0 w1 h2).mono ?_
  rintro e w2 ⟨rfl, h4, h5⟩
  have H5 : Hid _ := H3.out.trans h5
  rw [HT.out] at h4
  have H4 : Hid _ := h4
  have f1 := h4.cell
  clear h2 h4 h5 H3
  go_wp2_with fail
  refine (rDiv_any b false _ _ _ H4.out).mono ?_
  rintro e w3 ⟨rfl, h6, h7⟩
  rw [HD.out] at h6 ⊢
  have H6 : Hid _ := h6
  have H7 : Hid _ := H5.out.trans h7
  clear h6 h7 H5 H4 f1 HD HT
  go_wp2
  have HC : Hid _ := And.intro c1 (And.intro by1 (And.intro bx1 (And.intro z0 (And.intro z1 (And.intro c2 c3)))))
  clear c1 by1 bx1 z0 z1 t0 t1 c3 c2 x0
  go_loopw [9, 10] (fun v1 v8 wr => ∃ (t' k : Int) (bd : Bool), 0 ≤ k ∧ k ≤ 2 ∧ v1 = .int .i64 t' ∧ v8 = .int .i64 (2 - k) ∧ Hid (halvN k.toNat (t', bd) = halvN 2 (t, false)) ∧ Hid (Fl b bd wr) ∧ Hid (Kept b w wr)) (fun _ v8 _ => (2 - intOf v8).toNat)
  case atStart => exact ⟨t, 2, false, by omega, by omega, rfl, rfl, rfl, H6, H7⟩
  case round =>
    obtain ⟨t', k, bd, hk0, hk1, rfl, rfl, HR, HF, HK⟩ := hrel
    by_cases hk : 1 ≤ k
    · go_wp2_with fail
      refine (rMul_any b _ _ _ _ HF.out).mono ?_
      rintro e u0 ⟨rfl, f0, k0⟩
      have K0 : Hid _ := HK.out.trans k0
      clear k0
      go_wp2_with fail
      refine (rAdd_any b _ _ _ _ f0).mono ?_
      rintro e u1 ⟨rfl, f1, k1⟩
      have K1 : Hid _ := K0.out.trans k1
      clear k1 f0 K0
      go_wp2_with fail
      refine (rSqrt_any b _ _ _ f1).mono ?_
      rintro e u2 ⟨rfl, f2, k2⟩
      have K2 : Hid _ := K1.out.trans k2
      clear k2 f1 K1
      go_wp2_with fail
      refine (rAdd_any b _ _ _ _ f2).mono ?_
      rintro e u3 ⟨rfl, f3, k3⟩
      have K3 : Hid _ := K2.out.trans k3
      clear k3 f2 K2
      go_wp2_with fail
      refine (rDiv_any b _ _ _ _ f3).mono ?_
      rintro e u4 ⟨rfl, f4, k4⟩
      have K4 : Hid _ := K3.out.trans k4
      clear k4 f3 K3
      have HG : Hid _ := f4
      clear f4
      go_wp2
      refine ⟨⟨_, k - 1, _, by omega, by omega, rfl, by go_num, ?_, HG, K4⟩, by simp [intOf]; omega⟩
      exact halvN_round k (t', bd) _ hk HR.out
    · have HE : Hid (halvN 2 (t, false) = (t', bd)) := by show _ = _; have e := HR.out; rw [show k.toNat = 0 by omega] at e; exact e.symm
      go_wp2_with fail
      refine (rMul_any b bd _ _ wr HF.out).mono ?_
      rintro e w2 ⟨rfl, h4, h5⟩
      have H4 : Hid _ := h4
      have H5 : Hid _ := HK.out.trans h5
      clear h4 h5
      go_wp2
      have HU : Hid (arcV (t', bd) = arcSer (mulS bd t' t').1 13 (0, (mulS bd t' t').2)) := by rfl
      go_loopw [12, 13] (fun v6 v7 wr => ∃ (v n : Int) (be : Bool), -1 ≤ n ∧ n ≤ 12 ∧ v6 = .int .i64 v ∧ v7 = .int .i64 n ∧ Hid (arcSer (mulS bd t' t').1 (n + 1).toNat (v, be) = arcV (t', bd)) ∧ Hid (Fl b be wr) ∧ Hid (Kept b w wr)) (fun _ v7 _ => (intOf v7 + 1).toNat)
      case atStart => exact ⟨0, 12, (mulS bd t' t').2, by omega, by omega, rfl, rfl, HU.out.symm, H4, H5⟩
      case round =>
        obtain ⟨v, n, be, hn0, hn1, rfl, rfl, HR, HF, HK⟩ := hrel
        by_cases hn : 0 ≤ n
        · go_wp2_with fail
          refine (rPart_any b _ _ _ _ _ HF.out).mono ?_
          rintro e u0 ⟨rfl, f0, k0⟩
          have K0 : Hid _ := HK.out.trans k0
          clear k0
          go_wp2_with fail
          refine (rMul_any b _ _ _ _ f0).mono ?_
          rintro e u1 ⟨rfl, f1, k1⟩
          have K1 : Hid _ := K0.out.trans k1
          clear k1 f0 K0
          go_wp2_with fail
          refine (rSub_any b _ _ _ _ f1).mono ?_
          rintro e u2 ⟨rfl, f2, k2⟩
          have K2 : Hid _ := K1.out.trans k2
          clear k2 f1 K1
          have HG : Hid _ := f2
          clear f2
          go_wp2
          refine ⟨⟨_, n - 1, _, by omega, by omega, rfl, rfl, ?_, HG, K2⟩, by simp [intOf]; omega⟩
          rw [show n - 1 + 1 = n by omega]
          exact arcSer_round _ n (v, be) _ hn HR.out
        · have HM : Hid (mulS be t' v = (z, false)) := by
            show _ = _
            have e := HR.out; rw [show (n + 1).toNat = 0 by omega] at e
            have h := HZ.out; rw [HE.out] at h; unfold arcW at h; rw [← e] at h; exact h
          go_wp2_with fail
          refine (rMul_any b be _ _ _ HF.out).mono ?_
          rintro e w3 ⟨rfl, h4, h5⟩
          rw [HM.out] at h4 ⊢
          obtain ⟨c1, by1, bx1, z0, z1, c2, c3⟩ := HC.out
          have H4 : Hid _ := h4
          have H5 : Hid _ := HK.out.trans h5
          clear h4 h5
          go_wp2
          go_ret
          rw [HV.out]
          exact ⟨ret_int (by omega), H4.out, H5.out⟩

set_option maxRecDepth 100000 in
set_option maxHeartbeats 800000 in
theorem rAtan2_gn1 (b : Nat) (y x : Int) (w : World) (hy : numB y = true) (hx : numB x = true) (hw : Fl b false w) (c1 : szw x < szw y) (c2 : 0 < x) (c3 : 0 ≤ y) :
    Calls Try.prog 15 #[.pointer (some ⟨b, 0, none⟩), .int .i64 y, .int .i64 x] w fun e w' => e = .returned (.int .i64 (atanS false y x).1) ∧ Fl b (atanS false y x).2 w' ∧ Kept b w w' := by
  obtain ⟨t, z, et, ez, t0, t1, z0, z1, ev⟩ := atanS_yes hy hx (by omega)
  have HV : Hid (atanS false y x = (1727108826179 - 4 * z, false)) := by
    show _ = _
    rw [ev]; unfold fin; dsimp only; rw [if_pos c1, if_neg (show ¬ x < 0 by omega), if_neg (show ¬ y < 0 by omega)]
  have HT : Hid ((addS (addS false y 0).2 x 0).2 = false) := by show _ = _; rw [tk_adds]; unfold tk; simp [hy, hx]
  have by1 := numB_bd hy
  have bx1 := numB_bd hx
  have ex : szw x = x := by rw [szw_of x hx]; unfold sz; rw [if_neg (show ¬ x < 0 by omega)]
  have ey : szw y = y := by rw [szw_of y hy]; unfold sz; rw [if_neg (show ¬ y < 0 by omega)]
  have HD : Hid (divS false (x) (y) = (t, false)) := by
    show _ = _
    rw [← et]; unfold lowS highS; rw [if_pos c1, if_pos c1, ex, ey]
  rw [ex, ey] at c1
  have HZ : Hid _ := ez
  have x0 : (x == 0) = false := by simp; omega
  clear et ez ev hy hx ex ey
  go_enter Try.func15, Try.ntmps15
  go_wp2_with fail
  refine (rAdd_any b false y 0 w hw).mono ?_
  rintro e w1 ⟨rfl, h2, h3⟩
  have H3 : Hid _ := h3
  clear hw h3
  go_wp2_with fail
  refine (rAdd_any b _ x 0 w1 h2).mono ?_
  rintro e w2 ⟨rfl, h4, h5⟩
  have H5 : Hid _ := H3.out.trans h5
  rw [HT.out] at h4
  have H4 : Hid _ := h4
  have f1 := h4.cell
  clear h2 h4 h5 H3
  go_wp2_with fail
  refine (rDiv_any b false _ _ _ H4.out).mono ?_
  rintro e w3 ⟨rfl, h6, h7⟩
  rw [HD.out] at h6 ⊢
  have H6 : Hid _ := h6
  have H7 : Hid _ := H5.out.trans h7
  clear h6 h7 H5 H4 f1 HD HT
  go_wp2
  have HC : Hid _ := And.intro c1 (And.intro by1 (And.intro bx1 (And.intro z0 (And.intro z1 (And.intro c2 c3)))))
  clear c1 by1 bx1 z0 z1 t0 t1 c3 c2 x0
  go_loopw [9, 10] (fun v1 v8 wr => ∃ (t' k : Int) (bd : Bool), 0 ≤ k ∧ k ≤ 2 ∧ v1 = .int .i64 t' ∧ v8 = .int .i64 (2 - k) ∧ Hid (halvN k.toNat (t', bd) = halvN 2 (t, false)) ∧ Hid (Fl b bd wr) ∧ Hid (Kept b w wr)) (fun _ v8 _ => (2 - intOf v8).toNat)
  case atStart => exact ⟨t, 2, false, by omega, by omega, rfl, rfl, rfl, H6, H7⟩
  case round =>
    obtain ⟨t', k, bd, hk0, hk1, rfl, rfl, HR, HF, HK⟩ := hrel
    by_cases hk : 1 ≤ k
    · go_wp2_with fail
      refine (rMul_any b _ _ _ _ HF.out).mono ?_
      rintro e u0 ⟨rfl, f0, k0⟩
      have K0 : Hid _ := HK.out.trans k0
      clear k0
      go_wp2_with fail
      refine (rAdd_any b _ _ _ _ f0).mono ?_
      rintro e u1 ⟨rfl, f1, k1⟩
      have K1 : Hid _ := K0.out.trans k1
      clear k1 f0 K0
      go_wp2_with fail
      refine (rSqrt_any b _ _ _ f1).mono ?_
      rintro e u2 ⟨rfl, f2, k2⟩
      have K2 : Hid _ := K1.out.trans k2
      clear k2 f1 K1
      go_wp2_with fail
      refine (rAdd_any b _ _ _ _ f2).mono ?_
      rintro e u3 ⟨rfl, f3, k3⟩
      have K3 : Hid _ := K2.out.trans k3
      clear k3 f2 K2
      go_wp2_with fail
      refine (rDiv_any b _ _ _ _ f3).mono ?_
      rintro e u4 ⟨rfl, f4, k4⟩
      have K4 : Hid _ := K3.out.trans k4
      clear k4 f3 K3
      have HG : Hid _ := f4
      clear f4
      go_wp2
      refine ⟨⟨_, k - 1, _, by omega, by omega, rfl, by go_num, ?_, HG, K4⟩, by simp [intOf]; omega⟩
      exact halvN_round k (t', bd) _ hk HR.out
    · have HE : Hid (halvN 2 (t, false) = (t', bd)) := by show _ = _; have e := HR.out; rw [show k.toNat = 0 by omega] at e; exact e.symm
      go_wp2_with fail
      refine (rMul_any b bd _ _ wr HF.out).mono ?_
      rintro e w2 ⟨rfl, h4, h5⟩
      have H4 : Hid _ := h4
      have H5 : Hid _ := HK.out.trans h5
      clear h4 h5
      go_wp2
      have HU : Hid (arcV (t', bd) = arcSer (mulS bd t' t').1 13 (0, (mulS bd t' t').2)) := by rfl
      go_loopw [12, 13] (fun v6 v7 wr => ∃ (v n : Int) (be : Bool), -1 ≤ n ∧ n ≤ 12 ∧ v6 = .int .i64 v ∧ v7 = .int .i64 n ∧ Hid (arcSer (mulS bd t' t').1 (n + 1).toNat (v, be) = arcV (t', bd)) ∧ Hid (Fl b be wr) ∧ Hid (Kept b w wr)) (fun _ v7 _ => (intOf v7 + 1).toNat)
      case atStart => exact ⟨0, 12, (mulS bd t' t').2, by omega, by omega, rfl, rfl, HU.out.symm, H4, H5⟩
      case round =>
        obtain ⟨v, n, be, hn0, hn1, rfl, rfl, HR, HF, HK⟩ := hrel
        by_cases hn : 0 ≤ n
        · go_wp2_with fail
          refine (rPart_any b _ _ _ _ _ HF.out).mono ?_
          rintro e u0 ⟨rfl, f0, k0⟩
          have K0 : Hid _ := HK.out.trans k0
          clear k0
          go_wp2_with fail
          refine (rMul_any b _ _ _ _ f0).mono ?_
          rintro e u1 ⟨rfl, f1, k1⟩
          have K1 : Hid _ := K0.out.trans k1
          clear k1 f0 K0
          go_wp2_with fail
          refine (rSub_any b _ _ _ _ f1).mono ?_
          rintro e u2 ⟨rfl, f2, k2⟩
          have K2 : Hid _ := K1.out.trans k2
          clear k2 f1 K1
          have HG : Hid _ := f2
          clear f2
          go_wp2
          refine ⟨⟨_, n - 1, _, by omega, by omega, rfl, rfl, ?_, HG, K2⟩, by simp [intOf]; omega⟩
          rw [show n - 1 + 1 = n by omega]
          exact arcSer_round _ n (v, be) _ hn HR.out
        · have HM : Hid (mulS be t' v = (z, false)) := by
            show _ = _
            have e := HR.out; rw [show (n + 1).toNat = 0 by omega] at e
            have h := HZ.out; rw [HE.out] at h; unfold arcW at h; rw [← e] at h; exact h
          go_wp2_with fail
          refine (rMul_any b be _ _ _ HF.out).mono ?_
          rintro e w3 ⟨rfl, h4, h5⟩
          rw [HM.out] at h4 ⊢
          obtain ⟨c1, by1, bx1, z0, z1, c2, c3⟩ := HC.out
          have H4 : Hid _ := h4
          have H5 : Hid _ := HK.out.trans h5
          clear h4 h5
          go_wp2
          go_ret
          rw [HV.out]
          exact ⟨ret_int (by omega), H4.out, H5.out⟩

set_option maxRecDepth 100000 in
set_option maxHeartbeats 800000 in
theorem rAtan2_gn0 (b : Nat) (y x : Int) (w : World) (hy : numB y = true) (hx : numB x = true) (hw : Fl b false w) (c1 : ¬ szw x < szw y) (c2 : 0 < x) (c3 : 0 ≤ y) :
    Calls Try.prog 15 #[.pointer (some ⟨b, 0, none⟩), .int .i64 y, .int .i64 x] w fun e w' => e = .returned (.int .i64 (atanS false y x).1) ∧ Fl b (atanS false y x).2 w' ∧ Kept b w w' := by
  obtain ⟨t, z, et, ez, t0, t1, z0, z1, ev⟩ := atanS_yes hy hx (by omega)
  have HV : Hid (atanS false y x = (4 * z, false)) := by
    show _ = _
    rw [ev]; unfold fin; dsimp only; rw [if_neg c1, if_neg (show ¬ x < 0 by omega), if_neg (show ¬ y < 0 by omega)]
  have HT : Hid ((addS (addS false y 0).2 x 0).2 = false) := by show _ = _; rw [tk_adds]; unfold tk; simp [hy, hx]
  have by1 := numB_bd hy
  have bx1 := numB_bd hx
  have ex : szw x = x := by rw [szw_of x hx]; unfold sz; rw [if_neg (show ¬ x < 0 by omega)]
  have ey : szw y = y := by rw [szw_of y hy]; unfold sz; rw [if_neg (show ¬ y < 0 by omega)]
  have HD : Hid (divS false (y) (x) = (t, false)) := by
    show _ = _
    rw [← et]; unfold lowS highS; rw [if_neg c1, if_neg c1, ex, ey]
  rw [ex, ey] at c1
  have HZ : Hid _ := ez
  have x0 : (x == 0) = false := by simp; omega
  clear et ez ev hy hx ex ey
  go_enter Try.func15, Try.ntmps15
  go_wp2_with fail
  refine (rAdd_any b false y 0 w hw).mono ?_
  rintro e w1 ⟨rfl, h2, h3⟩
  have H3 : Hid _ := h3
  clear hw h3
  go_wp2_with fail
  refine (rAdd_any b _ x 0 w1 h2).mono ?_
  rintro e w2 ⟨rfl, h4, h5⟩
  have H5 : Hid _ := H3.out.trans h5
  rw [HT.out] at h4
  have H4 : Hid _ := h4
  have f1 := h4.cell
  clear h2 h4 h5 H3
  go_wp2_with fail
  refine (rDiv_any b false _ _ _ H4.out).mono ?_
  rintro e w3 ⟨rfl, h6, h7⟩
  rw [HD.out] at h6 ⊢
  have H6 : Hid _ := h6
  have H7 : Hid _ := H5.out.trans h7
  clear h6 h7 H5 H4 f1 HD HT
  go_wp2
  have HC : Hid _ := And.intro c1 (And.intro by1 (And.intro bx1 (And.intro z0 (And.intro z1 (And.intro c2 c3)))))
  clear c1 by1 bx1 z0 z1 t0 t1 c3 c2 x0
  go_loopw [9, 10] (fun v1 v8 wr => ∃ (t' k : Int) (bd : Bool), 0 ≤ k ∧ k ≤ 2 ∧ v1 = .int .i64 t' ∧ v8 = .int .i64 (2 - k) ∧ Hid (halvN k.toNat (t', bd) = halvN 2 (t, false)) ∧ Hid (Fl b bd wr) ∧ Hid (Kept b w wr)) (fun _ v8 _ => (2 - intOf v8).toNat)
  case atStart => exact ⟨t, 2, false, by omega, by omega, rfl, rfl, rfl, H6, H7⟩
  case round =>
    obtain ⟨t', k, bd, hk0, hk1, rfl, rfl, HR, HF, HK⟩ := hrel
    by_cases hk : 1 ≤ k
    · go_wp2_with fail
      refine (rMul_any b _ _ _ _ HF.out).mono ?_
      rintro e u0 ⟨rfl, f0, k0⟩
      have K0 : Hid _ := HK.out.trans k0
      clear k0
      go_wp2_with fail
      refine (rAdd_any b _ _ _ _ f0).mono ?_
      rintro e u1 ⟨rfl, f1, k1⟩
      have K1 : Hid _ := K0.out.trans k1
      clear k1 f0 K0
      go_wp2_with fail
      refine (rSqrt_any b _ _ _ f1).mono ?_
      rintro e u2 ⟨rfl, f2, k2⟩
      have K2 : Hid _ := K1.out.trans k2
      clear k2 f1 K1
      go_wp2_with fail
      refine (rAdd_any b _ _ _ _ f2).mono ?_
      rintro e u3 ⟨rfl, f3, k3⟩
      have K3 : Hid _ := K2.out.trans k3
      clear k3 f2 K2
      go_wp2_with fail
      refine (rDiv_any b _ _ _ _ f3).mono ?_
      rintro e u4 ⟨rfl, f4, k4⟩
      have K4 : Hid _ := K3.out.trans k4
      clear k4 f3 K3
      have HG : Hid _ := f4
      clear f4
      go_wp2
      refine ⟨⟨_, k - 1, _, by omega, by omega, rfl, by go_num, ?_, HG, K4⟩, by simp [intOf]; omega⟩
      exact halvN_round k (t', bd) _ hk HR.out
    · have HE : Hid (halvN 2 (t, false) = (t', bd)) := by show _ = _; have e := HR.out; rw [show k.toNat = 0 by omega] at e; exact e.symm
      go_wp2_with fail
      refine (rMul_any b bd _ _ wr HF.out).mono ?_
      rintro e w2 ⟨rfl, h4, h5⟩
      have H4 : Hid _ := h4
      have H5 : Hid _ := HK.out.trans h5
      clear h4 h5
      go_wp2
      have HU : Hid (arcV (t', bd) = arcSer (mulS bd t' t').1 13 (0, (mulS bd t' t').2)) := by rfl
      go_loopw [12, 13] (fun v6 v7 wr => ∃ (v n : Int) (be : Bool), -1 ≤ n ∧ n ≤ 12 ∧ v6 = .int .i64 v ∧ v7 = .int .i64 n ∧ Hid (arcSer (mulS bd t' t').1 (n + 1).toNat (v, be) = arcV (t', bd)) ∧ Hid (Fl b be wr) ∧ Hid (Kept b w wr)) (fun _ v7 _ => (intOf v7 + 1).toNat)
      case atStart => exact ⟨0, 12, (mulS bd t' t').2, by omega, by omega, rfl, rfl, HU.out.symm, H4, H5⟩
      case round =>
        obtain ⟨v, n, be, hn0, hn1, rfl, rfl, HR, HF, HK⟩ := hrel
        by_cases hn : 0 ≤ n
        · go_wp2_with fail
          refine (rPart_any b _ _ _ _ _ HF.out).mono ?_
          rintro e u0 ⟨rfl, f0, k0⟩
          have K0 : Hid _ := HK.out.trans k0
          clear k0
          go_wp2_with fail
          refine (rMul_any b _ _ _ _ f0).mono ?_
          rintro e u1 ⟨rfl, f1, k1⟩
          have K1 : Hid _ := K0.out.trans k1
          clear k1 f0 K0
          go_wp2_with fail
          refine (rSub_any b _ _ _ _ f1).mono ?_
          rintro e u2 ⟨rfl, f2, k2⟩
          have K2 : Hid _ := K1.out.trans k2
          clear k2 f1 K1
          have HG : Hid _ := f2
          clear f2
          go_wp2
          refine ⟨⟨_, n - 1, _, by omega, by omega, rfl, rfl, ?_, HG, K2⟩, by simp [intOf]; omega⟩
          rw [show n - 1 + 1 = n by omega]
          exact arcSer_round _ n (v, be) _ hn HR.out
        · have HM : Hid (mulS be t' v = (z, false)) := by
            show _ = _
            have e := HR.out; rw [show (n + 1).toNat = 0 by omega] at e
            have h := HZ.out; rw [HE.out] at h; unfold arcW at h; rw [← e] at h; exact h
          go_wp2_with fail
          refine (rMul_any b be _ _ _ HF.out).mono ?_
          rintro e w3 ⟨rfl, h4, h5⟩
          rw [HM.out] at h4 ⊢
          obtain ⟨c1, by1, bx1, z0, z1, c2, c3⟩ := HC.out
          have H4 : Hid _ := h4
          have H5 : Hid _ := HK.out.trans h5
          clear h4 h5
          go_wp2
          go_ret
          rw [HV.out]
          exact ⟨ret_int (by omega), H4.out, H5.out⟩

set_option maxRecDepth 100000 in
set_option maxHeartbeats 800000 in
theorem rAtan2_zl1 (b : Nat) (y x : Int) (w : World) (hy : numB y = true) (hx : numB x = true) (hw : Fl b false w) (c1 : szw x < szw y) (c2 : x = 0) (c3 : y < 0) :
    Calls Try.prog 15 #[.pointer (some ⟨b, 0, none⟩), .int .i64 y, .int .i64 x] w fun e w' => e = .returned (.int .i64 (atanS false y x).1) ∧ Fl b (atanS false y x).2 w' ∧ Kept b w w' := by
  obtain ⟨t, z, et, ez, t0, t1, z0, z1, ev⟩ := atanS_yes hy hx (by omega)
  have HV : Hid (atanS false y x = (-(1727108826179 - 4 * z), false)) := by
    show _ = _
    rw [ev]; unfold fin; dsimp only; rw [if_pos c1, if_neg (show ¬ x < 0 by omega), if_pos c3]
  have HT : Hid ((addS (addS false y 0).2 x 0).2 = false) := by show _ = _; rw [tk_adds]; unfold tk; simp [hy, hx]
  have by1 := numB_bd hy
  have bx1 := numB_bd hx
  have ex : szw x = 0 := by rw [szw_of x hx]; unfold sz; rw [if_neg (show ¬ x < 0 by omega)]; exact c2
  have ey : szw y = -y := by rw [szw_of y hy]; unfold sz; rw [if_pos c3]
  have HD : Hid (divS false (0) (-y) = (t, false)) := by
    show _ = _
    rw [← et]; unfold lowS highS; rw [if_pos c1, if_pos c1, ex, ey]
  rw [ex, ey] at c1
  have HZ : Hid _ := ez
  have y0 : (y == 0) = false := by simp; omega
  subst c2
  clear et ez ev hy hx ex ey
  go_enter Try.func15, Try.ntmps15
  go_wp2_with fail
  refine (rAdd_any b false y 0 w hw).mono ?_
  rintro e w1 ⟨rfl, h2, h3⟩
  have H3 : Hid _ := h3
  clear hw h3
  go_wp2_with fail
  refine (rAdd_any b _ 0 0 w1 h2).mono ?_
  rintro e w2 ⟨rfl, h4, h5⟩
  have H5 : Hid _ := H3.out.trans h5
  rw [HT.out] at h4
  have H4 : Hid _ := h4
  have f1 := h4.cell
  clear h2 h4 h5 H3
  go_wp2_with fail
  refine (rDiv_any b false _ _ _ H4.out).mono ?_
  rintro e w3 ⟨rfl, h6, h7⟩
  rw [HD.out] at h6 ⊢
  have H6 : Hid _ := h6
  have H7 : Hid _ := H5.out.trans h7
  clear h6 h7 H5 H4 f1 HD HT
  go_wp2
  have HC : Hid _ := And.intro c1 (And.intro by1 (And.intro bx1 (And.intro z0 (And.intro z1 (And.intro c3 c3)))))
  clear c1 by1 bx1 z0 z1 t0 t1 c3 y0
  go_loopw [9, 10] (fun v1 v8 wr => ∃ (t' k : Int) (bd : Bool), 0 ≤ k ∧ k ≤ 2 ∧ v1 = .int .i64 t' ∧ v8 = .int .i64 (2 - k) ∧ Hid (halvN k.toNat (t', bd) = halvN 2 (t, false)) ∧ Hid (Fl b bd wr) ∧ Hid (Kept b w wr)) (fun _ v8 _ => (2 - intOf v8).toNat)
  case atStart => exact ⟨t, 2, false, by omega, by omega, rfl, rfl, rfl, H6, H7⟩
  case round =>
    obtain ⟨t', k, bd, hk0, hk1, rfl, rfl, HR, HF, HK⟩ := hrel
    by_cases hk : 1 ≤ k
    · go_wp2_with fail
      refine (rMul_any b _ _ _ _ HF.out).mono ?_
      rintro e u0 ⟨rfl, f0, k0⟩
      have K0 : Hid _ := HK.out.trans k0
      clear k0
      go_wp2_with fail
      refine (rAdd_any b _ _ _ _ f0).mono ?_
      rintro e u1 ⟨rfl, f1, k1⟩
      have K1 : Hid _ := K0.out.trans k1
      clear k1 f0 K0
      go_wp2_with fail
      refine (rSqrt_any b _ _ _ f1).mono ?_
      rintro e u2 ⟨rfl, f2, k2⟩
      have K2 : Hid _ := K1.out.trans k2
      clear k2 f1 K1
      go_wp2_with fail
      refine (rAdd_any b _ _ _ _ f2).mono ?_
      rintro e u3 ⟨rfl, f3, k3⟩
      have K3 : Hid _ := K2.out.trans k3
      clear k3 f2 K2
      go_wp2_with fail
      refine (rDiv_any b _ _ _ _ f3).mono ?_
      rintro e u4 ⟨rfl, f4, k4⟩
      have K4 : Hid _ := K3.out.trans k4
      clear k4 f3 K3
      have HG : Hid _ := f4
      clear f4
      go_wp2
      refine ⟨⟨_, k - 1, _, by omega, by omega, rfl, by go_num, ?_, HG, K4⟩, by simp [intOf]; omega⟩
      exact halvN_round k (t', bd) _ hk HR.out
    · have HE : Hid (halvN 2 (t, false) = (t', bd)) := by show _ = _; have e := HR.out; rw [show k.toNat = 0 by omega] at e; exact e.symm
      go_wp2_with fail
      refine (rMul_any b bd _ _ wr HF.out).mono ?_
      rintro e w2 ⟨rfl, h4, h5⟩
      have H4 : Hid _ := h4
      have H5 : Hid _ := HK.out.trans h5
      clear h4 h5
      go_wp2
      have HU : Hid (arcV (t', bd) = arcSer (mulS bd t' t').1 13 (0, (mulS bd t' t').2)) := by rfl
      go_loopw [12, 13] (fun v6 v7 wr => ∃ (v n : Int) (be : Bool), -1 ≤ n ∧ n ≤ 12 ∧ v6 = .int .i64 v ∧ v7 = .int .i64 n ∧ Hid (arcSer (mulS bd t' t').1 (n + 1).toNat (v, be) = arcV (t', bd)) ∧ Hid (Fl b be wr) ∧ Hid (Kept b w wr)) (fun _ v7 _ => (intOf v7 + 1).toNat)
      case atStart => exact ⟨0, 12, (mulS bd t' t').2, by omega, by omega, rfl, rfl, HU.out.symm, H4, H5⟩
      case round =>
        obtain ⟨v, n, be, hn0, hn1, rfl, rfl, HR, HF, HK⟩ := hrel
        by_cases hn : 0 ≤ n
        · go_wp2_with fail
          refine (rPart_any b _ _ _ _ _ HF.out).mono ?_
          rintro e u0 ⟨rfl, f0, k0⟩
          have K0 : Hid _ := HK.out.trans k0
          clear k0
          go_wp2_with fail
          refine (rMul_any b _ _ _ _ f0).mono ?_
          rintro e u1 ⟨rfl, f1, k1⟩
          have K1 : Hid _ := K0.out.trans k1
          clear k1 f0 K0
          go_wp2_with fail
          refine (rSub_any b _ _ _ _ f1).mono ?_
          rintro e u2 ⟨rfl, f2, k2⟩
          have K2 : Hid _ := K1.out.trans k2
          clear k2 f1 K1
          have HG : Hid _ := f2
          clear f2
          go_wp2
          refine ⟨⟨_, n - 1, _, by omega, by omega, rfl, rfl, ?_, HG, K2⟩, by simp [intOf]; omega⟩
          rw [show n - 1 + 1 = n by omega]
          exact arcSer_round _ n (v, be) _ hn HR.out
        · have HM : Hid (mulS be t' v = (z, false)) := by
            show _ = _
            have e := HR.out; rw [show (n + 1).toNat = 0 by omega] at e
            have h := HZ.out; rw [HE.out] at h; unfold arcW at h; rw [← e] at h; exact h
          go_wp2_with fail
          refine (rMul_any b be _ _ _ HF.out).mono ?_
          rintro e w3 ⟨rfl, h4, h5⟩
          rw [HM.out] at h4 ⊢
          obtain ⟨c1, by1, bx1, z0, z1, c2, c3⟩ := HC.out
          have H4 : Hid _ := h4
          have H5 : Hid _ := HK.out.trans h5
          clear h4 h5
          go_wp2
          go_ret
          rw [HV.out]
          exact ⟨ret_int (by omega), H4.out, H5.out⟩

set_option maxRecDepth 100000 in
set_option maxHeartbeats 800000 in
theorem rAtan2_zg1 (b : Nat) (y x : Int) (w : World) (hy : numB y = true) (hx : numB x = true) (hw : Fl b false w) (c1 : szw x < szw y) (c2 : x = 0) (c3 : 0 < y) :
    Calls Try.prog 15 #[.pointer (some ⟨b, 0, none⟩), .int .i64 y, .int .i64 x] w fun e w' => e = .returned (.int .i64 (atanS false y x).1) ∧ Fl b (atanS false y x).2 w' ∧ Kept b w w' := by
  obtain ⟨t, z, et, ez, t0, t1, z0, z1, ev⟩ := atanS_yes hy hx (by omega)
  have HV : Hid (atanS false y x = (1727108826179 - 4 * z, false)) := by
    show _ = _
    rw [ev]; unfold fin; dsimp only; rw [if_pos c1, if_neg (show ¬ x < 0 by omega), if_neg (show ¬ y < 0 by omega)]
  have HT : Hid ((addS (addS false y 0).2 x 0).2 = false) := by show _ = _; rw [tk_adds]; unfold tk; simp [hy, hx]
  have by1 := numB_bd hy
  have bx1 := numB_bd hx
  have ex : szw x = 0 := by rw [szw_of x hx]; unfold sz; rw [if_neg (show ¬ x < 0 by omega)]; exact c2
  have ey : szw y = y := by rw [szw_of y hy]; unfold sz; rw [if_neg (show ¬ y < 0 by omega)]
  have HD : Hid (divS false (0) (y) = (t, false)) := by
    show _ = _
    rw [← et]; unfold lowS highS; rw [if_pos c1, if_pos c1, ex, ey]
  rw [ex, ey] at c1
  have HZ : Hid _ := ez
  have y0 : (y == 0) = false := by simp; omega
  subst c2
  clear et ez ev hy hx ex ey
  go_enter Try.func15, Try.ntmps15
  go_wp2_with fail
  refine (rAdd_any b false y 0 w hw).mono ?_
  rintro e w1 ⟨rfl, h2, h3⟩
  have H3 : Hid _ := h3
  clear hw h3
  go_wp2_with fail
  refine (rAdd_any b _ 0 0 w1 h2).mono ?_
  rintro e w2 ⟨rfl, h4, h5⟩
  have H5 : Hid _ := H3.out.trans h5
  rw [HT.out] at h4
  have H4 : Hid _ := h4
  have f1 := h4.cell
  clear h2 h4 h5 H3
  go_wp2_with fail
  refine (rDiv_any b false _ _ _ H4.out).mono ?_
  rintro e w3 ⟨rfl, h6, h7⟩
  rw [HD.out] at h6 ⊢
  have H6 : Hid _ := h6
  have H7 : Hid _ := H5.out.trans h7
  clear h6 h7 H5 H4 f1 HD HT
  go_wp2
  have HC : Hid _ := And.intro c1 (And.intro by1 (And.intro bx1 (And.intro z0 (And.intro z1 (And.intro c3 c3)))))
  clear c1 by1 bx1 z0 z1 t0 t1 c3 y0
  go_loopw [9, 10] (fun v1 v8 wr => ∃ (t' k : Int) (bd : Bool), 0 ≤ k ∧ k ≤ 2 ∧ v1 = .int .i64 t' ∧ v8 = .int .i64 (2 - k) ∧ Hid (halvN k.toNat (t', bd) = halvN 2 (t, false)) ∧ Hid (Fl b bd wr) ∧ Hid (Kept b w wr)) (fun _ v8 _ => (2 - intOf v8).toNat)
  case atStart => exact ⟨t, 2, false, by omega, by omega, rfl, rfl, rfl, H6, H7⟩
  case round =>
    obtain ⟨t', k, bd, hk0, hk1, rfl, rfl, HR, HF, HK⟩ := hrel
    by_cases hk : 1 ≤ k
    · go_wp2_with fail
      refine (rMul_any b _ _ _ _ HF.out).mono ?_
      rintro e u0 ⟨rfl, f0, k0⟩
      have K0 : Hid _ := HK.out.trans k0
      clear k0
      go_wp2_with fail
      refine (rAdd_any b _ _ _ _ f0).mono ?_
      rintro e u1 ⟨rfl, f1, k1⟩
      have K1 : Hid _ := K0.out.trans k1
      clear k1 f0 K0
      go_wp2_with fail
      refine (rSqrt_any b _ _ _ f1).mono ?_
      rintro e u2 ⟨rfl, f2, k2⟩
      have K2 : Hid _ := K1.out.trans k2
      clear k2 f1 K1
      go_wp2_with fail
      refine (rAdd_any b _ _ _ _ f2).mono ?_
      rintro e u3 ⟨rfl, f3, k3⟩
      have K3 : Hid _ := K2.out.trans k3
      clear k3 f2 K2
      go_wp2_with fail
      refine (rDiv_any b _ _ _ _ f3).mono ?_
      rintro e u4 ⟨rfl, f4, k4⟩
      have K4 : Hid _ := K3.out.trans k4
      clear k4 f3 K3
      have HG : Hid _ := f4
      clear f4
      go_wp2
      refine ⟨⟨_, k - 1, _, by omega, by omega, rfl, by go_num, ?_, HG, K4⟩, by simp [intOf]; omega⟩
      exact halvN_round k (t', bd) _ hk HR.out
    · have HE : Hid (halvN 2 (t, false) = (t', bd)) := by show _ = _; have e := HR.out; rw [show k.toNat = 0 by omega] at e; exact e.symm
      go_wp2_with fail
      refine (rMul_any b bd _ _ wr HF.out).mono ?_
      rintro e w2 ⟨rfl, h4, h5⟩
      have H4 : Hid _ := h4
      have H5 : Hid _ := HK.out.trans h5
      clear h4 h5
      go_wp2
      have HU : Hid (arcV (t', bd) = arcSer (mulS bd t' t').1 13 (0, (mulS bd t' t').2)) := by rfl
      go_loopw [12, 13] (fun v6 v7 wr => ∃ (v n : Int) (be : Bool), -1 ≤ n ∧ n ≤ 12 ∧ v6 = .int .i64 v ∧ v7 = .int .i64 n ∧ Hid (arcSer (mulS bd t' t').1 (n + 1).toNat (v, be) = arcV (t', bd)) ∧ Hid (Fl b be wr) ∧ Hid (Kept b w wr)) (fun _ v7 _ => (intOf v7 + 1).toNat)
      case atStart => exact ⟨0, 12, (mulS bd t' t').2, by omega, by omega, rfl, rfl, HU.out.symm, H4, H5⟩
      case round =>
        obtain ⟨v, n, be, hn0, hn1, rfl, rfl, HR, HF, HK⟩ := hrel
        by_cases hn : 0 ≤ n
        · go_wp2_with fail
          refine (rPart_any b _ _ _ _ _ HF.out).mono ?_
          rintro e u0 ⟨rfl, f0, k0⟩
          have K0 : Hid _ := HK.out.trans k0
          clear k0
          go_wp2_with fail
          refine (rMul_any b _ _ _ _ f0).mono ?_
          rintro e u1 ⟨rfl, f1, k1⟩
          have K1 : Hid _ := K0.out.trans k1
          clear k1 f0 K0
          go_wp2_with fail
          refine (rSub_any b _ _ _ _ f1).mono ?_
          rintro e u2 ⟨rfl, f2, k2⟩
          have K2 : Hid _ := K1.out.trans k2
          clear k2 f1 K1
          have HG : Hid _ := f2
          clear f2
          go_wp2
          refine ⟨⟨_, n - 1, _, by omega, by omega, rfl, rfl, ?_, HG, K2⟩, by simp [intOf]; omega⟩
          rw [show n - 1 + 1 = n by omega]
          exact arcSer_round _ n (v, be) _ hn HR.out
        · have HM : Hid (mulS be t' v = (z, false)) := by
            show _ = _
            have e := HR.out; rw [show (n + 1).toNat = 0 by omega] at e
            have h := HZ.out; rw [HE.out] at h; unfold arcW at h; rw [← e] at h; exact h
          go_wp2_with fail
          refine (rMul_any b be _ _ _ HF.out).mono ?_
          rintro e w3 ⟨rfl, h4, h5⟩
          rw [HM.out] at h4 ⊢
          obtain ⟨c1, by1, bx1, z0, z1, c2, c3⟩ := HC.out
          have H4 : Hid _ := h4
          have H5 : Hid _ := HK.out.trans h5
          clear h4 h5
          go_wp2
          go_ret
          rw [HV.out]
          exact ⟨ret_int (by omega), H4.out, H5.out⟩

theorem rAtan2_any (b : Nat) (bad : Bool) (y x : Int) (w : World) (hy : -9223372036854775808 ≤ y ∧ y ≤ 9223372036854775807) (hx : -9223372036854775808 ≤ x ∧ x ≤ 9223372036854775807) (hw : Fl b bad w) :
    Calls Try.prog 15 #[.pointer (some ⟨b, 0, none⟩), .int .i64 y, .int .i64 x] w fun e w' => e = .returned (.int .i64 (atanS bad y x).1) ∧ Fl b (atanS bad y x).2 w' ∧ Kept b w w' := by
  cases h : tk bad [y, x]
  · exact rAtan2_no b bad y x w hy hx hw h
  · obtain ⟨rfl, ny, nx⟩ := tk_two h
    by_cases x0 : x = 0
    · by_cases y0 : y = 0
      · subst x0 y0
        exact rAtan2_zero b w hw
      · have c1 : szw x < szw y := by
          rw [szw_of x nx, szw_of y ny, x0, show sz 0 = 0 by rfl]
          unfold sz
          split <;> omega
        by_cases y1 : y < 0
        · exact rAtan2_zl1 b y x w ny nx hw c1 x0 y1
        · exact rAtan2_zg1 b y x w ny nx hw c1 x0 (by omega)
    · by_cases c1 : szw x < szw y
      · by_cases x1 : x < 0
        · by_cases y1 : y < 0
          · exact rAtan2_ll1 b y x w ny nx hw c1 x1 y1
          · exact rAtan2_ln1 b y x w ny nx hw c1 x1 (by omega)
        · by_cases y1 : y < 0
          · exact rAtan2_gl1 b y x w ny nx hw c1 (by omega) y1
          · exact rAtan2_gn1 b y x w ny nx hw c1 (by omega) (by omega)
      · by_cases x1 : x < 0
        · by_cases y1 : y < 0
          · exact rAtan2_ll0 b y x w ny nx hw c1 x1 y1
          · exact rAtan2_ln0 b y x w ny nx hw c1 x1 (by omega)
        · by_cases y1 : y < 0
          · exact rAtan2_gl0 b y x w ny nx hw c1 (by omega) y1
          · exact rAtan2_gn0 b y x w ny nx hw c1 (by omega) (by omega)
end Go.Proofs.Ytndimdodendonaa
