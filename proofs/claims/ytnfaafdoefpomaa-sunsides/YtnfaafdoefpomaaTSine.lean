/-
  The walks of package trig's series (sine, cosine), for the seat Ytnfaafdoefpomaa.
-/
import Derived.Test.YtnfaafdoefpomaaMeth
import Derived.Test.YtnfaafdoefpomaaTMath
import Derived.Handy
namespace Go.Proofs.Ytnfaafdoefpomaa
open Go.RowKit

set_option maxHeartbeats 400000 in
theorem sine_any (b : Nat) (bad : Bool) (t : Int) (w : World) (hw : Fl b bad w) :
    Calls Try.prog 47 #[.pointer (some ⟨b, 0, none⟩), .int .i64 t] w fun e w' => e = .returned (.int .i64 (sinS bad t).1) ∧ Fl b (sinS bad t).2 w' ∧ Kept b w w' := by
  go_enter Try.func47, Try.ntmps47
  go_wp2_with fail
  refine (Mul_any b bad t t w hw).mono ?_
  rintro e w1 ⟨rfl, h2, h3⟩
  have H2 : Hid _ := h2
  have H3 : Hid _ := h3
  clear h2 h3 hw
  go_wp2
  go_loopw [6, 7] (fun v6 v7 wr => ∃ (v n : Int) (bd : Bool), 0 ≤ n ∧ n ≤ 10 ∧ v6 = .int .i64 v ∧ v7 = .int .i64 n ∧ Hid (serS dSin (mulS bad t t).1 n.toNat (v, bd) = sinV bad t) ∧ Hid (Fl b bd wr) ∧ Hid (Kept b w wr)) (fun _ v7 _ => (intOf v7).toNat)
  case atStart => exact ⟨1099511627776, 10, (mulS bad t t).2, by omega, by omega, rfl, rfl, rfl, H2, H3⟩
  case round =>
    obtain ⟨v, n, bd, hn0, hn1, rfl, rfl, HR, HF, HK⟩ := hrel
    by_cases hn : 1 ≤ n
    · have HD : Hid _ := dSin_wrap n ⟨hn, hn1⟩
      go_wp2_with fail
      refine (Mul_any b bd _ _ wr HF.out).mono ?_
      rintro e w2 ⟨rfl, h4, h5⟩
      have H5 : Hid _ := HK.out.trans h5
      clear h5
      go_wp2_with fail
      refine (Part_any b _ _ _ _ w2 h4).mono ?_
      rintro e w3 ⟨rfl, h6, h7⟩
      have H7 : Hid _ := H5.out.trans h7
      clear h4 h7 H5
      go_wp2_with fail
      refine (Sub_any b _ _ _ w3 h6).mono ?_
      rintro e w4 ⟨rfl, h8, h9⟩
      have H8 : Hid _ := h8
      have H9 : Hid _ := H7.out.trans h9
      clear h6 h8 h9 H7
      go_wp2
      rw [HD.out] at H8 ⊢
      refine ⟨⟨_, n - 1, _, by omega, by omega, rfl, rfl, ?_, H8, H9⟩, by simp [intOf]; omega⟩
      exact serS_round dSin _ n (v, bd) _ hn HR.out
    · have HE : Hid (sinV bad t = (v, bd)) := by show _ = _; have e := HR.out; rw [show n.toNat = 0 by omega] at e; exact e.symm
      go_wp2_with fail
      refine (Mul_any b bd _ _ wr HF.out).mono ?_
      rintro e w2 ⟨rfl, h4, h5⟩
      have H4 : Hid _ := h4
      have H5 : Hid _ := HK.out.trans h5
      clear h4 h5
      go_wp2
      go_ret
      unfold sinS
      rw [HE.out]
      exact ⟨rfl, H4.out, H5.out⟩

set_option maxHeartbeats 400000 in
theorem cosine_any (b : Nat) (bad : Bool) (t : Int) (w : World) (hw : Fl b bad w) :
    Calls Try.prog 48 #[.pointer (some ⟨b, 0, none⟩), .int .i64 t] w fun e w' => e = .returned (.int .i64 (cosS bad t).1) ∧ Fl b (cosS bad t).2 w' ∧ Kept b w w' := by
  go_enter Try.func48, Try.ntmps48
  go_wp2_with fail
  refine (Mul_any b bad t t w hw).mono ?_
  rintro e w1 ⟨rfl, h2, h3⟩
  have H2 : Hid _ := h2
  have H3 : Hid _ := h3
  clear h2 h3 hw
  go_wp2
  go_loopw [6, 7] (fun v6 v7 wr => ∃ (v n : Int) (bd : Bool), 0 ≤ n ∧ n ≤ 10 ∧ v6 = .int .i64 v ∧ v7 = .int .i64 n ∧ Hid (serS dCos (mulS bad t t).1 n.toNat (v, bd) = cosS bad t) ∧ Hid (Fl b bd wr) ∧ Hid (Kept b w wr)) (fun _ v7 _ => (intOf v7).toNat)
  case atStart => exact ⟨1099511627776, 10, (mulS bad t t).2, by omega, by omega, rfl, rfl, rfl, H2, H3⟩
  case round =>
    obtain ⟨v, n, bd, hn0, hn1, rfl, rfl, HR, HF, HK⟩ := hrel
    by_cases hn : 1 ≤ n
    · have HD : Hid _ := dCos_wrap n ⟨hn, hn1⟩
      go_wp2_with fail
      refine (Mul_any b bd _ _ wr HF.out).mono ?_
      rintro e w2 ⟨rfl, h4, h5⟩
      have H5 : Hid _ := HK.out.trans h5
      clear h5
      go_wp2_with fail
      refine (Part_any b _ _ _ _ w2 h4).mono ?_
      rintro e w3 ⟨rfl, h6, h7⟩
      have H7 : Hid _ := H5.out.trans h7
      clear h4 h7 H5
      go_wp2_with fail
      refine (Sub_any b _ _ _ w3 h6).mono ?_
      rintro e w4 ⟨rfl, h8, h9⟩
      have H8 : Hid _ := h8
      have H9 : Hid _ := H7.out.trans h9
      clear h6 h8 h9 H7
      go_wp2
      rw [HD.out] at H8 ⊢
      refine ⟨⟨_, n - 1, _, by omega, by omega, rfl, rfl, ?_, H8, H9⟩, by simp [intOf]; omega⟩
      exact serS_round dCos _ n (v, bd) _ hn HR.out
    · have HE : Hid (cosS bad t = (v, bd)) := by show _ = _; have e := HR.out; rw [show n.toNat = 0 by omega] at e; exact e.symm
      go_wp2
      go_ret
      rw [HE.out]
      exact ⟨rfl, HF.out, HK.out⟩

end Go.Proofs.Ytnfaafdoefpomaa
