/-
  Walks of package filter, for the seat Ytpjobkbefgehjaa. (Made by mkfil14.py.)
-/
import Derived.Test.YtpjobkbefgehjaaJH
import Derived.Test.YtpjobkbefgehjaaJG
import Derived.Handy
import Derived.Deep.RegionHeld3
namespace Go.Proofs.Ytpjobkbefgehjaa
open Go.RowKit

set_option maxRecDepth 100000 in
set_option maxHeartbeats 20000000 in
theorem hviewed_any (b : Nat) (bad : Bool) (g : Nat → Int) (x : Nat → Int) (sky : Nat → Int) (w : World) (hw : Fl b bad w) :
    Calls Try.prog 43 #[.pointer (some ⟨b, 0, none⟩), .agg (row 43 g).toArray, .agg (row 78 x).toArray, .agg (row 6 sky).toArray] w fun e w' => e = .returned (.agg (row 78 ((hviewedS bad g x sky).1)).toArray) ∧ Fl b (hviewedS bad g x sky).2 w' ∧ Kept b w w' := by
  have hl := hw.lies
  go_enter Try.func43, Try.ntmps43
  have y1_BF : b < w.heap.size := hw.lies
  have y2_BF : b < w.heap.size + 1 := (Nat.lt_succ_of_lt hw.lies)
  have y2_B0 : w.heap.size < w.heap.size + 1 := (Nat.lt_succ_self _)
  have y3_BF : b < w.heap.size + 1 + 1 := (Nat.lt_succ_of_lt (Nat.lt_succ_of_lt hw.lies))
  have y3_B0 : w.heap.size < w.heap.size + 1 + 1 := (Nat.lt_succ_of_lt (Nat.lt_succ_self _))
  have y3_B1 : w.heap.size + 1 < w.heap.size + 1 + 1 := (Nat.lt_succ_self _)
  have y4_BF : b < w.heap.size + 1 + 1 + 1 := (Nat.lt_succ_of_lt (Nat.lt_succ_of_lt (Nat.lt_succ_of_lt hw.lies)))
  have y4_B0 : w.heap.size < w.heap.size + 1 + 1 + 1 := (Nat.lt_succ_of_lt (Nat.lt_succ_of_lt (Nat.lt_succ_self _)))
  have y4_B1 : w.heap.size + 1 < w.heap.size + 1 + 1 + 1 := (Nat.lt_succ_of_lt (Nat.lt_succ_self _))
  have y4_B2 : w.heap.size + 1 + 1 < w.heap.size + 1 + 1 + 1 := (Nat.lt_succ_self _)
  have y5_BF : b < w.heap.size + 1 + 1 + 1 + 1 := (Nat.lt_succ_of_lt (Nat.lt_succ_of_lt (Nat.lt_succ_of_lt (Nat.lt_succ_of_lt hw.lies))))
  have y5_B0 : w.heap.size < w.heap.size + 1 + 1 + 1 + 1 := (Nat.lt_succ_of_lt (Nat.lt_succ_of_lt (Nat.lt_succ_of_lt (Nat.lt_succ_self _))))
  have y5_B1 : w.heap.size + 1 < w.heap.size + 1 + 1 + 1 + 1 := (Nat.lt_succ_of_lt (Nat.lt_succ_of_lt (Nat.lt_succ_self _)))
  have y5_B2 : w.heap.size + 1 + 1 < w.heap.size + 1 + 1 + 1 + 1 := (Nat.lt_succ_of_lt (Nat.lt_succ_self _))
  have y5_B3 : w.heap.size + 1 + 1 + 1 < w.heap.size + 1 + 1 + 1 + 1 := (Nat.lt_succ_self _)
  go_wp2_with (first | (refine row_load (ty := 31) rfl rfl rfl (((((Arr_at _ _ (row 43 g) _ (by simp)).alloc _).alloc _).alloc _).alloc _) (by kernel_rfl) (by rw [row_len]; kernel_rfl) ?_) | (refine row_load (ty := 63) rfl rfl rfl ((((Arr_at _ _ (row 78 x) _ (by simp)).alloc _).alloc _).alloc _) (by kernel_rfl) (by rw [row_len]; kernel_rfl) ?_))
  refine (hattitudes_any b bad g x _ (((((hw.alloc _).alloc _).alloc _).alloc _).alloc _)).mono ?_
  rintro e w1 ⟨rfl, f1, k1⟩
  generalize e1 : hattitudesS bad g x = r1 at f1 ⊢
  have E1 : Hid _ := e1
  clear e1
  try dsimp only
  have K1 : Kept b w w1 := Kept.trans ((((((Kept.refl b w).al _).al _).al _).al _).al _) k1
  have B0_1 : Arr w.heap.size (row 43 g) w1 := (((((Arr_at _ _ (row 43 g) _ (by simp)).alloc _).alloc _).alloc _).alloc _).kept k1 (Nat.ne_of_gt y1_BF)
  have B1_1 : Arr (w.heap.size + 1) (row 78 x) w1 := ((((Arr_at _ _ (row 78 x) _ (by simp)).alloc _).alloc _).alloc _).kept k1 (Nat.ne_of_gt y2_BF)
  have B2_1 : Arr (w.heap.size + 1 + 1) (row 6 sky) w1 := (((Arr_at _ _ (row 6 sky) _ (by simp)).alloc _).alloc _).kept k1 (Nat.ne_of_gt y3_BF)
  have B3_1 : Arr (w.heap.size + 1 + 1 + 1) (row 78 (fun _ => 0)) w1 := ((Arr_at _ _ (row 78 (fun _ => 0)) _ (by simp)).alloc _).kept k1 (Nat.ne_of_gt y4_BF)
  have B4_1 : Arr (w.heap.size + 1 + 1 + 1 + 1) (row 78 (fun _ => 0)) w1 := (Arr_at _ _ (row 78 (fun _ => 0)) _ (by simp)).kept k1 (Nat.ne_of_gt y5_BF)
  have z1 := B4_1.lies
  clear k1
  go_wp2_with fail
  obtain ⟨J0, hJ0⟩ : ∃ J : Nat → Act → World → Prop, Hid (J = fun k a Wl0 => ∀ G_ : Prop, (∀ (s0 : (Nat → Int) × Bool) (t0_1 t0_2 t0_3 t0_4 t0_5 t0_6 t0_10 t0_11 t0_12 t0_13 t0_14 t0_17 t0_18 t0_19 t0_20 t0_21 t0_22 t0_23 t0_24 t0_25 t0_26 t0_27 t0_28 t0_29 t0_30 t0_31 t0_32 t0_33 t0_34 t0_35 : Value), Hid (hviewedS_l0 sky r1 ((fun _ => 0), r1.2) k = s0) → a = { tmps := #[.pointer (some ⟨b, 0, none⟩), t0_1, t0_2, t0_3, t0_4, t0_5, t0_6, .pointer (some ⟨w.heap.size + 1 + 1, 0, none⟩), .pointer (some ⟨w.heap.size + 1 + 1 + 1, 0, none⟩), .pointer (some ⟨w.heap.size + 1 + 1 + 1 + 1, 0, none⟩), t0_10, t0_11, t0_12, t0_13, t0_14, .agg (row 52 r1.1).toArray, .int .i64 (k : Int), t0_17, t0_18, t0_19, t0_20, t0_21, t0_22, t0_23, t0_24, t0_25, t0_26, t0_27, t0_28, t0_29, t0_30, t0_31, t0_32, t0_33, t0_34, t0_35], defers := [] } → Kept b w Wl0 → Fl b s0.2 Wl0 → Arr w.heap.size (row 43 g) Wl0 → Arr (w.heap.size + 1) (row 78 x) Wl0 → Arr (w.heap.size + 1 + 1) (row 6 sky) Wl0 → Arr (w.heap.size + 1 + 1 + 1) (row 78 (fun _ => 0)) Wl0 → Arr (w.heap.size + 1 + 1 + 1 + 1) (row 78 s0.1) Wl0 → G_) → G_) := ⟨_, rfl⟩
  refine rounds_up J0 13 ?_ ?_ ?_
  · rw [hJ0.out]
    intro G_ hG_
    exact hG_ ((fun _ => 0), r1.2) _ _ _ _ _ _ _ _ _ _ _ _ _ _ _ _ _ _ _ _ _ _ _ _ _ _ _ _ _ _ rfl rfl K1 f1 B0_1 B1_1 B2_1 B3_1 B4_1
  · intro k a Wl0 hk hI R hR
    rw [hJ0.out] at hI
    refine hI _ ?_
    clear hI
    intro s0 t0_1 t0_2 t0_3 t0_4 t0_5 t0_6 t0_10 t0_11 t0_12 t0_13 t0_14 t0_17 t0_18 t0_19 t0_20 t0_21 t0_22 t0_23 t0_24 t0_25 t0_26 t0_27 t0_28 t0_29 t0_30 t0_31 t0_32 t0_33 t0_34 t0_35 El0 ea Kl0 BF_l0 B0_l0 B1_l0 B2_l0 B3_l0 B4_l0
    subst ea
    have zl0_BF := BF_l0.lies
    have zl0_B0 := B0_l0.lies
    have zl0_B1 := B1_l0.lies
    have zl0_B2 := B2_l0.lies
    have zl0_B3 := B3_l0.lies
    have zl0_B4 := B4_l0.lies
    have y8_BF : b < Wl0.heap.size := BF_l0.lies
    have y8_B0 : w.heap.size < Wl0.heap.size := B0_l0.lies
    have y8_B1 : w.heap.size + 1 < Wl0.heap.size := B1_l0.lies
    have y8_B2 : w.heap.size + 1 + 1 < Wl0.heap.size := B2_l0.lies
    have y8_B3 : w.heap.size + 1 + 1 + 1 < Wl0.heap.size := B3_l0.lies
    have y8_B4 : w.heap.size + 1 + 1 + 1 + 1 < Wl0.heap.size := B4_l0.lies
    have i3_0 : (k : Int) < 13 := by omega
    go_wp2_with fail
    clear i3_0
    refine wp_region_held_drew (S := fun w' => Arr Wl0.heap.size [.int .i64 (r1.1 (k * 4)), .int .i64 (r1.1 (k * 4 + 1)), .int .i64 (r1.1 (k * 4 + 2)), .int .i64 (r1.1 (k * 4 + 3))] w' ∧ Arr (w.heap.size + 1 + 1) (row 6 sky) w') (by kernel_rfl) ⟨(Arr_at _ _ [.int .i64 (r1.1 (k * 4)), .int .i64 (r1.1 (k * 4 + 1)), .int .i64 (r1.1 (k * 4 + 2)), .int .i64 (r1.1 (k * 4 + 3))] _ (by simp)).drew, (B2_l0.alloc _).drew⟩ (fun hHeld => ?_)
    refine take_at (i := 0) (v := ?v23) rfl (by kernel_rfl) (by kernel_rfl) (by kernel_rfl) (fun _ _ _ h => h) (Or.inl ⟨by rfl, ?y23⟩) hHeld ?t23
    case y23 => (intro wx hSw; go_simp <;> with_reducible rfl)
    simp only [Act.put, List.setIfInBounds_toArray, List.set_cons_zero, List.set_cons_succ]
    refine take_at (i := 1) (v := ?v24) rfl (by kernel_rfl) (by kernel_rfl) (by kernel_rfl) (fun _ _ _ h => h) (Or.inl ⟨by rfl, ?y24⟩) hHeld ?t24
    case y24 => (intro wx hSw; go_simp <;> with_reducible rfl)
    simp only [Act.put, List.setIfInBounds_toArray, List.set_cons_zero, List.set_cons_succ]
    refine take_at (i := 2) (v := ?v25) rfl (by kernel_rfl) (by kernel_rfl) (by kernel_rfl) (fun _ _ _ h => h) (Or.inl ⟨by rfl, ?y25⟩) hHeld ?t25
    case y25 => (intro wx hSw; have hc0 : wx.cell? ⟨Wl0.heap.size, 0, none⟩ = some (.int .i64 (r1.1 (k * 4))) := hSw.1.c 0 (of_decide_eq_true rfl); have hc1 : wx.cell? ⟨Wl0.heap.size, 1, none⟩ = some (.int .i64 (r1.1 (k * 4 + 1))) := hSw.1.c 1 (of_decide_eq_true rfl); have hc2 : wx.cell? ⟨Wl0.heap.size, 2, none⟩ = some (.int .i64 (r1.1 (k * 4 + 2))) := hSw.1.c 2 (of_decide_eq_true rfl); have hc3 : wx.cell? ⟨Wl0.heap.size, 3, none⟩ = some (.int .i64 (r1.1 (k * 4 + 3))) := hSw.1.c 3 (of_decide_eq_true rfl); go_simp <;> with_reducible rfl)
    simp only [Act.put, List.setIfInBounds_toArray, List.set_cons_zero, List.set_cons_succ]
    refine take_at (i := 3) (v := ?v26) rfl (by kernel_rfl) (by kernel_rfl) (by kernel_rfl) (fun _ _ _ h => h) (Or.inl ⟨by rfl, ?y26⟩) hHeld ?t26
    case y26 => (intro wx hSw; go_simp <;> with_reducible rfl)
    simp only [Act.put, List.setIfInBounds_toArray, List.set_cons_zero, List.set_cons_succ]
    refine take_at (i := 4) (v := ?v27) rfl (by kernel_rfl) (by kernel_rfl) (by kernel_rfl) (fun _ _ _ h => h) (Or.inl ⟨by rfl, ?y27⟩) hHeld ?t27
    case y27 => (intro wx hSw; have hc0 : wx.cell? ⟨w.heap.size + 1 + 1, 0, none⟩ = some (.int .i64 (sky 0)) := row_c hSw.2 0 (by omega); have hc1 : wx.cell? ⟨w.heap.size + 1 + 1, 1, none⟩ = some (.int .i64 (sky 1)) := row_c hSw.2 1 (by omega); have hc2 : wx.cell? ⟨w.heap.size + 1 + 1, 2, none⟩ = some (.int .i64 (sky 2)) := row_c hSw.2 2 (by omega); go_simp <;> with_reducible rfl)
    simp only [Act.put, List.setIfInBounds_toArray, List.set_cons_zero, List.set_cons_succ]
    refine take_at (i := 6) (v := ?v28) rfl (by kernel_rfl) (by kernel_rfl) (by kernel_rfl) (fun _ _ _ h => h) (Or.inl ⟨by rfl, ?y28⟩) hHeld ?t28
    case y28 => (intro wx hSw; go_simp <;> with_reducible rfl)
    simp only [Act.put, List.setIfInBounds_toArray, List.set_cons_zero, List.set_cons_succ]
    refine take_at (i := 7) (v := ?v29) rfl (by kernel_rfl) (by kernel_rfl) (by kernel_rfl) (fun _ _ _ h => h) (Or.inl ⟨by rfl, ?y29⟩) hHeld ?t29
    case y29 => (intro wx hSw; have hc0 : wx.cell? ⟨Wl0.heap.size, 0, none⟩ = some (.int .i64 (r1.1 (k * 4))) := hSw.1.c 0 (of_decide_eq_true rfl); have hc1 : wx.cell? ⟨Wl0.heap.size, 1, none⟩ = some (.int .i64 (r1.1 (k * 4 + 1))) := hSw.1.c 1 (of_decide_eq_true rfl); have hc2 : wx.cell? ⟨Wl0.heap.size, 2, none⟩ = some (.int .i64 (r1.1 (k * 4 + 2))) := hSw.1.c 2 (of_decide_eq_true rfl); have hc3 : wx.cell? ⟨Wl0.heap.size, 3, none⟩ = some (.int .i64 (r1.1 (k * 4 + 3))) := hSw.1.c 3 (of_decide_eq_true rfl); go_simp <;> with_reducible rfl)
    simp only [Act.put, List.setIfInBounds_toArray, List.set_cons_zero, List.set_cons_succ]
    refine take_at (i := 8) (v := ?v30) rfl (by kernel_rfl) (by kernel_rfl) (by kernel_rfl) (fun _ _ _ h => h) (Or.inl ⟨by rfl, ?y30⟩) hHeld ?t30
    case y30 => (intro wx hSw; go_simp <;> with_reducible rfl)
    simp only [Act.put, List.setIfInBounds_toArray, List.set_cons_zero, List.set_cons_succ]
    refine take_at (i := 9) (v := ?v31) rfl (by kernel_rfl) (by kernel_rfl) (by kernel_rfl) (fun _ _ _ h => h) (Or.inl ⟨by rfl, ?y31⟩) hHeld ?t31
    case y31 => (intro wx hSw; have hc0 : wx.cell? ⟨w.heap.size + 1 + 1, 3, none⟩ = some (.int .i64 (sky 3)) := row_c hSw.2 3 (by omega); have hc1 : wx.cell? ⟨w.heap.size + 1 + 1, 4, none⟩ = some (.int .i64 (sky 4)) := row_c hSw.2 4 (by omega); have hc2 : wx.cell? ⟨w.heap.size + 1 + 1, 5, none⟩ = some (.int .i64 (sky 5)) := row_c hSw.2 5 (by omega); go_simp <;> with_reducible rfl)
    simp only [Act.put, List.setIfInBounds_toArray, List.set_cons_zero, List.set_cons_succ]
    refine call_at (i := 5) (by kernel_rfl) rfl (fun K hK => ?_)
    go_simp
    refine (qTurn_any b s0.2 ((r1.1 (k * 4)), (r1.1 (k * 4 + 1)), (r1.1 (k * 4 + 2)), (r1.1 (k * 4 + 3))) ((sky 0), (sky 1), (sky 2)) _ (BF_l0.alloc _).drew).mono ?_
    rintro e w2 ⟨rfl, f2, k2⟩
    generalize e2 : qTurnS s0.2 ((r1.1 (k * 4)), (r1.1 (k * 4 + 1)), (r1.1 (k * 4 + 2)), (r1.1 (k * 4 + 3))) ((sky 0), (sky 1), (sky 2)) = r2 at f2 ⊢
    have E2 : Hid _ := e2
    clear e2
    have K2 : Kept b w w2 := Kept.trans (Kl0.al _).drew k2
    have B0_2 : Arr w.heap.size (row 43 g) w2 := (B0_l0.alloc _).drew.kept k2 (Nat.ne_of_gt y1_BF)
    have B1_2 : Arr (w.heap.size + 1) (row 78 x) w2 := (B1_l0.alloc _).drew.kept k2 (Nat.ne_of_gt y2_BF)
    have B2_2 : Arr (w.heap.size + 1 + 1) (row 6 sky) w2 := (B2_l0.alloc _).drew.kept k2 (Nat.ne_of_gt y3_BF)
    have B3_2 : Arr (w.heap.size + 1 + 1 + 1) (row 78 (fun _ => 0)) w2 := (B3_l0.alloc _).drew.kept k2 (Nat.ne_of_gt y4_BF)
    have B4_2 : Arr (w.heap.size + 1 + 1 + 1 + 1) (row 78 s0.1) w2 := (B4_l0.alloc _).drew.kept k2 (Nat.ne_of_gt y5_BF)
    have B5_2 : Arr Wl0.heap.size [.int .i64 (r1.1 (k * 4)), .int .i64 (r1.1 (k * 4 + 1)), .int .i64 (r1.1 (k * 4 + 2)), .int .i64 (r1.1 (k * 4 + 3))] w2 := (Arr_at _ _ [.int .i64 (r1.1 (k * 4)), .int .i64 (r1.1 (k * 4 + 1)), .int .i64 (r1.1 (k * 4 + 2)), .int .i64 (r1.1 (k * 4 + 3))] _ (by simp)).drew.kept k2 (Nat.ne_of_gt y8_BF)
    have z2 := B5_2.lies
    clear hHeld
    refine hK.out _ _ ⟨B5_2, B2_2⟩ (fun hHeld => ?_)
    clear hK K BF_l0 B0_l0 B1_l0 B2_l0 B3_l0 B4_l0 k2
    refine call_at (i := 10) (by kernel_rfl) rfl (fun K hK => ?_)
    go_simp
    refine (qTurn_any b r2.2 ((r1.1 (k * 4)), (r1.1 (k * 4 + 1)), (r1.1 (k * 4 + 2)), (r1.1 (k * 4 + 3))) ((sky 3), (sky 4), (sky 5)) _ f2).mono ?_
    rintro e w3 ⟨rfl, f3, k3⟩
    generalize e3 : qTurnS r2.2 ((r1.1 (k * 4)), (r1.1 (k * 4 + 1)), (r1.1 (k * 4 + 2)), (r1.1 (k * 4 + 3))) ((sky 3), (sky 4), (sky 5)) = r3 at f3 ⊢
    have E3 : Hid _ := e3
    clear e3
    have K3 : Kept b w w3 := Kept.trans K2 k3
    have B0_3 : Arr w.heap.size (row 43 g) w3 := B0_2.kept k3 (Nat.ne_of_gt y1_BF)
    have B1_3 : Arr (w.heap.size + 1) (row 78 x) w3 := B1_2.kept k3 (Nat.ne_of_gt y2_BF)
    have B2_3 : Arr (w.heap.size + 1 + 1) (row 6 sky) w3 := B2_2.kept k3 (Nat.ne_of_gt y3_BF)
    have B3_3 : Arr (w.heap.size + 1 + 1 + 1) (row 78 (fun _ => 0)) w3 := B3_2.kept k3 (Nat.ne_of_gt y4_BF)
    have B4_3 : Arr (w.heap.size + 1 + 1 + 1 + 1) (row 78 s0.1) w3 := B4_2.kept k3 (Nat.ne_of_gt y5_BF)
    have B5_3 : Arr Wl0.heap.size [.int .i64 (r1.1 (k * 4)), .int .i64 (r1.1 (k * 4 + 1)), .int .i64 (r1.1 (k * 4 + 2)), .int .i64 (r1.1 (k * 4 + 3))] w3 := B5_2.kept k3 (Nat.ne_of_gt y8_BF)
    have z3 := B5_3.lies
    clear hHeld
    refine hK.out _ _ ⟨B5_3, B2_3⟩ (fun hHeld => ?_)
    clear hK K K2 f2 B0_2 B1_2 B2_2 B3_2 B4_2 B5_2 k3
    refine take_at (i := 11) (v := ?v32) rfl (by kernel_rfl) (by kernel_rfl) (by kernel_rfl) (fun _ _ _ h => h) (Or.inl ⟨by rfl, ?y32⟩) hHeld ?t32
    case y32 => (intro wx hSw; go_simp <;> with_reducible rfl)
    simp only [Act.put, List.setIfInBounds_toArray, List.set_cons_zero, List.set_cons_succ]
    refine call_at (i := 12) (by kernel_rfl) rfl (fun K hK => ?_)
    go_simp
    refine (hjoined_any (r2.1.1, r2.1.2.1, r2.1.2.2, r3.1.1, r3.1.2.1, r3.1.2.2) _).mono ?_
    rintro e w4 ⟨rfl, k4⟩
    generalize e4 : hjoinedP (r2.1.1, r2.1.2.1, r2.1.2.2, r3.1.1, r3.1.2.1, r3.1.2.2) = r4
    have E4 : Hid _ := e4
    clear e4
    have K4 : Kept b w w4 := Kept.trans K3 (Kept.of_below k4)
    have BF_4 : Fl b r3.2 w4 := f3.below k4
    have B0_4 : Arr w.heap.size (row 43 g) w4 := B0_3.below k4
    have B1_4 : Arr (w.heap.size + 1) (row 78 x) w4 := B1_3.below k4
    have B2_4 : Arr (w.heap.size + 1 + 1) (row 6 sky) w4 := B2_3.below k4
    have B3_4 : Arr (w.heap.size + 1 + 1 + 1) (row 78 (fun _ => 0)) w4 := B3_3.below k4
    have B4_4 : Arr (w.heap.size + 1 + 1 + 1 + 1) (row 78 s0.1) w4 := B4_3.below k4
    have B5_4 : Arr Wl0.heap.size [.int .i64 (r1.1 (k * 4)), .int .i64 (r1.1 (k * 4 + 1)), .int .i64 (r1.1 (k * 4 + 2)), .int .i64 (r1.1 (k * 4 + 3))] w4 := B5_3.below k4
    have z4 := B5_4.lies
    clear hHeld
    refine hK.out _ _ ⟨B5_4, B2_4⟩ (fun hHeld => ?_)
    clear hK K K3 f3 B0_3 B1_3 B2_3 B3_3 B4_3 B5_3 k4
    refine take_at (i := 13) (v := ?v33) rfl (by kernel_rfl) (by kernel_rfl) (by kernel_rfl) (fun _ _ _ h => h) (Or.inl ⟨by rfl, ?y33⟩) hHeld ?t33
    case y33 => (intro wx hSw; have hi0 : (k : Int) < 13 := (by omega); go_simp <;> with_reducible rfl)
    simp only [Act.put, List.setIfInBounds_toArray, List.set_cons_zero, List.set_cons_succ]
    refine call_at (i := 14) (by kernel_rfl) rfl (fun K hK => ?_)
    have c4_B4_0 : w4.cell? ⟨w.heap.size + 1 + 1 + 1 + 1, k * 6 + 1, none⟩ = some (.int .i64 (s0.1 (k * 6 + 1))) := row_c B4_4 (k * 6 + 1) (by omega)
    have c4_B4_1 : w4.cell? ⟨w.heap.size + 1 + 1 + 1 + 1, k * 6 + 2, none⟩ = some (.int .i64 (s0.1 (k * 6 + 2))) := row_c B4_4 (k * 6 + 2) (by omega)
    have c4_B4_2 : w4.cell? ⟨w.heap.size + 1 + 1 + 1 + 1, k * 6 + 3, none⟩ = some (.int .i64 (s0.1 (k * 6 + 3))) := row_c B4_4 (k * 6 + 3) (by omega)
    have c4_B4_3 : w4.cell? ⟨w.heap.size + 1 + 1 + 1 + 1, k * 6 + 4, none⟩ = some (.int .i64 (s0.1 (k * 6 + 4))) := row_c B4_4 (k * 6 + 4) (by omega)
    have c4_B4_4 : w4.cell? ⟨w.heap.size + 1 + 1 + 1 + 1, k * 6 + 5, none⟩ = some (.int .i64 (s0.1 (k * 6 + 5))) := row_c B4_4 (k * 6 + 5) (by omega)
    have c4_B4_5 : w4.cell? ⟨w.heap.size + 1 + 1 + 1 + 1, k * 6, none⟩ = some (.int .i64 (s0.1 (k * 6))) := row_c B4_4 (k * 6) (by omega)
    have g4_B4_6 := row_f B4_4 (k * 6 + 1) (by omega)
    have g4_B4_7 := row_f B4_4 (k * 6 + 2) (by omega)
    have g4_B4_8 := row_f B4_4 (k * 6 + 3) (by omega)
    have g4_B4_9 := row_f B4_4 (k * 6 + 4) (by omega)
    have g4_B4_10 := row_f B4_4 (k * 6 + 5) (by omega)
    have g4_B4_11 := row_f B4_4 (k * 6) (by omega)
    go_simp
    clear hHeld
    refine hK.out _ _ ⟨((((((B5_4.new (w.heap.size + 1 + 1 + 1 + 1) (k * 6) (Nat.ne_of_gt y8_B4) (.int .i64 r4.1)).new (w.heap.size + 1 + 1 + 1 + 1) (k * 6 + 1) (Nat.ne_of_gt y8_B4) (.int .i64 r4.2.1)).new (w.heap.size + 1 + 1 + 1 + 1) (k * 6 + 2) (Nat.ne_of_gt y8_B4) (.int .i64 r4.2.2.1)).new (w.heap.size + 1 + 1 + 1 + 1) (k * 6 + 3) (Nat.ne_of_gt y8_B4) (.int .i64 r4.2.2.2.1)).new (w.heap.size + 1 + 1 + 1 + 1) (k * 6 + 4) (Nat.ne_of_gt y8_B4) (.int .i64 r4.2.2.2.2.1)).new (w.heap.size + 1 + 1 + 1 + 1) (k * 6 + 5) (Nat.ne_of_gt y8_B4) (.int .i64 r4.2.2.2.2.2)), ((((((B2_4.new (w.heap.size + 1 + 1 + 1 + 1) (k * 6) (Nat.ne_of_lt y5_B2) (.int .i64 r4.1)).new (w.heap.size + 1 + 1 + 1 + 1) (k * 6 + 1) (Nat.ne_of_lt y5_B2) (.int .i64 r4.2.1)).new (w.heap.size + 1 + 1 + 1 + 1) (k * 6 + 2) (Nat.ne_of_lt y5_B2) (.int .i64 r4.2.2.1)).new (w.heap.size + 1 + 1 + 1 + 1) (k * 6 + 3) (Nat.ne_of_lt y5_B2) (.int .i64 r4.2.2.2.1)).new (w.heap.size + 1 + 1 + 1 + 1) (k * 6 + 4) (Nat.ne_of_lt y5_B2) (.int .i64 r4.2.2.2.2.1)).new (w.heap.size + 1 + 1 + 1 + 1) (k * 6 + 5) (Nat.ne_of_lt y5_B2) (.int .i64 r4.2.2.2.2.2))⟩ (fun hHeld => ?_)
    clear hK K c4_B4_0 c4_B4_1 c4_B4_2 c4_B4_3 c4_B4_4 c4_B4_5 g4_B4_6 g4_B4_7 g4_B4_8 g4_B4_9 g4_B4_10 g4_B4_11
    refine wpAnyH_done (by kernel_rfl) ?_ _
    clear hHeld
    go_wp2_with fail
    have hs0 : Hid (hviewedS_l0 sky r1 ((fun _ => 0), r1.2) (k + 1) = ((updF (updF (updF (updF (updF (updF s0.1 (k * 6) r4.1) (k * 6 + 1) r4.2.1) (k * 6 + 2) r4.2.2.1) (k * 6 + 3) r4.2.2.2.1) (k * 6 + 4) r4.2.2.2.2.1) (k * 6 + 5) r4.2.2.2.2.2), r3.2)) := by show _ = _; rw [hviewedS_l0_succ]; unfold hviewedS_l0s; simp only [El0.out, E2.out, E3.out, E4.out]
    rw [hJ0.out]
    intro G_ hG_
    exact hG_ ((updF (updF (updF (updF (updF (updF s0.1 (k * 6) r4.1) (k * 6 + 1) r4.2.1) (k * 6 + 2) r4.2.2.1) (k * 6 + 3) r4.2.2.2.1) (k * 6 + 4) r4.2.2.2.2.1) (k * 6 + 5) r4.2.2.2.2.2), r3.2) _ _ _ _ _ _ _ _ _ _ _ _ _ _ _ _ _ _ _ _ _ _ _ _ _ _ _ _ _ _ hs0 rfl ((((((K4.new _ _ (by omega) _).new _ _ (by omega) _).new _ _ (by omega) _).new _ _ (by omega) _).new _ _ (by omega) _).new _ _ (by omega) _) ((((((BF_4.new (w.heap.size + 1 + 1 + 1 + 1) (k * 6) (Nat.ne_of_lt y5_BF) (.int .i64 r4.1)).new (w.heap.size + 1 + 1 + 1 + 1) (k * 6 + 1) (Nat.ne_of_lt y5_BF) (.int .i64 r4.2.1)).new (w.heap.size + 1 + 1 + 1 + 1) (k * 6 + 2) (Nat.ne_of_lt y5_BF) (.int .i64 r4.2.2.1)).new (w.heap.size + 1 + 1 + 1 + 1) (k * 6 + 3) (Nat.ne_of_lt y5_BF) (.int .i64 r4.2.2.2.1)).new (w.heap.size + 1 + 1 + 1 + 1) (k * 6 + 4) (Nat.ne_of_lt y5_BF) (.int .i64 r4.2.2.2.2.1)).new (w.heap.size + 1 + 1 + 1 + 1) (k * 6 + 5) (Nat.ne_of_lt y5_BF) (.int .i64 r4.2.2.2.2.2)) ((((((B0_4.new (w.heap.size + 1 + 1 + 1 + 1) (k * 6) (Nat.ne_of_lt y5_B0) (.int .i64 r4.1)).new (w.heap.size + 1 + 1 + 1 + 1) (k * 6 + 1) (Nat.ne_of_lt y5_B0) (.int .i64 r4.2.1)).new (w.heap.size + 1 + 1 + 1 + 1) (k * 6 + 2) (Nat.ne_of_lt y5_B0) (.int .i64 r4.2.2.1)).new (w.heap.size + 1 + 1 + 1 + 1) (k * 6 + 3) (Nat.ne_of_lt y5_B0) (.int .i64 r4.2.2.2.1)).new (w.heap.size + 1 + 1 + 1 + 1) (k * 6 + 4) (Nat.ne_of_lt y5_B0) (.int .i64 r4.2.2.2.2.1)).new (w.heap.size + 1 + 1 + 1 + 1) (k * 6 + 5) (Nat.ne_of_lt y5_B0) (.int .i64 r4.2.2.2.2.2)) ((((((B1_4.new (w.heap.size + 1 + 1 + 1 + 1) (k * 6) (Nat.ne_of_lt y5_B1) (.int .i64 r4.1)).new (w.heap.size + 1 + 1 + 1 + 1) (k * 6 + 1) (Nat.ne_of_lt y5_B1) (.int .i64 r4.2.1)).new (w.heap.size + 1 + 1 + 1 + 1) (k * 6 + 2) (Nat.ne_of_lt y5_B1) (.int .i64 r4.2.2.1)).new (w.heap.size + 1 + 1 + 1 + 1) (k * 6 + 3) (Nat.ne_of_lt y5_B1) (.int .i64 r4.2.2.2.1)).new (w.heap.size + 1 + 1 + 1 + 1) (k * 6 + 4) (Nat.ne_of_lt y5_B1) (.int .i64 r4.2.2.2.2.1)).new (w.heap.size + 1 + 1 + 1 + 1) (k * 6 + 5) (Nat.ne_of_lt y5_B1) (.int .i64 r4.2.2.2.2.2)) ((((((B2_4.new (w.heap.size + 1 + 1 + 1 + 1) (k * 6) (Nat.ne_of_lt y5_B2) (.int .i64 r4.1)).new (w.heap.size + 1 + 1 + 1 + 1) (k * 6 + 1) (Nat.ne_of_lt y5_B2) (.int .i64 r4.2.1)).new (w.heap.size + 1 + 1 + 1 + 1) (k * 6 + 2) (Nat.ne_of_lt y5_B2) (.int .i64 r4.2.2.1)).new (w.heap.size + 1 + 1 + 1 + 1) (k * 6 + 3) (Nat.ne_of_lt y5_B2) (.int .i64 r4.2.2.2.1)).new (w.heap.size + 1 + 1 + 1 + 1) (k * 6 + 4) (Nat.ne_of_lt y5_B2) (.int .i64 r4.2.2.2.2.1)).new (w.heap.size + 1 + 1 + 1 + 1) (k * 6 + 5) (Nat.ne_of_lt y5_B2) (.int .i64 r4.2.2.2.2.2)) ((((((B3_4.new (w.heap.size + 1 + 1 + 1 + 1) (k * 6) (Nat.ne_of_lt y5_B3) (.int .i64 r4.1)).new (w.heap.size + 1 + 1 + 1 + 1) (k * 6 + 1) (Nat.ne_of_lt y5_B3) (.int .i64 r4.2.1)).new (w.heap.size + 1 + 1 + 1 + 1) (k * 6 + 2) (Nat.ne_of_lt y5_B3) (.int .i64 r4.2.2.1)).new (w.heap.size + 1 + 1 + 1 + 1) (k * 6 + 3) (Nat.ne_of_lt y5_B3) (.int .i64 r4.2.2.2.1)).new (w.heap.size + 1 + 1 + 1 + 1) (k * 6 + 4) (Nat.ne_of_lt y5_B3) (.int .i64 r4.2.2.2.2.1)).new (w.heap.size + 1 + 1 + 1 + 1) (k * 6 + 5) (Nat.ne_of_lt y5_B3) (.int .i64 r4.2.2.2.2.2)) (row_put (row_put (row_put (row_put (row_put (row_put B4_4 (k * 6) (by omega) r4.1) (k * 6 + 1) (by omega) r4.2.1) (k * 6 + 2) (by omega) r4.2.2.1) (k * 6 + 3) (by omega) r4.2.2.2.1) (k * 6 + 4) (by omega) r4.2.2.2.2.1) (k * 6 + 5) (by omega) r4.2.2.2.2.2)
  · intro a Wl0 hI R
    rw [hJ0.out] at hI
    refine hI _ ?_
    clear hI hJ0
    intro r5 t0_1 t0_2 t0_3 t0_4 t0_5 t0_6 t0_10 t0_11 t0_12 t0_13 t0_14 t0_17 t0_18 t0_19 t0_20 t0_21 t0_22 t0_23 t0_24 t0_25 t0_26 t0_27 t0_28 t0_29 t0_30 t0_31 t0_32 t0_33 t0_34 t0_35 E5 ea Kl0 BF_l0 B0_l0 B1_l0 B2_l0 B3_l0 B4_l0
    subst ea
    have zl0_BF := BF_l0.lies
    have zl0_B0 := B0_l0.lies
    have zl0_B1 := B1_l0.lies
    have zl0_B2 := B2_l0.lies
    have zl0_B3 := B3_l0.lies
    have zl0_B4 := B4_l0.lies
    go_wp2_with (first | (refine row_load (ty := 63) rfl rfl rfl B4_l0 (by kernel_rfl) (by rw [row_len]; kernel_rfl) ?_) | (refine store_stop rfl (by kernel_rfl) ?_))
    refine Stop.mk (store_row (l' := row 78 r5.1) rfl rfl rfl rfl B3_l0 (by simp only [row_len]) (by rw [row_len]; kernel_rfl) (row_one _ _) ?_)
    intro w6 B3_6 o6
    have K6 : Kept b w w6 := Kept.off Kl0 o6 (by omega)
    have BF_6 : Fl b r5.2 w6 := BF_l0.off o6 (Nat.ne_of_lt y4_BF)
    have B0_6 : Arr w.heap.size (row 43 g) w6 := B0_l0.off o6 (Nat.ne_of_lt y4_B0)
    have B1_6 : Arr (w.heap.size + 1) (row 78 x) w6 := B1_l0.off o6 (Nat.ne_of_lt y4_B1)
    have B2_6 : Arr (w.heap.size + 1 + 1) (row 6 sky) w6 := B2_l0.off o6 (Nat.ne_of_lt y4_B2)
    have B4_6 : Arr (w.heap.size + 1 + 1 + 1 + 1) (row 78 r5.1) w6 := B4_l0.off o6 (Nat.ne_of_gt y5_B3)
    have z6_B3 := B3_6.lies
    have z6_BF := BF_6.lies
    have z6_B0 := B0_6.lies
    have z6_B1 := B1_6.lies
    have z6_B2 := B2_6.lies
    have z6_B4 := B4_6.lies
    clear B3_l0 BF_l0 B0_l0 B1_l0 B2_l0 B4_l0 o6
    go_wp2_with (with_reducible refine post_stop ?_)
    refine Stop.mk ?_
    refine bodyPost_ret (v := .agg (row 78 r5.1).toArray) (results_arr Try.results43 B3_6 rfl (by kernel_rfl) (by rw [row_len]; kernel_rfl)) rfl ?_
    have hs : hviewedS bad g x sky = (r5.1, r5.2) := by unfold hviewedS; simp only [E1.out, E5.out]
    rw [hs]
    exact ⟨rfl, BF_6, K6⟩
end Go.Proofs.Ytpjobkbefgehjaa
