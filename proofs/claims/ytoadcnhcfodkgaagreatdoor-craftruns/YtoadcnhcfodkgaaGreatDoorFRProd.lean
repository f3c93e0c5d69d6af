/-
  Walks of package alidaderef14, for the seat YtoadcnhcfodkgaaGreatDoor. (Made by mkref14.py.)
-/
import Derived.Test.YtoadcnhcfodkgaaGreatDoorFRMean
import Derived.Handy
import Derived.Deep.RegionHeld3
namespace Go.Proofs.YtoadcnhcfodkgaaGreatDoor
open Go.RowKit

set_option maxRecDepth 100000 in
set_option maxHeartbeats 20000000 in
theorem fproducts_any (b : Nat) (bad : Bool) (x : Nat → Int) (i : Nat) (y : Nat → Int) (j : Nat) (w : World) (hw : Fl b bad w) (hi : i < 6) (hj : j < 6) :
    Calls Tryz.prog 94 #[.pointer (some ⟨b, 0, none⟩), .agg (row 78 x).toArray, .int .i64 (i : Int), .agg (row 78 y).toArray, .int .i64 (j : Int)] w fun e w' => e = .returned (.int .i64 ((fproductsS bad x i y j).1)) ∧ Fl b (fproductsS bad x i y j).2 w' ∧ Kept b w w' := by
  have hl := hw.lies
  go_enter Tryz.func94, Tryz.ntmps94
  have y1_BF : b < w.heap.size := hw.lies
  have y2_BF : b < w.heap.size + 1 := (Nat.lt_succ_of_lt hw.lies)
  have y2_B0 : w.heap.size < w.heap.size + 1 := (Nat.lt_succ_self _)
  have y3_BF : b < w.heap.size + 1 + 1 := (Nat.lt_succ_of_lt (Nat.lt_succ_of_lt hw.lies))
  have y3_B0 : w.heap.size < w.heap.size + 1 + 1 := (Nat.lt_succ_of_lt (Nat.lt_succ_self _))
  have y3_B1 : w.heap.size + 1 < w.heap.size + 1 + 1 := (Nat.lt_succ_self _)
  go_wp2_with (refine store_stop rfl (by kernel_rfl) ?_)
  refine Stop.mk (store_row (l' := row 78 (fun _ => 0)) rfl rfl rfl rfl (Arr_at _ _ (row 78 (fun _ => 0)) _ (by simp)) (by simp only [row_len]) (by rw [row_len]; kernel_rfl) (row_one _ _) ?_)
  intro w1 B2_1 o1
  have K1 : Kept b w w1 := Kept.off ((((Kept.refl b w).al _).al _).al _) o1 (by omega)
  have BF_1 : Fl b bad w1 := (((hw.alloc _).alloc _).alloc _).off o1 (Nat.ne_of_lt y3_BF)
  have B0_1 : Arr w.heap.size (row 78 x) w1 := (((Arr_at _ _ (row 78 x) _ (by simp)).alloc _).alloc _).off o1 (Nat.ne_of_lt y3_B0)
  have B1_1 : Arr (w.heap.size + 1) (row 78 y) w1 := ((Arr_at _ _ (row 78 y) _ (by simp)).alloc _).off o1 (Nat.ne_of_lt y3_B1)
  have z1_B2 := B2_1.lies
  have z1_BF := BF_1.lies
  have z1_B0 := B0_1.lies
  have z1_B1 := B1_1.lies
  clear o1
  go_wp2_with fail
  obtain ⟨J0, hJ0⟩ : ∃ J : Nat → Act → World → Prop, Hid (J = fun k a Wl0 => ∀ G_ : Prop, (∀ (s0 : (Nat → Int) × Bool) (t0_1 t0_3 t0_5 t0_7 t0_9 t0_10 t0_13 t0_14 t0_15 t0_16 t0_17 t0_18 t0_19 t0_20 t0_21 t0_22 t0_23 t0_24 t0_25 t0_26 t0_27 t0_28 t0_29 t0_30 t0_31 t0_32 t0_33 t0_34 t0_35 : Value), Hid (fproductsS_l0 x i y j ((fun _ => 0), bad) k = s0) → a = { tmps := #[.pointer (some ⟨b, 0, none⟩), t0_1, .int .i64 (i : Int), t0_3, .int .i64 (j : Int), t0_5, .pointer (some ⟨w.heap.size, 0, none⟩), t0_7, .pointer (some ⟨w.heap.size + 1, 0, none⟩), t0_9, t0_10, .pointer (some ⟨w.heap.size + 1 + 1, 0, none⟩), .int .i64 (k : Int), t0_13, t0_14, t0_15, t0_16, t0_17, t0_18, t0_19, t0_20, t0_21, t0_22, t0_23, t0_24, t0_25, t0_26, t0_27, t0_28, t0_29, t0_30, t0_31, t0_32, t0_33, t0_34, t0_35], defers := [] } → Kept b w Wl0 → Fl b s0.2 Wl0 → Arr w.heap.size (row 78 x) Wl0 → Arr (w.heap.size + 1) (row 78 y) Wl0 → Arr (w.heap.size + 1 + 1) (row 78 s0.1) Wl0 → G_) → G_) := ⟨_, rfl⟩
  refine rounds_up J0 13 ?_ ?_ ?_
  · rw [hJ0.out]
    intro G_ hG_
    exact hG_ ((fun _ => 0), bad) _ _ _ _ _ _ _ _ _ _ _ _ _ _ _ _ _ _ _ _ _ _ _ _ _ _ _ _ _ rfl rfl K1 BF_1 B0_1 B1_1 B2_1
  · intro k a Wl0 hk hI R hR
    rw [hJ0.out] at hI
    refine hI _ ?_
    clear hI
    intro s0 t0_1 t0_3 t0_5 t0_7 t0_9 t0_10 t0_13 t0_14 t0_15 t0_16 t0_17 t0_18 t0_19 t0_20 t0_21 t0_22 t0_23 t0_24 t0_25 t0_26 t0_27 t0_28 t0_29 t0_30 t0_31 t0_32 t0_33 t0_34 t0_35 El0 ea Kl0 BF_l0 B0_l0 B1_l0 B2_l0
    subst ea
    have zl0_BF := BF_l0.lies
    have zl0_B0 := B0_l0.lies
    have zl0_B1 := B1_l0.lies
    have zl0_B2 := B2_l0.lies
    go_wp2_with fail
    refine wp_region_held_drew (S := fun w' => Arr w.heap.size (row 78 x) w' ∧ Arr (w.heap.size + 1) (row 78 y) w') (by kernel_rfl) ⟨B0_l0.drew, B1_l0.drew⟩ (fun hHeld => ?_)
    refine take_at (i := 0) (v := ?v29) rfl (by kernel_rfl) (by kernel_rfl) (by kernel_rfl) (fun _ _ _ h => h) (Or.inl ⟨by rfl, ?y29⟩) hHeld ?t29
    case y29 => (intro wx hSw; go_simp <;> with_reducible rfl)
    simp only [Act.put, List.setIfInBounds_toArray, List.set_cons_zero, List.set_cons_succ]
    refine take_at (i := 1) (v := ?v30) rfl (by kernel_rfl) (by kernel_rfl) (by kernel_rfl) (fun _ _ _ h => h) (Or.inl ⟨by rfl, ?y30⟩) hHeld ?t30
    case y30 => (intro wx hSw; go_simp <;> with_reducible rfl)
    simp only [Act.put, List.setIfInBounds_toArray, List.set_cons_zero, List.set_cons_succ]
    refine take_at (i := 2) (v := ?v31) rfl (by kernel_rfl) (by kernel_rfl) (by kernel_rfl) (fun _ _ _ h => h) (Or.inl ⟨by rfl, ?y31⟩) hHeld ?t31
    case y31 => (intro wx hSw; go_simp <;> with_reducible rfl)
    simp only [Act.put, List.setIfInBounds_toArray, List.set_cons_zero, List.set_cons_succ]
    refine take_at (i := 3) (v := ?v32) rfl (by kernel_rfl) (by kernel_rfl) (by kernel_rfl) (fun _ _ _ h => h) (Or.inl ⟨by rfl, ?y32⟩) hHeld ?t32
    case y32 => (intro wx hSw; go_simp <;> with_reducible rfl)
    simp only [Act.put, List.setIfInBounds_toArray, List.set_cons_zero, List.set_cons_succ]
    refine take_at (i := 4) (v := ?v33) rfl (by kernel_rfl) (by kernel_rfl) (by kernel_rfl) (fun _ _ _ h => h) (Or.inl ⟨by rfl, ?y33⟩) hHeld ?t33
    case y33 => (intro wx hSw; have hi0 : (k : Int) < 13 := (by omega); go_simp <;> with_reducible rfl)
    simp only [Act.put, List.setIfInBounds_toArray, List.set_cons_zero, List.set_cons_succ]
    refine take_at (i := 5) (v := ?v34) rfl (by kernel_rfl) (by kernel_rfl) (by kernel_rfl) (fun _ _ _ h => h) (Or.inl ⟨by rfl, ?y34⟩) hHeld ?t34
    case y34 => (intro wx hSw; have hi0 : (i : Int) < 6 := (by omega); go_simp <;> with_reducible rfl)
    simp only [Act.put, List.setIfInBounds_toArray, List.set_cons_zero, List.set_cons_succ]
    refine take_at (i := 6) (v := ?v35) rfl (by kernel_rfl) (by kernel_rfl) (by kernel_rfl) (fun _ _ _ h => h) (Or.inl ⟨by rfl, ?y35⟩) hHeld ?t35
    case y35 => (intro wx hSw; have hc0 : wx.cell? ⟨w.heap.size, k * 6 + i, none⟩ = some (.int .i64 (x (k * 6 + i))) := row_c hSw.1 (k * 6 + i) (by omega); go_simp <;> with_reducible rfl)
    simp only [Act.put, List.setIfInBounds_toArray, List.set_cons_zero, List.set_cons_succ]
    refine take_at (i := 7) (v := ?v36) rfl (by kernel_rfl) (by kernel_rfl) (by kernel_rfl) (fun _ _ _ h => h) (Or.inl ⟨by rfl, ?y36⟩) hHeld ?t36
    case y36 => (intro wx hSw; go_simp <;> with_reducible rfl)
    simp only [Act.put, List.setIfInBounds_toArray, List.set_cons_zero, List.set_cons_succ]
    refine take_at (i := 8) (v := ?v37) rfl (by kernel_rfl) (by kernel_rfl) (by kernel_rfl) (fun _ _ _ h => h) (Or.inl ⟨by rfl, ?y37⟩) hHeld ?t37
    case y37 => (intro wx hSw; go_simp <;> with_reducible rfl)
    simp only [Act.put, List.setIfInBounds_toArray, List.set_cons_zero, List.set_cons_succ]
    refine take_at (i := 9) (v := ?v38) rfl (by kernel_rfl) (by kernel_rfl) (by kernel_rfl) (fun _ _ _ h => h) (Or.inl ⟨by rfl, ?y38⟩) hHeld ?t38
    case y38 => (intro wx hSw; have hi0 : (k : Int) < 13 := (by omega); go_simp <;> with_reducible rfl)
    simp only [Act.put, List.setIfInBounds_toArray, List.set_cons_zero, List.set_cons_succ]
    refine take_at (i := 10) (v := ?v39) rfl (by kernel_rfl) (by kernel_rfl) (by kernel_rfl) (fun _ _ _ h => h) (Or.inl ⟨by rfl, ?y39⟩) hHeld ?t39
    case y39 => (intro wx hSw; have hi0 : (j : Int) < 6 := (by omega); go_simp <;> with_reducible rfl)
    simp only [Act.put, List.setIfInBounds_toArray, List.set_cons_zero, List.set_cons_succ]
    refine take_at (i := 11) (v := ?v40) rfl (by kernel_rfl) (by kernel_rfl) (by kernel_rfl) (fun _ _ _ h => h) (Or.inl ⟨by rfl, ?y40⟩) hHeld ?t40
    case y40 => (intro wx hSw; have hc0 : wx.cell? ⟨w.heap.size + 1, k * 6 + j, none⟩ = some (.int .i64 (y (k * 6 + j))) := row_c hSw.2 (k * 6 + j) (by omega); go_simp <;> with_reducible rfl)
    simp only [Act.put, List.setIfInBounds_toArray, List.set_cons_zero, List.set_cons_succ]
    refine take_at (i := 13) (v := ?v41) rfl (by kernel_rfl) (by kernel_rfl) (by kernel_rfl) (fun _ _ _ h => h) (Or.inl ⟨by rfl, ?y41⟩) hHeld ?t41
    case y41 => (intro wx hSw; have hi0 : (k : Int) < 13 := (by omega); go_simp <;> with_reducible rfl)
    simp only [Act.put, List.setIfInBounds_toArray, List.set_cons_zero, List.set_cons_succ]
    refine call_at (i := 12) (by kernel_rfl) rfl (fun K hK => ?_)
    go_simp
    refine (rMul_any b s0.2 (x (k * 6 + i)) (y (k * 6 + j)) _ BF_l0.drew).mono ?_
    rintro e w2 ⟨rfl, f2, k2⟩
    generalize e2 : mulS s0.2 (x (k * 6 + i)) (y (k * 6 + j)) = r2 at f2 ⊢
    have E2 : Hid _ := e2
    clear e2
    have K2 : Kept b w w2 := Kept.trans Kl0.drew k2
    have B0_2 : Arr w.heap.size (row 78 x) w2 := B0_l0.drew.kept k2 (Nat.ne_of_gt y1_BF)
    have B1_2 : Arr (w.heap.size + 1) (row 78 y) w2 := B1_l0.drew.kept k2 (Nat.ne_of_gt y2_BF)
    have B2_2 : Arr (w.heap.size + 1 + 1) (row 78 s0.1) w2 := B2_l0.drew.kept k2 (Nat.ne_of_gt y3_BF)
    have z2 := B2_2.lies
    clear hHeld
    refine hK.out _ _ ⟨B0_2, B1_2⟩ (fun hHeld => ?_)
    clear hK K BF_l0 B0_l0 B1_l0 B2_l0 k2
    refine take_at (i := 14) (v := ?v42) rfl (by kernel_rfl) (by kernel_rfl) (by kernel_rfl) (fun _ _ _ h => h) (Or.inl ⟨by rfl, ?y42⟩) hHeld ?t42
    case y42 => (intro wx hSw; go_simp <;> with_reducible rfl)
    simp only [Act.put, List.setIfInBounds_toArray, List.set_cons_zero, List.set_cons_succ]
    refine call_at (i := 15) (by kernel_rfl) rfl (fun K hK => ?_)
    have c4_B2_0 : w2.cell? ⟨w.heap.size + 1 + 1, k * 6, none⟩ = some (.int .i64 (s0.1 (k * 6))) := row_c B2_2 (k * 6) (by omega)
    have g4_B2_1 := row_f B2_2 (k * 6) (by omega)
    go_simp
    clear hHeld
    refine hK.out _ _ ⟨(B0_2.new (w.heap.size + 1 + 1) (k * 6) (Nat.ne_of_lt y3_B0) (.int .i64 r2.1)), (B1_2.new (w.heap.size + 1 + 1) (k * 6) (Nat.ne_of_lt y3_B1) (.int .i64 r2.1))⟩ (fun hHeld => ?_)
    clear hK K c4_B2_0 g4_B2_1
    refine wpAnyH_done (by kernel_rfl) ?_ _
    clear hHeld
    go_wp2_with fail
    have hs0 : Hid (fproductsS_l0 x i y j ((fun _ => 0), bad) (k + 1) = ((updF s0.1 (k * 6) r2.1), r2.2)) := by show _ = _; rw [fproductsS_l0_succ]; unfold fproductsS_l0s; simp only [El0.out, E2.out]
    rw [hJ0.out]
    intro G_ hG_
    exact hG_ ((updF s0.1 (k * 6) r2.1), r2.2) _ _ _ _ _ _ _ _ _ _ _ _ _ _ _ _ _ _ _ _ _ _ _ _ _ _ _ _ _ hs0 rfl (K2.new _ _ (by omega) _) (f2.new (w.heap.size + 1 + 1) (k * 6) (Nat.ne_of_lt y3_BF) (.int .i64 r2.1)) (B0_2.new (w.heap.size + 1 + 1) (k * 6) (Nat.ne_of_lt y3_B0) (.int .i64 r2.1)) (B1_2.new (w.heap.size + 1 + 1) (k * 6) (Nat.ne_of_lt y3_B1) (.int .i64 r2.1)) (row_put B2_2 (k * 6) (by omega) r2.1)
  · intro a Wl0 hI R
    rw [hJ0.out] at hI
    refine hI _ ?_
    clear hI hJ0
    intro r3 t0_1 t0_3 t0_5 t0_7 t0_9 t0_10 t0_13 t0_14 t0_15 t0_16 t0_17 t0_18 t0_19 t0_20 t0_21 t0_22 t0_23 t0_24 t0_25 t0_26 t0_27 t0_28 t0_29 t0_30 t0_31 t0_32 t0_33 t0_34 t0_35 E3 ea Kl0 BF_l0 B0_l0 B1_l0 B2_l0
    subst ea
    have zl0_BF := BF_l0.lies
    have zl0_B0 := B0_l0.lies
    have zl0_B1 := B1_l0.lies
    have zl0_B2 := B2_l0.lies
    go_wp2_with (refine row_load rfl rfl rfl B2_l0 (by kernel_rfl) (by rw [row_len]; kernel_rfl) ?_)
    refine (fmean_any b r3.2 r3.1 0 _ BF_l0 (by omega)).mono ?_
    rintro e w4 ⟨rfl, f4, k4⟩
    generalize e4 : fmeanS r3.2 r3.1 0 = r4 at f4 ⊢
    have E4 : Hid _ := e4
    clear e4
    try dsimp only
    have K4 : Kept b w w4 := Kept.trans Kl0 k4
    have B0_4 : Arr w.heap.size (row 78 x) w4 := B0_l0.kept k4 (Nat.ne_of_gt y1_BF)
    have B1_4 : Arr (w.heap.size + 1) (row 78 y) w4 := B1_l0.kept k4 (Nat.ne_of_gt y2_BF)
    have B2_4 : Arr (w.heap.size + 1 + 1) (row 78 r3.1) w4 := B2_l0.kept k4 (Nat.ne_of_gt y3_BF)
    have z4 := B2_4.lies
    clear BF_l0 B0_l0 B1_l0 B2_l0 k4
    go_wp2
    go_ret
    have hs : fproductsS bad x i y j = (r4.1, r4.2) := by unfold fproductsS; simp only [E3.out, E4.out]
    rw [hs]
    exact ⟨rfl, f4, K4⟩
end Go.Proofs.YtoadcnhcfodkgaaGreatDoor
