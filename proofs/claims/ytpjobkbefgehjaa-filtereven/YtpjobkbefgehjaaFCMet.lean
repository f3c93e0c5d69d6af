/-
  Walks of package filter, for the seat Ytpjobkbefgehjaa. (Made by mkfil14.py.)
-/
import Derived.Test.YtpjobkbefgehjaaJF
import Derived.Test.YtpjobkbefgehjaaJH
import Derived.Test.YtpjobkbefgehjaaJC
import Derived.Handy
import Derived.Deep.RegionHeld3
namespace Go.Proofs.Ytpjobkbefgehjaa
open Go.RowKit

set_option maxRecDepth 100000 in
set_option maxHeartbeats 20000000 in
theorem hmet_any (b : Nat) (bad : Bool) (g : Nat → Int) (l : Nat → Int) (c : Nat → Int) (y : Nat → Int) (w : World) (hw : Fl b bad w) :
    Calls Try.prog 49 #[.pointer (some ⟨b, 0, none⟩), .agg (row 43 g).toArray, .agg (row 36 l).toArray, .agg (row 36 c).toArray, .agg (row 6 y).toArray] w fun e w' => e = .returned (.agg (row 43 ((hmetS bad g l c y).1)).toArray) ∧ Fl b (hmetS bad g l c y).2 w' ∧ Kept b w w' := by
  have hl := hw.lies
  go_enter Try.func49, Try.ntmps49
  have y1_BF : b < w.heap.size := hw.lies
  have y2_BF : b < w.heap.size + 1 := (Nat.lt_succ_of_lt hw.lies)
  have y2_B0 : w.heap.size < w.heap.size + 1 := (Nat.lt_succ_self _)
  have y3_BF : b < w.heap.size + 1 + 1 := (Nat.lt_succ_of_lt (Nat.lt_succ_of_lt hw.lies))
  have y3_B0 : w.heap.size < w.heap.size + 1 + 1 := (Nat.lt_succ_of_lt (Nat.lt_succ_self _))
  have y3_B1 : w.heap.size + 1 < w.heap.size + 1 + 1 := (Nat.lt_succ_self _)
  have y4_BF : b < w.heap.size + 1 + 1 + 1 := (Nat.lt_succ_of_lt (Nat.lt_succ_of_lt (Nat.lt_succ_of_lt hw.lies)))
  have y4_B0 : w.heap.size < w.heap.size + 1 + 1 + 1 := (Nat.lt_succ_of_lt (Nat.lt_succ_of_lt (Nat.lt_succ_self _)))
  have y4_B1 : w.heap.size + 1 < w.heap.size + 1 + 1 + 1 := (Nat.lt_succ_of_lt (Nat.lt_succ_self _))
  have y4_B2 : w.heap.size + 1 + 1 < w.heap.size + 1 + 1 + 1 := (Nat.lt_succ_self _)
  have y5_BF : b < w.heap.size + 1 + 1 + 1 + 1 := (Nat.lt_succ_of_lt (Nat.lt_succ_of_lt (Nat.lt_succ_of_lt (Nat.lt_succ_of_lt hw.lies))))
  have y5_B0 : w.heap.size < w.heap.size + 1 + 1 + 1 + 1 := (Nat.lt_succ_of_lt (Nat.lt_succ_of_lt (Nat.lt_succ_of_lt (Nat.lt_succ_self _))))
  have y5_B1 : w.heap.size + 1 < w.heap.size + 1 + 1 + 1 + 1 := (Nat.lt_succ_of_lt (Nat.lt_succ_of_lt (Nat.lt_succ_self _)))
  have y5_B2 : w.heap.size + 1 + 1 < w.heap.size + 1 + 1 + 1 + 1 := (Nat.lt_succ_of_lt (Nat.lt_succ_self _))
  have y5_B3 : w.heap.size + 1 + 1 + 1 < w.heap.size + 1 + 1 + 1 + 1 := (Nat.lt_succ_self _)
  have y6_BF : b < w.heap.size + 1 + 1 + 1 + 1 + 1 := (Nat.lt_succ_of_lt (Nat.lt_succ_of_lt (Nat.lt_succ_of_lt (Nat.lt_succ_of_lt (Nat.lt_succ_of_lt hw.lies)))))
  have y6_B0 : w.heap.size < w.heap.size + 1 + 1 + 1 + 1 + 1 := (Nat.lt_succ_of_lt (Nat.lt_succ_of_lt (Nat.lt_succ_of_lt (Nat.lt_succ_of_lt (Nat.lt_succ_self _)))))
  have y6_B1 : w.heap.size + 1 < w.heap.size + 1 + 1 + 1 + 1 + 1 := (Nat.lt_succ_of_lt (Nat.lt_succ_of_lt (Nat.lt_succ_of_lt (Nat.lt_succ_self _))))
  have y6_B2 : w.heap.size + 1 + 1 < w.heap.size + 1 + 1 + 1 + 1 + 1 := (Nat.lt_succ_of_lt (Nat.lt_succ_of_lt (Nat.lt_succ_self _)))
  have y6_B3 : w.heap.size + 1 + 1 + 1 < w.heap.size + 1 + 1 + 1 + 1 + 1 := (Nat.lt_succ_of_lt (Nat.lt_succ_self _))
  have y6_B4 : w.heap.size + 1 + 1 + 1 + 1 < w.heap.size + 1 + 1 + 1 + 1 + 1 := (Nat.lt_succ_self _)
  have y7_BF : b < w.heap.size + 1 + 1 + 1 + 1 + 1 + 1 := (Nat.lt_succ_of_lt (Nat.lt_succ_of_lt (Nat.lt_succ_of_lt (Nat.lt_succ_of_lt (Nat.lt_succ_of_lt (Nat.lt_succ_of_lt hw.lies))))))
  have y7_B0 : w.heap.size < w.heap.size + 1 + 1 + 1 + 1 + 1 + 1 := (Nat.lt_succ_of_lt (Nat.lt_succ_of_lt (Nat.lt_succ_of_lt (Nat.lt_succ_of_lt (Nat.lt_succ_of_lt (Nat.lt_succ_self _))))))
  have y7_B1 : w.heap.size + 1 < w.heap.size + 1 + 1 + 1 + 1 + 1 + 1 := (Nat.lt_succ_of_lt (Nat.lt_succ_of_lt (Nat.lt_succ_of_lt (Nat.lt_succ_of_lt (Nat.lt_succ_self _)))))
  have y7_B2 : w.heap.size + 1 + 1 < w.heap.size + 1 + 1 + 1 + 1 + 1 + 1 := (Nat.lt_succ_of_lt (Nat.lt_succ_of_lt (Nat.lt_succ_of_lt (Nat.lt_succ_self _))))
  have y7_B3 : w.heap.size + 1 + 1 + 1 < w.heap.size + 1 + 1 + 1 + 1 + 1 + 1 := (Nat.lt_succ_of_lt (Nat.lt_succ_of_lt (Nat.lt_succ_self _)))
  have y7_B4 : w.heap.size + 1 + 1 + 1 + 1 < w.heap.size + 1 + 1 + 1 + 1 + 1 + 1 := (Nat.lt_succ_of_lt (Nat.lt_succ_self _))
  have y7_B5 : w.heap.size + 1 + 1 + 1 + 1 + 1 < w.heap.size + 1 + 1 + 1 + 1 + 1 + 1 := (Nat.lt_succ_self _)
  go_wp2_with fail
  obtain ⟨J0, hJ0⟩ : ∃ J : Nat → Act → World → Prop, Hid (J = fun i a Wl0 => ∀ G_ : Prop, (∀ (s0 : (Nat → Int) × (Nat → Int) × Bool) (t0_1 t0_2 t0_3 t0_4 t0_5 t0_13 t0_14 t0_16 t0_17 t0_18 t0_19 t0_20 t0_21 t0_22 t0_23 t0_24 t0_25 t0_26 t0_27 t0_28 t0_29 t0_30 t0_31 t0_32 t0_33 t0_34 t0_35 t0_36 t0_37 t0_38 t0_39 t0_40 t0_41 t0_42 t0_43 t0_44 t0_45 t0_46 t0_47 t0_48 t0_49 t0_50 t0_51 t0_52 t0_53 t0_54 t0_55 t0_56 t0_57 t0_58 : Value), Hid (hmetS_l0 g l c ((fun _ => 0), (fun _ => 0), bad) i = s0) → a = { tmps := #[.pointer (some ⟨b, 0, none⟩), t0_1, t0_2, t0_3, t0_4, t0_5, .pointer (some ⟨w.heap.size, 0, none⟩), .pointer (some ⟨w.heap.size + 1, 0, none⟩), .pointer (some ⟨w.heap.size + 1 + 1, 0, none⟩), .pointer (some ⟨w.heap.size + 1 + 1 + 1, 0, none⟩), .pointer (some ⟨w.heap.size + 1 + 1 + 1 + 1, 0, none⟩), .pointer (some ⟨w.heap.size + 1 + 1 + 1 + 1 + 1, 0, none⟩), .pointer (some ⟨w.heap.size + 1 + 1 + 1 + 1 + 1 + 1, 0, none⟩), t0_13, t0_14, .int .i64 (i : Int), t0_16, t0_17, t0_18, t0_19, t0_20, t0_21, t0_22, t0_23, t0_24, t0_25, t0_26, t0_27, t0_28, t0_29, t0_30, t0_31, t0_32, t0_33, t0_34, t0_35, t0_36, t0_37, t0_38, t0_39, t0_40, t0_41, t0_42, t0_43, t0_44, t0_45, t0_46, t0_47, t0_48, t0_49, t0_50, t0_51, t0_52, t0_53, t0_54, t0_55, t0_56, t0_57, t0_58], defers := [] } → Kept b w Wl0 → Fl b s0.2.2 Wl0 → Arr w.heap.size (row 43 g) Wl0 → Arr (w.heap.size + 1) (row 36 l) Wl0 → Arr (w.heap.size + 1 + 1) (row 36 c) Wl0 → Arr (w.heap.size + 1 + 1 + 1) (row 6 y) Wl0 → Arr (w.heap.size + 1 + 1 + 1 + 1) (row 43 (fun _ => 0)) Wl0 → Arr (w.heap.size + 1 + 1 + 1 + 1 + 1) (row 36 s0.1) Wl0 → Arr (w.heap.size + 1 + 1 + 1 + 1 + 1 + 1) (row 36 s0.2.1) Wl0 → G_) → G_) := ⟨_, rfl⟩
  refine rounds_up J0 6 ?_ ?_ ?_
  · rw [hJ0.out]
    intro G_ hG_
    exact hG_ ((fun _ => 0), (fun _ => 0), bad) _ _ _ _ _ _ _ _ _ _ _ _ _ _ _ _ _ _ _ _ _ _ _ _ _ _ _ _ _ _ _ _ _ _ _ _ _ _ _ _ _ _ _ _ _ _ _ _ _ _ rfl rfl ((((((((Kept.refl b w).al _).al _).al _).al _).al _).al _).al _) (((((((hw.alloc _).alloc _).alloc _).alloc _).alloc _).alloc _).alloc _) (((((((Arr_at _ _ (row 43 g) _ (by simp)).alloc _).alloc _).alloc _).alloc _).alloc _).alloc _) ((((((Arr_at _ _ (row 36 l) _ (by simp)).alloc _).alloc _).alloc _).alloc _).alloc _) (((((Arr_at _ _ (row 36 c) _ (by simp)).alloc _).alloc _).alloc _).alloc _) ((((Arr_at _ _ (row 6 y) _ (by simp)).alloc _).alloc _).alloc _) (((Arr_at _ _ (row 43 (fun _ => 0)) _ (by simp)).alloc _).alloc _) ((Arr_at _ _ (row 36 (fun _ => 0)) _ (by simp)).alloc _) (Arr_at _ _ (row 36 (fun _ => 0)) _ (by simp))
  · intro i a Wl0 hi hI R hR
    rw [hJ0.out] at hI
    refine hI _ ?_
    clear hI
    intro s0 t0_1 t0_2 t0_3 t0_4 t0_5 t0_13 t0_14 t0_16 t0_17 t0_18 t0_19 t0_20 t0_21 t0_22 t0_23 t0_24 t0_25 t0_26 t0_27 t0_28 t0_29 t0_30 t0_31 t0_32 t0_33 t0_34 t0_35 t0_36 t0_37 t0_38 t0_39 t0_40 t0_41 t0_42 t0_43 t0_44 t0_45 t0_46 t0_47 t0_48 t0_49 t0_50 t0_51 t0_52 t0_53 t0_54 t0_55 t0_56 t0_57 t0_58 El0 ea Kl0 BF_l0 B0_l0 B1_l0 B2_l0 B3_l0 B4_l0 B5_l0 B6_l0
    subst ea
    have zl0_BF := BF_l0.lies
    have zl0_B0 := B0_l0.lies
    have zl0_B1 := B1_l0.lies
    have zl0_B2 := B2_l0.lies
    have zl0_B3 := B3_l0.lies
    have zl0_B4 := B4_l0.lies
    have zl0_B5 := B5_l0.lies
    have zl0_B6 := B6_l0.lies
    go_wp2_with fail
    refine wp_region_held_drew (S := fun w' => Arr (w.heap.size + 1) (row 36 l) w' ∧ Arr (w.heap.size + 1 + 1) (row 36 c) w') (by kernel_rfl) ⟨B1_l0.drew, B2_l0.drew⟩ (fun hHeld => ?_)
    refine take_at (i := 0) (v := ?v29) rfl (by kernel_rfl) (by kernel_rfl) (by kernel_rfl) (fun _ _ _ h => h) (Or.inl ⟨by rfl, ?y29⟩) hHeld ?t29
    case y29 => (intro wx hSw; go_simp <;> with_reducible rfl)
    simp only [Act.put, List.setIfInBounds_toArray, List.set_cons_zero, List.set_cons_succ]
    refine take_at (i := 1) (v := ?v30) rfl (by kernel_rfl) (by kernel_rfl) (by kernel_rfl) (fun _ _ _ h => h) (Or.inl ⟨by rfl, ?y30⟩) hHeld ?t30
    case y30 => (intro wx hSw; go_simp <;> with_reducible rfl)
    simp only [Act.put, List.setIfInBounds_toArray, List.set_cons_zero, List.set_cons_succ]
    refine take_at (i := 2) rfl (by kernel_rfl) (by kernel_rfl) (by kernel_rfl) (fun _ _ _ h => h) (row_yield (by rfl) rfl rfl (fun _ hSw => hSw.1) (by kernel_rfl) (by rw [row_len]; kernel_rfl)) hHeld ?_
    simp only [Act.put, List.setIfInBounds_toArray, List.set_cons_zero, List.set_cons_succ]
    refine take_at (i := 3) (v := ?v31) rfl (by kernel_rfl) (by kernel_rfl) (by kernel_rfl) (fun _ _ _ h => h) (Or.inl ⟨by rfl, ?y31⟩) hHeld ?t31
    case y31 => (intro wx hSw; go_simp <;> with_reducible rfl)
    simp only [Act.put, List.setIfInBounds_toArray, List.set_cons_zero, List.set_cons_succ]
    refine take_at (i := 4) (v := ?v32) rfl (by kernel_rfl) (by kernel_rfl) (by kernel_rfl) (fun _ _ _ h => h) (Or.inl ⟨by rfl, ?y32⟩) hHeld ?t32
    case y32 => (intro wx hSw; have hi0 : (i : Int) < 6 := (by omega); go_simp <;> with_reducible rfl)
    simp only [Act.put, List.setIfInBounds_toArray, List.set_cons_zero, List.set_cons_succ]
    refine take_at (i := 5) rfl (by kernel_rfl) (by kernel_rfl) (by kernel_rfl) (fun _ _ _ h => h) (part_yield (M := 6) (by rfl) rfl rfl (fun _ hSw => hSw.2) (by omega) (by kernel_rfl) (by rw [row_len]; kernel_rfl)) hHeld ?_
    simp only [Act.put, List.setIfInBounds_toArray, List.set_cons_zero, List.set_cons_succ]
    refine call_at (i := 6) (by kernel_rfl) rfl (fun K hK => ?_)
    go_simp
    refine (hSolve6_any b s0.2.2 l (fun x_ => c (i * 6 + x_)) _ BF_l0.drew).mono ?_
    rintro e w1 ⟨rfl, f1, k1⟩
    generalize e1 : zSolve6 s0.2.2 l (fun x_ => c (i * 6 + x_)) = r1 at f1 ⊢
    have E1 : Hid _ := e1
    clear e1
    have K1 : Kept b w w1 := Kept.trans Kl0.drew k1
    have B0_1 : Arr w.heap.size (row 43 g) w1 := B0_l0.drew.kept k1 (Nat.ne_of_gt y1_BF)
    have B1_1 : Arr (w.heap.size + 1) (row 36 l) w1 := B1_l0.drew.kept k1 (Nat.ne_of_gt y2_BF)
    have B2_1 : Arr (w.heap.size + 1 + 1) (row 36 c) w1 := B2_l0.drew.kept k1 (Nat.ne_of_gt y3_BF)
    have B3_1 : Arr (w.heap.size + 1 + 1 + 1) (row 6 y) w1 := B3_l0.drew.kept k1 (Nat.ne_of_gt y4_BF)
    have B4_1 : Arr (w.heap.size + 1 + 1 + 1 + 1) (row 43 (fun _ => 0)) w1 := B4_l0.drew.kept k1 (Nat.ne_of_gt y5_BF)
    have B5_1 : Arr (w.heap.size + 1 + 1 + 1 + 1 + 1) (row 36 s0.1) w1 := B5_l0.drew.kept k1 (Nat.ne_of_gt y6_BF)
    have B6_1 : Arr (w.heap.size + 1 + 1 + 1 + 1 + 1 + 1) (row 36 s0.2.1) w1 := B6_l0.drew.kept k1 (Nat.ne_of_gt y7_BF)
    have z1 := B6_1.lies
    clear hHeld
    refine hK.out _ _ ⟨B1_1, B2_1⟩ (fun hHeld => ?_)
    clear hK K BF_l0 B0_l0 B1_l0 B2_l0 B3_l0 B4_l0 B5_l0 B6_l0 k1
    refine take_at (i := 7) (v := ?v33) rfl (by kernel_rfl) (by kernel_rfl) (by kernel_rfl) (fun _ _ _ h => h) (Or.inl ⟨by rfl, ?y33⟩) hHeld ?t33
    case y33 => (intro wx hSw; have hi0 : (i : Int) < 6 := (by omega); go_simp <;> with_reducible rfl)
    simp only [Act.put, List.setIfInBounds_toArray, List.set_cons_zero, List.set_cons_succ]
    refine call_at (i := 8) (by kernel_rfl) rfl (fun K hK => ?_)
    have c3_B5_0 : w1.cell? ⟨w.heap.size + 1 + 1 + 1 + 1 + 1, i * 6 + 1, none⟩ = some (.int .i64 (s0.1 (i * 6 + 1))) := row_c B5_1 (i * 6 + 1) (by omega)
    have c3_B5_1 : w1.cell? ⟨w.heap.size + 1 + 1 + 1 + 1 + 1, i * 6 + 2, none⟩ = some (.int .i64 (s0.1 (i * 6 + 2))) := row_c B5_1 (i * 6 + 2) (by omega)
    have c3_B5_2 : w1.cell? ⟨w.heap.size + 1 + 1 + 1 + 1 + 1, i * 6 + 3, none⟩ = some (.int .i64 (s0.1 (i * 6 + 3))) := row_c B5_1 (i * 6 + 3) (by omega)
    have c3_B5_3 : w1.cell? ⟨w.heap.size + 1 + 1 + 1 + 1 + 1, i * 6 + 4, none⟩ = some (.int .i64 (s0.1 (i * 6 + 4))) := row_c B5_1 (i * 6 + 4) (by omega)
    have c3_B5_4 : w1.cell? ⟨w.heap.size + 1 + 1 + 1 + 1 + 1, i * 6 + 5, none⟩ = some (.int .i64 (s0.1 (i * 6 + 5))) := row_c B5_1 (i * 6 + 5) (by omega)
    have c3_B5_5 : w1.cell? ⟨w.heap.size + 1 + 1 + 1 + 1 + 1, i * 6, none⟩ = some (.int .i64 (s0.1 (i * 6))) := row_c B5_1 (i * 6) (by omega)
    have g3_B5_6 := row_f B5_1 (i * 6 + 1) (by omega)
    have g3_B5_7 := row_f B5_1 (i * 6 + 2) (by omega)
    have g3_B5_8 := row_f B5_1 (i * 6 + 3) (by omega)
    have g3_B5_9 := row_f B5_1 (i * 6 + 4) (by omega)
    have g3_B5_10 := row_f B5_1 (i * 6 + 5) (by omega)
    have g3_B5_11 := row_f B5_1 (i * 6) (by omega)
    have hrow : (row 6 r1.1).toArray = #[.int .i64 (r1.1 0), .int .i64 (r1.1 1), .int .i64 (r1.1 2), .int .i64 (r1.1 3), .int .i64 (r1.1 4), .int .i64 (r1.1 5)] := rfl
    go_simp
    clear hHeld
    refine hK.out _ _ ⟨((((((B1_1.new (w.heap.size + 1 + 1 + 1 + 1 + 1) (i * 6) (Nat.ne_of_lt y6_B1) (.int .i64 (r1.1 0))).new (w.heap.size + 1 + 1 + 1 + 1 + 1) (i * 6 + 1) (Nat.ne_of_lt y6_B1) (.int .i64 (r1.1 1))).new (w.heap.size + 1 + 1 + 1 + 1 + 1) (i * 6 + 2) (Nat.ne_of_lt y6_B1) (.int .i64 (r1.1 2))).new (w.heap.size + 1 + 1 + 1 + 1 + 1) (i * 6 + 3) (Nat.ne_of_lt y6_B1) (.int .i64 (r1.1 3))).new (w.heap.size + 1 + 1 + 1 + 1 + 1) (i * 6 + 4) (Nat.ne_of_lt y6_B1) (.int .i64 (r1.1 4))).new (w.heap.size + 1 + 1 + 1 + 1 + 1) (i * 6 + 5) (Nat.ne_of_lt y6_B1) (.int .i64 (r1.1 5))), ((((((B2_1.new (w.heap.size + 1 + 1 + 1 + 1 + 1) (i * 6) (Nat.ne_of_lt y6_B2) (.int .i64 (r1.1 0))).new (w.heap.size + 1 + 1 + 1 + 1 + 1) (i * 6 + 1) (Nat.ne_of_lt y6_B2) (.int .i64 (r1.1 1))).new (w.heap.size + 1 + 1 + 1 + 1 + 1) (i * 6 + 2) (Nat.ne_of_lt y6_B2) (.int .i64 (r1.1 2))).new (w.heap.size + 1 + 1 + 1 + 1 + 1) (i * 6 + 3) (Nat.ne_of_lt y6_B2) (.int .i64 (r1.1 3))).new (w.heap.size + 1 + 1 + 1 + 1 + 1) (i * 6 + 4) (Nat.ne_of_lt y6_B2) (.int .i64 (r1.1 4))).new (w.heap.size + 1 + 1 + 1 + 1 + 1) (i * 6 + 5) (Nat.ne_of_lt y6_B2) (.int .i64 (r1.1 5)))⟩ (fun hHeld => ?_)
    clear hK K c3_B5_0 c3_B5_1 c3_B5_2 c3_B5_3 c3_B5_4 c3_B5_5 g3_B5_6 g3_B5_7 g3_B5_8 g3_B5_9 g3_B5_10 g3_B5_11 hrow
    refine wpAnyH_done (by kernel_rfl) ?_ _
    clear hHeld
    go_wp2_with fail
    refine code_letter (S := fun w' => Kept b w w' ∧ Fl b r1.2 w' ∧ Arr w.heap.size (row 43 g) w' ∧ Arr (w.heap.size + 1) (row 36 l) w' ∧ Arr (w.heap.size + 1 + 1) (row 36 c) w' ∧ Arr (w.heap.size + 1 + 1 + 1) (row 6 y) w' ∧ Arr (w.heap.size + 1 + 1 + 1 + 1) (row 43 (fun _ => 0)) w' ∧ Arr (w.heap.size + 1 + 1 + 1 + 1 + 1) (row 36 (updF (updF (updF (updF (updF (updF s0.1 (i * 6) (r1.1 0)) (i * 6 + 1) (r1.1 1)) (i * 6 + 2) (r1.1 2)) (i * 6 + 3) (r1.1 3)) (i * 6 + 4) (r1.1 4)) (i * 6 + 5) (r1.1 5))) w' ∧ Arr (w.heap.size + 1 + 1 + 1 + 1 + 1 + 1) (row 36 s0.2.1) w') ⟨((((((K1.new _ _ (by omega) _).new _ _ (by omega) _).new _ _ (by omega) _).new _ _ (by omega) _).new _ _ (by omega) _).new _ _ (by omega) _), ((((((f1.new (w.heap.size + 1 + 1 + 1 + 1 + 1) (i * 6) (Nat.ne_of_lt y6_BF) (.int .i64 (r1.1 0))).new (w.heap.size + 1 + 1 + 1 + 1 + 1) (i * 6 + 1) (Nat.ne_of_lt y6_BF) (.int .i64 (r1.1 1))).new (w.heap.size + 1 + 1 + 1 + 1 + 1) (i * 6 + 2) (Nat.ne_of_lt y6_BF) (.int .i64 (r1.1 2))).new (w.heap.size + 1 + 1 + 1 + 1 + 1) (i * 6 + 3) (Nat.ne_of_lt y6_BF) (.int .i64 (r1.1 3))).new (w.heap.size + 1 + 1 + 1 + 1 + 1) (i * 6 + 4) (Nat.ne_of_lt y6_BF) (.int .i64 (r1.1 4))).new (w.heap.size + 1 + 1 + 1 + 1 + 1) (i * 6 + 5) (Nat.ne_of_lt y6_BF) (.int .i64 (r1.1 5))), ((((((B0_1.new (w.heap.size + 1 + 1 + 1 + 1 + 1) (i * 6) (Nat.ne_of_lt y6_B0) (.int .i64 (r1.1 0))).new (w.heap.size + 1 + 1 + 1 + 1 + 1) (i * 6 + 1) (Nat.ne_of_lt y6_B0) (.int .i64 (r1.1 1))).new (w.heap.size + 1 + 1 + 1 + 1 + 1) (i * 6 + 2) (Nat.ne_of_lt y6_B0) (.int .i64 (r1.1 2))).new (w.heap.size + 1 + 1 + 1 + 1 + 1) (i * 6 + 3) (Nat.ne_of_lt y6_B0) (.int .i64 (r1.1 3))).new (w.heap.size + 1 + 1 + 1 + 1 + 1) (i * 6 + 4) (Nat.ne_of_lt y6_B0) (.int .i64 (r1.1 4))).new (w.heap.size + 1 + 1 + 1 + 1 + 1) (i * 6 + 5) (Nat.ne_of_lt y6_B0) (.int .i64 (r1.1 5))), ((((((B1_1.new (w.heap.size + 1 + 1 + 1 + 1 + 1) (i * 6) (Nat.ne_of_lt y6_B1) (.int .i64 (r1.1 0))).new (w.heap.size + 1 + 1 + 1 + 1 + 1) (i * 6 + 1) (Nat.ne_of_lt y6_B1) (.int .i64 (r1.1 1))).new (w.heap.size + 1 + 1 + 1 + 1 + 1) (i * 6 + 2) (Nat.ne_of_lt y6_B1) (.int .i64 (r1.1 2))).new (w.heap.size + 1 + 1 + 1 + 1 + 1) (i * 6 + 3) (Nat.ne_of_lt y6_B1) (.int .i64 (r1.1 3))).new (w.heap.size + 1 + 1 + 1 + 1 + 1) (i * 6 + 4) (Nat.ne_of_lt y6_B1) (.int .i64 (r1.1 4))).new (w.heap.size + 1 + 1 + 1 + 1 + 1) (i * 6 + 5) (Nat.ne_of_lt y6_B1) (.int .i64 (r1.1 5))), ((((((B2_1.new (w.heap.size + 1 + 1 + 1 + 1 + 1) (i * 6) (Nat.ne_of_lt y6_B2) (.int .i64 (r1.1 0))).new (w.heap.size + 1 + 1 + 1 + 1 + 1) (i * 6 + 1) (Nat.ne_of_lt y6_B2) (.int .i64 (r1.1 1))).new (w.heap.size + 1 + 1 + 1 + 1 + 1) (i * 6 + 2) (Nat.ne_of_lt y6_B2) (.int .i64 (r1.1 2))).new (w.heap.size + 1 + 1 + 1 + 1 + 1) (i * 6 + 3) (Nat.ne_of_lt y6_B2) (.int .i64 (r1.1 3))).new (w.heap.size + 1 + 1 + 1 + 1 + 1) (i * 6 + 4) (Nat.ne_of_lt y6_B2) (.int .i64 (r1.1 4))).new (w.heap.size + 1 + 1 + 1 + 1 + 1) (i * 6 + 5) (Nat.ne_of_lt y6_B2) (.int .i64 (r1.1 5))), ((((((B3_1.new (w.heap.size + 1 + 1 + 1 + 1 + 1) (i * 6) (Nat.ne_of_lt y6_B3) (.int .i64 (r1.1 0))).new (w.heap.size + 1 + 1 + 1 + 1 + 1) (i * 6 + 1) (Nat.ne_of_lt y6_B3) (.int .i64 (r1.1 1))).new (w.heap.size + 1 + 1 + 1 + 1 + 1) (i * 6 + 2) (Nat.ne_of_lt y6_B3) (.int .i64 (r1.1 2))).new (w.heap.size + 1 + 1 + 1 + 1 + 1) (i * 6 + 3) (Nat.ne_of_lt y6_B3) (.int .i64 (r1.1 3))).new (w.heap.size + 1 + 1 + 1 + 1 + 1) (i * 6 + 4) (Nat.ne_of_lt y6_B3) (.int .i64 (r1.1 4))).new (w.heap.size + 1 + 1 + 1 + 1 + 1) (i * 6 + 5) (Nat.ne_of_lt y6_B3) (.int .i64 (r1.1 5))), ((((((B4_1.new (w.heap.size + 1 + 1 + 1 + 1 + 1) (i * 6) (Nat.ne_of_lt y6_B4) (.int .i64 (r1.1 0))).new (w.heap.size + 1 + 1 + 1 + 1 + 1) (i * 6 + 1) (Nat.ne_of_lt y6_B4) (.int .i64 (r1.1 1))).new (w.heap.size + 1 + 1 + 1 + 1 + 1) (i * 6 + 2) (Nat.ne_of_lt y6_B4) (.int .i64 (r1.1 2))).new (w.heap.size + 1 + 1 + 1 + 1 + 1) (i * 6 + 3) (Nat.ne_of_lt y6_B4) (.int .i64 (r1.1 3))).new (w.heap.size + 1 + 1 + 1 + 1 + 1) (i * 6 + 4) (Nat.ne_of_lt y6_B4) (.int .i64 (r1.1 4))).new (w.heap.size + 1 + 1 + 1 + 1 + 1) (i * 6 + 5) (Nat.ne_of_lt y6_B4) (.int .i64 (r1.1 5))), (row_put (row_put (row_put (row_put (row_put (row_put B5_1 (i * 6) (by omega) (r1.1 0)) (i * 6 + 1) (by omega) (r1.1 1)) (i * 6 + 2) (by omega) (r1.1 2)) (i * 6 + 3) (by omega) (r1.1 3)) (i * 6 + 4) (by omega) (r1.1 4)) (i * 6 + 5) (by omega) (r1.1 5)), ((((((B6_1.new (w.heap.size + 1 + 1 + 1 + 1 + 1) (i * 6) (Nat.ne_of_gt y7_B5) (.int .i64 (r1.1 0))).new (w.heap.size + 1 + 1 + 1 + 1 + 1) (i * 6 + 1) (Nat.ne_of_gt y7_B5) (.int .i64 (r1.1 1))).new (w.heap.size + 1 + 1 + 1 + 1 + 1) (i * 6 + 2) (Nat.ne_of_gt y7_B5) (.int .i64 (r1.1 2))).new (w.heap.size + 1 + 1 + 1 + 1 + 1) (i * 6 + 3) (Nat.ne_of_gt y7_B5) (.int .i64 (r1.1 3))).new (w.heap.size + 1 + 1 + 1 + 1 + 1) (i * 6 + 4) (Nat.ne_of_gt y7_B5) (.int .i64 (r1.1 4))).new (w.heap.size + 1 + 1 + 1 + 1 + 1) (i * 6 + 5) (Nat.ne_of_gt y7_B5) (.int .i64 (r1.1 5)))⟩ ?_
    rintro w2 ⟨K2, BF_2, B0_2, B1_2, B2_2, B3_2, B4_2, B5_2, B6_2⟩
    have z2 := B6_2.lies
    clear K1 f1 B0_1 B1_1 B2_1 B3_1 B4_1 B5_1 B6_1
    refine wp_region_held_drew (S := fun w' => Arr w.heap.size (row 43 g) w' ∧ Arr (w.heap.size + 1 + 1) (row 36 c) w' ∧ Arr (w.heap.size + 1 + 1 + 1 + 1 + 1) (row 36 (updF (updF (updF (updF (updF (updF s0.1 (i * 6) (r1.1 0)) (i * 6 + 1) (r1.1 1)) (i * 6 + 2) (r1.1 2)) (i * 6 + 3) (r1.1 3)) (i * 6 + 4) (r1.1 4)) (i * 6 + 5) (r1.1 5))) w') (by kernel_rfl) ⟨B0_2.drew, B2_2.drew, B5_2.drew⟩ (fun hHeld => ?_)
    refine take_at (i := 0) (v := ?v34) rfl (by kernel_rfl) (by kernel_rfl) (by kernel_rfl) (fun _ _ _ h => h) (Or.inl ⟨by rfl, ?y34⟩) hHeld ?t34
    case y34 => (intro wx hSw; go_simp <;> with_reducible rfl)
    simp only [Act.put, List.setIfInBounds_toArray, List.set_cons_zero, List.set_cons_succ]
    refine take_at (i := 1) (v := ?v35) rfl (by kernel_rfl) (by kernel_rfl) (by kernel_rfl) (fun _ _ _ h => h) (Or.inl ⟨by rfl, ?y35⟩) hHeld ?t35
    case y35 => (intro wx hSw; go_simp <;> with_reducible rfl)
    simp only [Act.put, List.setIfInBounds_toArray, List.set_cons_zero, List.set_cons_succ]
    refine take_at (i := 2) (v := ?v36) rfl (by kernel_rfl) (by kernel_rfl) (by kernel_rfl) (fun _ _ _ h => h) (Or.inl ⟨by rfl, ?y36⟩) hHeld ?t36
    case y36 => (intro wx hSw; go_simp <;> with_reducible rfl)
    simp only [Act.put, List.setIfInBounds_toArray, List.set_cons_zero, List.set_cons_succ]
    refine take_at (i := 3) (v := ?v37) rfl (by kernel_rfl) (by kernel_rfl) (by kernel_rfl) (fun _ _ _ h => h) (Or.inl ⟨by rfl, ?y37⟩) hHeld ?t37
    case y37 => (intro wx hSw; go_simp <;> with_reducible rfl)
    simp only [Act.put, List.setIfInBounds_toArray, List.set_cons_zero, List.set_cons_succ]
    refine take_at (i := 4) (v := ?v38) rfl (by kernel_rfl) (by kernel_rfl) (by kernel_rfl) (fun _ _ _ h => h) (Or.inl ⟨by rfl, ?y38⟩) hHeld ?t38
    case y38 => (intro wx hSw; have hi0 : (i : Int) < 6 := (by omega); go_simp <;> with_reducible rfl)
    simp only [Act.put, List.setIfInBounds_toArray, List.set_cons_zero, List.set_cons_succ]
    refine take_at (i := 5) rfl (by kernel_rfl) (by kernel_rfl) (by kernel_rfl) (fun _ _ _ h => h) (part_yield (M := 6) (by rfl) rfl rfl (fun _ hSw => hSw.1) (by omega) (by kernel_rfl) (by rw [row_len]; kernel_rfl)) hHeld ?_
    simp only [Act.put, List.setIfInBounds_toArray, List.set_cons_zero, List.set_cons_succ]
    refine take_at (i := 6) (v := ?v39) rfl (by kernel_rfl) (by kernel_rfl) (by kernel_rfl) (fun _ _ _ h => h) (Or.inl ⟨by rfl, ?y39⟩) hHeld ?t39
    case y39 => (intro wx hSw; go_simp <;> with_reducible rfl)
    simp only [Act.put, List.setIfInBounds_toArray, List.set_cons_zero, List.set_cons_succ]
    refine take_at (i := 7) rfl (by kernel_rfl) (by kernel_rfl) (by kernel_rfl) (fun _ _ _ h => h) (row_yield (by rfl) rfl rfl (fun _ hSw => hSw.2.1) (by kernel_rfl) (by rw [row_len]; kernel_rfl)) hHeld ?_
    simp only [Act.put, List.setIfInBounds_toArray, List.set_cons_zero, List.set_cons_succ]
    refine take_at (i := 8) (v := ?v40) rfl (by kernel_rfl) (by kernel_rfl) (by kernel_rfl) (fun _ _ _ h => h) (Or.inl ⟨by rfl, ?y40⟩) hHeld ?t40
    case y40 => (intro wx hSw; go_simp <;> with_reducible rfl)
    simp only [Act.put, List.setIfInBounds_toArray, List.set_cons_zero, List.set_cons_succ]
    refine take_at (i := 9) (v := ?v41) rfl (by kernel_rfl) (by kernel_rfl) (by kernel_rfl) (fun _ _ _ h => h) (Or.inl ⟨by rfl, ?y41⟩) hHeld ?t41
    case y41 => (intro wx hSw; have hi0 : (i : Int) < 6 := (by omega); go_simp <;> with_reducible rfl)
    simp only [Act.put, List.setIfInBounds_toArray, List.set_cons_zero, List.set_cons_succ]
    refine take_at (i := 10) rfl (by kernel_rfl) (by kernel_rfl) (by kernel_rfl) (fun _ _ _ h => h) (part_yield (M := 6) (by rfl) rfl rfl (fun _ hSw => hSw.2.2) (by omega) (by kernel_rfl) (by rw [row_len]; kernel_rfl)) hHeld ?_
    simp only [Act.put, List.setIfInBounds_toArray, List.set_cons_zero, List.set_cons_succ]
    refine call_at (i := 11) (by kernel_rfl) rfl (fun K hK => ?_)
    go_simp
    refine (hApply6_any b r1.2 c (fun x_ => (updF (updF (updF (updF (updF (updF s0.1 (i * 6) (r1.1 0)) (i * 6 + 1) (r1.1 1)) (i * 6 + 2) (r1.1 2)) (i * 6 + 3) (r1.1 3)) (i * 6 + 4) (r1.1 4)) (i * 6 + 5) (r1.1 5)) (i * 6 + x_)) _ BF_2.drew).mono ?_
    rintro e w3 ⟨rfl, f3, k3⟩
    generalize e3 : zApply6 r1.2 c (fun x_ => (updF (updF (updF (updF (updF (updF s0.1 (i * 6) (r1.1 0)) (i * 6 + 1) (r1.1 1)) (i * 6 + 2) (r1.1 2)) (i * 6 + 3) (r1.1 3)) (i * 6 + 4) (r1.1 4)) (i * 6 + 5) (r1.1 5)) (i * 6 + x_)) = r3 at f3 ⊢
    have E3 : Hid _ := e3
    clear e3
    have K3 : Kept b w w3 := Kept.trans K2.drew k3
    have B0_3 : Arr w.heap.size (row 43 g) w3 := B0_2.drew.kept k3 (Nat.ne_of_gt y1_BF)
    have B1_3 : Arr (w.heap.size + 1) (row 36 l) w3 := B1_2.drew.kept k3 (Nat.ne_of_gt y2_BF)
    have B2_3 : Arr (w.heap.size + 1 + 1) (row 36 c) w3 := B2_2.drew.kept k3 (Nat.ne_of_gt y3_BF)
    have B3_3 : Arr (w.heap.size + 1 + 1 + 1) (row 6 y) w3 := B3_2.drew.kept k3 (Nat.ne_of_gt y4_BF)
    have B4_3 : Arr (w.heap.size + 1 + 1 + 1 + 1) (row 43 (fun _ => 0)) w3 := B4_2.drew.kept k3 (Nat.ne_of_gt y5_BF)
    have B5_3 : Arr (w.heap.size + 1 + 1 + 1 + 1 + 1) (row 36 (updF (updF (updF (updF (updF (updF s0.1 (i * 6) (r1.1 0)) (i * 6 + 1) (r1.1 1)) (i * 6 + 2) (r1.1 2)) (i * 6 + 3) (r1.1 3)) (i * 6 + 4) (r1.1 4)) (i * 6 + 5) (r1.1 5))) w3 := B5_2.drew.kept k3 (Nat.ne_of_gt y6_BF)
    have B6_3 : Arr (w.heap.size + 1 + 1 + 1 + 1 + 1 + 1) (row 36 s0.2.1) w3 := B6_2.drew.kept k3 (Nat.ne_of_gt y7_BF)
    have z3 := B6_3.lies
    clear hHeld
    refine hK.out _ _ ⟨B0_3, B2_3, B5_3⟩ (fun hHeld => ?_)
    clear hK K K2 BF_2 B0_2 B1_2 B2_2 B3_2 B4_2 B5_2 B6_2 k3
    refine call_at (i := 12) (by kernel_rfl) rfl (fun K hK => ?_)
    go_simp
    refine (hless_any b r3.2 (fun x_ => g (7 + i * 6 + x_)) r3.1 _ f3).mono ?_
    rintro e w4 ⟨rfl, f4, k4⟩
    generalize e4 : hlessS r3.2 (fun x_ => g (7 + i * 6 + x_)) r3.1 = r4 at f4 ⊢
    have E4 : Hid _ := e4
    clear e4
    have K4 : Kept b w w4 := Kept.trans K3 k4
    have B0_4 : Arr w.heap.size (row 43 g) w4 := B0_3.kept k4 (Nat.ne_of_gt y1_BF)
    have B1_4 : Arr (w.heap.size + 1) (row 36 l) w4 := B1_3.kept k4 (Nat.ne_of_gt y2_BF)
    have B2_4 : Arr (w.heap.size + 1 + 1) (row 36 c) w4 := B2_3.kept k4 (Nat.ne_of_gt y3_BF)
    have B3_4 : Arr (w.heap.size + 1 + 1 + 1) (row 6 y) w4 := B3_3.kept k4 (Nat.ne_of_gt y4_BF)
    have B4_4 : Arr (w.heap.size + 1 + 1 + 1 + 1) (row 43 (fun _ => 0)) w4 := B4_3.kept k4 (Nat.ne_of_gt y5_BF)
    have B5_4 : Arr (w.heap.size + 1 + 1 + 1 + 1 + 1) (row 36 (updF (updF (updF (updF (updF (updF s0.1 (i * 6) (r1.1 0)) (i * 6 + 1) (r1.1 1)) (i * 6 + 2) (r1.1 2)) (i * 6 + 3) (r1.1 3)) (i * 6 + 4) (r1.1 4)) (i * 6 + 5) (r1.1 5))) w4 := B5_3.kept k4 (Nat.ne_of_gt y6_BF)
    have B6_4 : Arr (w.heap.size + 1 + 1 + 1 + 1 + 1 + 1) (row 36 s0.2.1) w4 := B6_3.kept k4 (Nat.ne_of_gt y7_BF)
    have z4 := B6_4.lies
    clear hHeld
    refine hK.out _ _ ⟨B0_4, B2_4, B5_4⟩ (fun hHeld => ?_)
    clear hK K K3 f3 B0_3 B1_3 B2_3 B3_3 B4_3 B5_3 B6_3 k4
    refine take_at (i := 13) (v := ?v42) rfl (by kernel_rfl) (by kernel_rfl) (by kernel_rfl) (fun _ _ _ h => h) (Or.inl ⟨by rfl, ?y42⟩) hHeld ?t42
    case y42 => (intro wx hSw; have hi0 : (i : Int) < 6 := (by omega); go_simp <;> with_reducible rfl)
    simp only [Act.put, List.setIfInBounds_toArray, List.set_cons_zero, List.set_cons_succ]
    refine call_at (i := 14) (by kernel_rfl) rfl (fun K hK => ?_)
    have c5_B6_0 : w4.cell? ⟨w.heap.size + 1 + 1 + 1 + 1 + 1 + 1, i * 6 + 1, none⟩ = some (.int .i64 (s0.2.1 (i * 6 + 1))) := row_c B6_4 (i * 6 + 1) (by omega)
    have c5_B6_1 : w4.cell? ⟨w.heap.size + 1 + 1 + 1 + 1 + 1 + 1, i * 6 + 2, none⟩ = some (.int .i64 (s0.2.1 (i * 6 + 2))) := row_c B6_4 (i * 6 + 2) (by omega)
    have c5_B6_2 : w4.cell? ⟨w.heap.size + 1 + 1 + 1 + 1 + 1 + 1, i * 6 + 3, none⟩ = some (.int .i64 (s0.2.1 (i * 6 + 3))) := row_c B6_4 (i * 6 + 3) (by omega)
    have c5_B6_3 : w4.cell? ⟨w.heap.size + 1 + 1 + 1 + 1 + 1 + 1, i * 6 + 4, none⟩ = some (.int .i64 (s0.2.1 (i * 6 + 4))) := row_c B6_4 (i * 6 + 4) (by omega)
    have c5_B6_4 : w4.cell? ⟨w.heap.size + 1 + 1 + 1 + 1 + 1 + 1, i * 6 + 5, none⟩ = some (.int .i64 (s0.2.1 (i * 6 + 5))) := row_c B6_4 (i * 6 + 5) (by omega)
    have c5_B6_5 : w4.cell? ⟨w.heap.size + 1 + 1 + 1 + 1 + 1 + 1, i * 6, none⟩ = some (.int .i64 (s0.2.1 (i * 6))) := row_c B6_4 (i * 6) (by omega)
    have g5_B6_6 := row_f B6_4 (i * 6 + 1) (by omega)
    have g5_B6_7 := row_f B6_4 (i * 6 + 2) (by omega)
    have g5_B6_8 := row_f B6_4 (i * 6 + 3) (by omega)
    have g5_B6_9 := row_f B6_4 (i * 6 + 4) (by omega)
    have g5_B6_10 := row_f B6_4 (i * 6 + 5) (by omega)
    have g5_B6_11 := row_f B6_4 (i * 6) (by omega)
    have hrow : (row 6 r4.1).toArray = #[.int .i64 (r4.1 0), .int .i64 (r4.1 1), .int .i64 (r4.1 2), .int .i64 (r4.1 3), .int .i64 (r4.1 4), .int .i64 (r4.1 5)] := rfl
    go_simp
    clear hHeld
    refine hK.out _ _ ⟨((((((B0_4.new (w.heap.size + 1 + 1 + 1 + 1 + 1 + 1) (i * 6) (Nat.ne_of_lt y7_B0) (.int .i64 (r4.1 0))).new (w.heap.size + 1 + 1 + 1 + 1 + 1 + 1) (i * 6 + 1) (Nat.ne_of_lt y7_B0) (.int .i64 (r4.1 1))).new (w.heap.size + 1 + 1 + 1 + 1 + 1 + 1) (i * 6 + 2) (Nat.ne_of_lt y7_B0) (.int .i64 (r4.1 2))).new (w.heap.size + 1 + 1 + 1 + 1 + 1 + 1) (i * 6 + 3) (Nat.ne_of_lt y7_B0) (.int .i64 (r4.1 3))).new (w.heap.size + 1 + 1 + 1 + 1 + 1 + 1) (i * 6 + 4) (Nat.ne_of_lt y7_B0) (.int .i64 (r4.1 4))).new (w.heap.size + 1 + 1 + 1 + 1 + 1 + 1) (i * 6 + 5) (Nat.ne_of_lt y7_B0) (.int .i64 (r4.1 5))), ((((((B2_4.new (w.heap.size + 1 + 1 + 1 + 1 + 1 + 1) (i * 6) (Nat.ne_of_lt y7_B2) (.int .i64 (r4.1 0))).new (w.heap.size + 1 + 1 + 1 + 1 + 1 + 1) (i * 6 + 1) (Nat.ne_of_lt y7_B2) (.int .i64 (r4.1 1))).new (w.heap.size + 1 + 1 + 1 + 1 + 1 + 1) (i * 6 + 2) (Nat.ne_of_lt y7_B2) (.int .i64 (r4.1 2))).new (w.heap.size + 1 + 1 + 1 + 1 + 1 + 1) (i * 6 + 3) (Nat.ne_of_lt y7_B2) (.int .i64 (r4.1 3))).new (w.heap.size + 1 + 1 + 1 + 1 + 1 + 1) (i * 6 + 4) (Nat.ne_of_lt y7_B2) (.int .i64 (r4.1 4))).new (w.heap.size + 1 + 1 + 1 + 1 + 1 + 1) (i * 6 + 5) (Nat.ne_of_lt y7_B2) (.int .i64 (r4.1 5))), ((((((B5_4.new (w.heap.size + 1 + 1 + 1 + 1 + 1 + 1) (i * 6) (Nat.ne_of_lt y7_B5) (.int .i64 (r4.1 0))).new (w.heap.size + 1 + 1 + 1 + 1 + 1 + 1) (i * 6 + 1) (Nat.ne_of_lt y7_B5) (.int .i64 (r4.1 1))).new (w.heap.size + 1 + 1 + 1 + 1 + 1 + 1) (i * 6 + 2) (Nat.ne_of_lt y7_B5) (.int .i64 (r4.1 2))).new (w.heap.size + 1 + 1 + 1 + 1 + 1 + 1) (i * 6 + 3) (Nat.ne_of_lt y7_B5) (.int .i64 (r4.1 3))).new (w.heap.size + 1 + 1 + 1 + 1 + 1 + 1) (i * 6 + 4) (Nat.ne_of_lt y7_B5) (.int .i64 (r4.1 4))).new (w.heap.size + 1 + 1 + 1 + 1 + 1 + 1) (i * 6 + 5) (Nat.ne_of_lt y7_B5) (.int .i64 (r4.1 5)))⟩ (fun hHeld => ?_)
    clear hK K c5_B6_0 c5_B6_1 c5_B6_2 c5_B6_3 c5_B6_4 c5_B6_5 g5_B6_6 g5_B6_7 g5_B6_8 g5_B6_9 g5_B6_10 g5_B6_11 hrow
    refine wpAnyH_done (by kernel_rfl) ?_ _
    clear hHeld
    go_wp2_with fail
    have hs0 : Hid (hmetS_l0 g l c ((fun _ => 0), (fun _ => 0), bad) (i + 1) = ((updF (updF (updF (updF (updF (updF s0.1 (i * 6) (r1.1 0)) (i * 6 + 1) (r1.1 1)) (i * 6 + 2) (r1.1 2)) (i * 6 + 3) (r1.1 3)) (i * 6 + 4) (r1.1 4)) (i * 6 + 5) (r1.1 5)), (updF (updF (updF (updF (updF (updF s0.2.1 (i * 6) (r4.1 0)) (i * 6 + 1) (r4.1 1)) (i * 6 + 2) (r4.1 2)) (i * 6 + 3) (r4.1 3)) (i * 6 + 4) (r4.1 4)) (i * 6 + 5) (r4.1 5)), r4.2)) := by show _ = _; rw [hmetS_l0_succ]; unfold hmetS_l0s; simp only [El0.out, E1.out, E3.out, E4.out]
    rw [hJ0.out]
    intro G_ hG_
    exact hG_ ((updF (updF (updF (updF (updF (updF s0.1 (i * 6) (r1.1 0)) (i * 6 + 1) (r1.1 1)) (i * 6 + 2) (r1.1 2)) (i * 6 + 3) (r1.1 3)) (i * 6 + 4) (r1.1 4)) (i * 6 + 5) (r1.1 5)), (updF (updF (updF (updF (updF (updF s0.2.1 (i * 6) (r4.1 0)) (i * 6 + 1) (r4.1 1)) (i * 6 + 2) (r4.1 2)) (i * 6 + 3) (r4.1 3)) (i * 6 + 4) (r4.1 4)) (i * 6 + 5) (r4.1 5)), r4.2) _ _ _ _ _ _ _ _ _ _ _ _ _ _ _ _ _ _ _ _ _ _ _ _ _ _ _ _ _ _ _ _ _ _ _ _ _ _ _ _ _ _ _ _ _ _ _ _ _ _ hs0 rfl ((((((K4.new _ _ (by omega) _).new _ _ (by omega) _).new _ _ (by omega) _).new _ _ (by omega) _).new _ _ (by omega) _).new _ _ (by omega) _) ((((((f4.new (w.heap.size + 1 + 1 + 1 + 1 + 1 + 1) (i * 6) (Nat.ne_of_lt y7_BF) (.int .i64 (r4.1 0))).new (w.heap.size + 1 + 1 + 1 + 1 + 1 + 1) (i * 6 + 1) (Nat.ne_of_lt y7_BF) (.int .i64 (r4.1 1))).new (w.heap.size + 1 + 1 + 1 + 1 + 1 + 1) (i * 6 + 2) (Nat.ne_of_lt y7_BF) (.int .i64 (r4.1 2))).new (w.heap.size + 1 + 1 + 1 + 1 + 1 + 1) (i * 6 + 3) (Nat.ne_of_lt y7_BF) (.int .i64 (r4.1 3))).new (w.heap.size + 1 + 1 + 1 + 1 + 1 + 1) (i * 6 + 4) (Nat.ne_of_lt y7_BF) (.int .i64 (r4.1 4))).new (w.heap.size + 1 + 1 + 1 + 1 + 1 + 1) (i * 6 + 5) (Nat.ne_of_lt y7_BF) (.int .i64 (r4.1 5))) ((((((B0_4.new (w.heap.size + 1 + 1 + 1 + 1 + 1 + 1) (i * 6) (Nat.ne_of_lt y7_B0) (.int .i64 (r4.1 0))).new (w.heap.size + 1 + 1 + 1 + 1 + 1 + 1) (i * 6 + 1) (Nat.ne_of_lt y7_B0) (.int .i64 (r4.1 1))).new (w.heap.size + 1 + 1 + 1 + 1 + 1 + 1) (i * 6 + 2) (Nat.ne_of_lt y7_B0) (.int .i64 (r4.1 2))).new (w.heap.size + 1 + 1 + 1 + 1 + 1 + 1) (i * 6 + 3) (Nat.ne_of_lt y7_B0) (.int .i64 (r4.1 3))).new (w.heap.size + 1 + 1 + 1 + 1 + 1 + 1) (i * 6 + 4) (Nat.ne_of_lt y7_B0) (.int .i64 (r4.1 4))).new (w.heap.size + 1 + 1 + 1 + 1 + 1 + 1) (i * 6 + 5) (Nat.ne_of_lt y7_B0) (.int .i64 (r4.1 5))) ((((((B1_4.new (w.heap.size + 1 + 1 + 1 + 1 + 1 + 1) (i * 6) (Nat.ne_of_lt y7_B1) (.int .i64 (r4.1 0))).new (w.heap.size + 1 + 1 + 1 + 1 + 1 + 1) (i * 6 + 1) (Nat.ne_of_lt y7_B1) (.int .i64 (r4.1 1))).new (w.heap.size + 1 + 1 + 1 + 1 + 1 + 1) (i * 6 + 2) (Nat.ne_of_lt y7_B1) (.int .i64 (r4.1 2))).new (w.heap.size + 1 + 1 + 1 + 1 + 1 + 1) (i * 6 + 3) (Nat.ne_of_lt y7_B1) (.int .i64 (r4.1 3))).new (w.heap.size + 1 + 1 + 1 + 1 + 1 + 1) (i * 6 + 4) (Nat.ne_of_lt y7_B1) (.int .i64 (r4.1 4))).new (w.heap.size + 1 + 1 + 1 + 1 + 1 + 1) (i * 6 + 5) (Nat.ne_of_lt y7_B1) (.int .i64 (r4.1 5))) ((((((B2_4.new (w.heap.size + 1 + 1 + 1 + 1 + 1 + 1) (i * 6) (Nat.ne_of_lt y7_B2) (.int .i64 (r4.1 0))).new (w.heap.size + 1 + 1 + 1 + 1 + 1 + 1) (i * 6 + 1) (Nat.ne_of_lt y7_B2) (.int .i64 (r4.1 1))).new (w.heap.size + 1 + 1 + 1 + 1 + 1 + 1) (i * 6 + 2) (Nat.ne_of_lt y7_B2) (.int .i64 (r4.1 2))).new (w.heap.size + 1 + 1 + 1 + 1 + 1 + 1) (i * 6 + 3) (Nat.ne_of_lt y7_B2) (.int .i64 (r4.1 3))).new (w.heap.size + 1 + 1 + 1 + 1 + 1 + 1) (i * 6 + 4) (Nat.ne_of_lt y7_B2) (.int .i64 (r4.1 4))).new (w.heap.size + 1 + 1 + 1 + 1 + 1 + 1) (i * 6 + 5) (Nat.ne_of_lt y7_B2) (.int .i64 (r4.1 5))) ((((((B3_4.new (w.heap.size + 1 + 1 + 1 + 1 + 1 + 1) (i * 6) (Nat.ne_of_lt y7_B3) (.int .i64 (r4.1 0))).new (w.heap.size + 1 + 1 + 1 + 1 + 1 + 1) (i * 6 + 1) (Nat.ne_of_lt y7_B3) (.int .i64 (r4.1 1))).new (w.heap.size + 1 + 1 + 1 + 1 + 1 + 1) (i * 6 + 2) (Nat.ne_of_lt y7_B3) (.int .i64 (r4.1 2))).new (w.heap.size + 1 + 1 + 1 + 1 + 1 + 1) (i * 6 + 3) (Nat.ne_of_lt y7_B3) (.int .i64 (r4.1 3))).new (w.heap.size + 1 + 1 + 1 + 1 + 1 + 1) (i * 6 + 4) (Nat.ne_of_lt y7_B3) (.int .i64 (r4.1 4))).new (w.heap.size + 1 + 1 + 1 + 1 + 1 + 1) (i * 6 + 5) (Nat.ne_of_lt y7_B3) (.int .i64 (r4.1 5))) ((((((B4_4.new (w.heap.size + 1 + 1 + 1 + 1 + 1 + 1) (i * 6) (Nat.ne_of_lt y7_B4) (.int .i64 (r4.1 0))).new (w.heap.size + 1 + 1 + 1 + 1 + 1 + 1) (i * 6 + 1) (Nat.ne_of_lt y7_B4) (.int .i64 (r4.1 1))).new (w.heap.size + 1 + 1 + 1 + 1 + 1 + 1) (i * 6 + 2) (Nat.ne_of_lt y7_B4) (.int .i64 (r4.1 2))).new (w.heap.size + 1 + 1 + 1 + 1 + 1 + 1) (i * 6 + 3) (Nat.ne_of_lt y7_B4) (.int .i64 (r4.1 3))).new (w.heap.size + 1 + 1 + 1 + 1 + 1 + 1) (i * 6 + 4) (Nat.ne_of_lt y7_B4) (.int .i64 (r4.1 4))).new (w.heap.size + 1 + 1 + 1 + 1 + 1 + 1) (i * 6 + 5) (Nat.ne_of_lt y7_B4) (.int .i64 (r4.1 5))) ((((((B5_4.new (w.heap.size + 1 + 1 + 1 + 1 + 1 + 1) (i * 6) (Nat.ne_of_lt y7_B5) (.int .i64 (r4.1 0))).new (w.heap.size + 1 + 1 + 1 + 1 + 1 + 1) (i * 6 + 1) (Nat.ne_of_lt y7_B5) (.int .i64 (r4.1 1))).new (w.heap.size + 1 + 1 + 1 + 1 + 1 + 1) (i * 6 + 2) (Nat.ne_of_lt y7_B5) (.int .i64 (r4.1 2))).new (w.heap.size + 1 + 1 + 1 + 1 + 1 + 1) (i * 6 + 3) (Nat.ne_of_lt y7_B5) (.int .i64 (r4.1 3))).new (w.heap.size + 1 + 1 + 1 + 1 + 1 + 1) (i * 6 + 4) (Nat.ne_of_lt y7_B5) (.int .i64 (r4.1 4))).new (w.heap.size + 1 + 1 + 1 + 1 + 1 + 1) (i * 6 + 5) (Nat.ne_of_lt y7_B5) (.int .i64 (r4.1 5))) (row_put (row_put (row_put (row_put (row_put (row_put B6_4 (i * 6) (by omega) (r4.1 0)) (i * 6 + 1) (by omega) (r4.1 1)) (i * 6 + 2) (by omega) (r4.1 2)) (i * 6 + 3) (by omega) (r4.1 3)) (i * 6 + 4) (by omega) (r4.1 4)) (i * 6 + 5) (by omega) (r4.1 5))
  · intro a Wl0 hI R
    rw [hJ0.out] at hI
    refine hI _ ?_
    clear hI hJ0
    intro r5 t0_1 t0_2 t0_3 t0_4 t0_5 t0_13 t0_14 t0_16 t0_17 t0_18 t0_19 t0_20 t0_21 t0_22 t0_23 t0_24 t0_25 t0_26 t0_27 t0_28 t0_29 t0_30 t0_31 t0_32 t0_33 t0_34 t0_35 t0_36 t0_37 t0_38 t0_39 t0_40 t0_41 t0_42 t0_43 t0_44 t0_45 t0_46 t0_47 t0_48 t0_49 t0_50 t0_51 t0_52 t0_53 t0_54 t0_55 t0_56 t0_57 t0_58 E5 ea Kl0 BF_l0 B0_l0 B1_l0 B2_l0 B3_l0 B4_l0 B5_l0 B6_l0
    subst ea
    have zl0_BF := BF_l0.lies
    have zl0_B0 := B0_l0.lies
    have zl0_B1 := B1_l0.lies
    have zl0_B2 := B2_l0.lies
    have zl0_B3 := B3_l0.lies
    have zl0_B4 := B4_l0.lies
    have zl0_B5 := B5_l0.lies
    have zl0_B6 := B6_l0.lies
    go_wp2_with (first | (refine row_load (ty := 29) rfl rfl rfl B5_l0 (by kernel_rfl) (by rw [row_len]; kernel_rfl) ?_) | (refine row_load (ty := 27) rfl rfl rfl B3_l0 (by kernel_rfl) (by rw [row_len]; kernel_rfl) ?_))
    refine (hApply6_any b r5.2.2 r5.1 y _ BF_l0).mono ?_
    rintro e w6 ⟨rfl, f6, k6⟩
    generalize e6 : zApply6 r5.2.2 r5.1 y = r6 at f6 ⊢
    have E6 : Hid _ := e6
    clear e6
    try dsimp only
    have K6 : Kept b w w6 := Kept.trans Kl0 k6
    have B0_6 : Arr w.heap.size (row 43 g) w6 := B0_l0.kept k6 (Nat.ne_of_gt y1_BF)
    have B1_6 : Arr (w.heap.size + 1) (row 36 l) w6 := B1_l0.kept k6 (Nat.ne_of_gt y2_BF)
    have B2_6 : Arr (w.heap.size + 1 + 1) (row 36 c) w6 := B2_l0.kept k6 (Nat.ne_of_gt y3_BF)
    have B3_6 : Arr (w.heap.size + 1 + 1 + 1) (row 6 y) w6 := B3_l0.kept k6 (Nat.ne_of_gt y4_BF)
    have B4_6 : Arr (w.heap.size + 1 + 1 + 1 + 1) (row 43 (fun _ => 0)) w6 := B4_l0.kept k6 (Nat.ne_of_gt y5_BF)
    have B5_6 : Arr (w.heap.size + 1 + 1 + 1 + 1 + 1) (row 36 r5.1) w6 := B5_l0.kept k6 (Nat.ne_of_gt y6_BF)
    have B6_6 : Arr (w.heap.size + 1 + 1 + 1 + 1 + 1 + 1) (row 36 r5.2.1) w6 := B6_l0.kept k6 (Nat.ne_of_gt y7_BF)
    have z6 := B6_6.lies
    clear BF_l0 B0_l0 B1_l0 B2_l0 B3_l0 B4_l0 B5_l0 B6_l0 k6
    have y8_BF : b < w6.heap.size := f6.lies
    have y8_B0 : w.heap.size < w6.heap.size := B0_6.lies
    have y8_B1 : w.heap.size + 1 < w6.heap.size := B1_6.lies
    have y8_B2 : w.heap.size + 1 + 1 < w6.heap.size := B2_6.lies
    have y8_B3 : w.heap.size + 1 + 1 + 1 < w6.heap.size := B3_6.lies
    have y8_B4 : w.heap.size + 1 + 1 + 1 + 1 < w6.heap.size := B4_6.lies
    have y8_B5 : w.heap.size + 1 + 1 + 1 + 1 + 1 < w6.heap.size := B5_6.lies
    have y8_B6 : w.heap.size + 1 + 1 + 1 + 1 + 1 + 1 < w6.heap.size := B6_6.lies
    go_wp2_with (refine store_stop rfl (by kernel_rfl) ?_)
    refine Stop.mk (store_row (l' := row 6 r6.1) rfl rfl rfl rfl (Arr_at _ _ [.int .i64 0, .int .i64 0, .int .i64 0, .int .i64 0, .int .i64 0, .int .i64 0] _ (by simp)) (by rw [row_len]; rfl) (by rw [row_len]; kernel_rfl) (row_one _ _) ?_)
    intro w7 B7_7 o7
    have K7 : Kept b w w7 := Kept.off (K6.al _) o7 (by omega)
    have BF_7 : Fl b r6.2 w7 := (f6.alloc _).off o7 (Nat.ne_of_lt y8_BF)
    have B0_7 : Arr w.heap.size (row 43 g) w7 := (B0_6.alloc _).off o7 (Nat.ne_of_lt y8_B0)
    have B1_7 : Arr (w.heap.size + 1) (row 36 l) w7 := (B1_6.alloc _).off o7 (Nat.ne_of_lt y8_B1)
    have B2_7 : Arr (w.heap.size + 1 + 1) (row 36 c) w7 := (B2_6.alloc _).off o7 (Nat.ne_of_lt y8_B2)
    have B3_7 : Arr (w.heap.size + 1 + 1 + 1) (row 6 y) w7 := (B3_6.alloc _).off o7 (Nat.ne_of_lt y8_B3)
    have B4_7 : Arr (w.heap.size + 1 + 1 + 1 + 1) (row 43 (fun _ => 0)) w7 := (B4_6.alloc _).off o7 (Nat.ne_of_lt y8_B4)
    have B5_7 : Arr (w.heap.size + 1 + 1 + 1 + 1 + 1) (row 36 r5.1) w7 := (B5_6.alloc _).off o7 (Nat.ne_of_lt y8_B5)
    have B6_7 : Arr (w.heap.size + 1 + 1 + 1 + 1 + 1 + 1) (row 36 r5.2.1) w7 := (B6_6.alloc _).off o7 (Nat.ne_of_lt y8_B6)
    have z7_B7 := B7_7.lies
    have z7_BF := BF_7.lies
    have z7_B0 := B0_7.lies
    have z7_B1 := B1_7.lies
    have z7_B2 := B2_7.lies
    have z7_B3 := B3_7.lies
    have z7_B4 := B4_7.lies
    have z7_B5 := B5_7.lies
    have z7_B6 := B6_7.lies
    clear K6 f6 B0_6 B1_6 B2_6 B3_6 B4_6 B5_6 B6_6 o7
    go_wp2_with fail
    refine wp_region_held_drew (S := fun w' => Arr w.heap.size (row 43 g) w' ∧ Arr w6.heap.size (row 6 r6.1) w' ∧ Arr (w.heap.size + 1 + 1 + 1 + 1 + 1 + 1) (row 36 r5.2.1) w') (by kernel_rfl) ⟨B0_7.drew, B7_7.drew, B6_7.drew⟩ (fun hHeld => ?_)
    refine take_at (i := 0) (v := ?v43) rfl (by kernel_rfl) (by kernel_rfl) (by kernel_rfl) (fun _ _ _ h => h) (Or.inl ⟨by rfl, ?y43⟩) hHeld ?t43
    case y43 => (intro wx hSw; go_simp <;> with_reducible rfl)
    simp only [Act.put, List.setIfInBounds_toArray, List.set_cons_zero, List.set_cons_succ]
    refine take_at (i := 1) (v := ?v44) rfl (by kernel_rfl) (by kernel_rfl) (by kernel_rfl) (fun _ _ _ h => h) (Or.inl ⟨by rfl, ?y44⟩) hHeld ?t44
    case y44 => (intro wx hSw; go_simp <;> with_reducible rfl)
    simp only [Act.put, List.setIfInBounds_toArray, List.set_cons_zero, List.set_cons_succ]
    refine take_at (i := 2) (v := ?v45) rfl (by kernel_rfl) (by kernel_rfl) (by kernel_rfl) (fun _ _ _ h => h) (Or.inl ⟨by rfl, ?y45⟩) hHeld ?t45
    case y45 => (intro wx hSw; have hc0 : wx.cell? ⟨w.heap.size, 0, none⟩ = some (.int .i64 (g 0)) := row_c hSw.1 0 (by omega); have hc1 : wx.cell? ⟨w.heap.size, 1, none⟩ = some (.int .i64 (g 1)) := row_c hSw.1 1 (by omega); have hc2 : wx.cell? ⟨w.heap.size, 2, none⟩ = some (.int .i64 (g 2)) := row_c hSw.1 2 (by omega); have hc3 : wx.cell? ⟨w.heap.size, 3, none⟩ = some (.int .i64 (g 3)) := row_c hSw.1 3 (by omega); go_simp <;> with_reducible rfl)
    simp only [Act.put, List.setIfInBounds_toArray, List.set_cons_zero, List.set_cons_succ]
    refine take_at (i := 3) rfl (by kernel_rfl) (by kernel_rfl) (by kernel_rfl) (fun _ _ _ h => h) (row_yield (by rfl) rfl rfl (fun _ hSw => hSw.2.1) (by kernel_rfl) (by rw [row_len]; kernel_rfl)) hHeld ?_
    simp only [Act.put, List.setIfInBounds_toArray, List.set_cons_zero, List.set_cons_succ]
    refine take_at (i := 5) (v := ?v46) rfl (by kernel_rfl) (by kernel_rfl) (by kernel_rfl) (fun _ _ _ h => h) (Or.inl ⟨by rfl, ?y46⟩) hHeld ?t46
    case y46 => (intro wx hSw; go_simp <;> with_reducible rfl)
    simp only [Act.put, List.setIfInBounds_toArray, List.set_cons_zero, List.set_cons_succ]
    refine take_at (i := 6) (v := ?v47) rfl (by kernel_rfl) (by kernel_rfl) (by kernel_rfl) (fun _ _ _ h => h) (Or.inl ⟨by rfl, ?y47⟩) hHeld ?t47
    case y47 => (intro wx hSw; go_simp <;> with_reducible rfl)
    simp only [Act.put, List.setIfInBounds_toArray, List.set_cons_zero, List.set_cons_succ]
    refine take_at (i := 7) (v := ?v48) rfl (by kernel_rfl) (by kernel_rfl) (by kernel_rfl) (fun _ _ _ h => h) (Or.inl ⟨by rfl, ?y48⟩) hHeld ?t48
    case y48 => (intro wx hSw; have hc0 : wx.cell? ⟨w.heap.size, 4, none⟩ = some (.int .i64 (g 4)) := row_c hSw.1 4 (by omega); have hc1 : wx.cell? ⟨w.heap.size, 5, none⟩ = some (.int .i64 (g 5)) := row_c hSw.1 5 (by omega); have hc2 : wx.cell? ⟨w.heap.size, 6, none⟩ = some (.int .i64 (g 6)) := row_c hSw.1 6 (by omega); go_simp <;> with_reducible rfl)
    simp only [Act.put, List.setIfInBounds_toArray, List.set_cons_zero, List.set_cons_succ]
    refine take_at (i := 8) rfl (by kernel_rfl) (by kernel_rfl) (by kernel_rfl) (fun _ _ _ h => h) (row_yield (by rfl) rfl rfl (fun _ hSw => hSw.2.1) (by kernel_rfl) (by rw [row_len]; kernel_rfl)) hHeld ?_
    simp only [Act.put, List.setIfInBounds_toArray, List.set_cons_zero, List.set_cons_succ]
    refine take_at (i := 10) (v := ?v49) rfl (by kernel_rfl) (by kernel_rfl) (by kernel_rfl) (fun _ _ _ h => h) (Or.inl ⟨by rfl, ?y49⟩) hHeld ?t49
    case y49 => (intro wx hSw; go_simp <;> with_reducible rfl)
    simp only [Act.put, List.setIfInBounds_toArray, List.set_cons_zero, List.set_cons_succ]
    refine take_at (i := 11) rfl (by kernel_rfl) (by kernel_rfl) (by kernel_rfl) (fun _ _ _ h => h) (row_yield (by rfl) rfl rfl (fun _ hSw => hSw.2.2) (by kernel_rfl) (by rw [row_len]; kernel_rfl)) hHeld ?_
    simp only [Act.put, List.setIfInBounds_toArray, List.set_cons_zero, List.set_cons_succ]
    refine call_at (i := 4) (by kernel_rfl) rfl (fun K hK => ?_)
    go_simp
    refine (hturned_any b r6.2 ((g 0), (g 1), (g 2), (g 3)) r6.1 _ BF_7.drew).mono ?_
    rintro e w8 ⟨rfl, f8, k8⟩
    generalize e8 : hturnedS r6.2 ((g 0), (g 1), (g 2), (g 3)) r6.1 = r8 at f8 ⊢
    have E8 : Hid _ := e8
    clear e8
    have K8 : Kept b w w8 := Kept.trans K7.drew k8
    have B0_8 : Arr w.heap.size (row 43 g) w8 := B0_7.drew.kept k8 (Nat.ne_of_gt y1_BF)
    have B1_8 : Arr (w.heap.size + 1) (row 36 l) w8 := B1_7.drew.kept k8 (Nat.ne_of_gt y2_BF)
    have B2_8 : Arr (w.heap.size + 1 + 1) (row 36 c) w8 := B2_7.drew.kept k8 (Nat.ne_of_gt y3_BF)
    have B3_8 : Arr (w.heap.size + 1 + 1 + 1) (row 6 y) w8 := B3_7.drew.kept k8 (Nat.ne_of_gt y4_BF)
    have B4_8 : Arr (w.heap.size + 1 + 1 + 1 + 1) (row 43 (fun _ => 0)) w8 := B4_7.drew.kept k8 (Nat.ne_of_gt y5_BF)
    have B5_8 : Arr (w.heap.size + 1 + 1 + 1 + 1 + 1) (row 36 r5.1) w8 := B5_7.drew.kept k8 (Nat.ne_of_gt y6_BF)
    have B6_8 : Arr (w.heap.size + 1 + 1 + 1 + 1 + 1 + 1) (row 36 r5.2.1) w8 := B6_7.drew.kept k8 (Nat.ne_of_gt y7_BF)
    have B7_8 : Arr w6.heap.size (row 6 r6.1) w8 := B7_7.drew.kept k8 (Nat.ne_of_gt y8_BF)
    have z8 := B7_8.lies
    clear hHeld
    refine hK.out _ _ ⟨B0_8, B7_8, B6_8⟩ (fun hHeld => ?_)
    clear hK K K7 BF_7 B0_7 B1_7 B2_7 B3_7 B4_7 B5_7 B6_7 B7_7 k8
    refine call_at (i := 9) (by kernel_rfl) rfl (fun K hK => ?_)
    go_simp
    refine (hbiased_any b r8.2 ((g 4), (g 5), (g 6)) r6.1 _ f8).mono ?_
    rintro e w9 ⟨rfl, f9, k9⟩
    generalize e9 : hbiasedS r8.2 ((g 4), (g 5), (g 6)) r6.1 = r9 at f9 ⊢
    have E9 : Hid _ := e9
    clear e9
    have K9 : Kept b w w9 := Kept.trans K8 k9
    have B0_9 : Arr w.heap.size (row 43 g) w9 := B0_8.kept k9 (Nat.ne_of_gt y1_BF)
    have B1_9 : Arr (w.heap.size + 1) (row 36 l) w9 := B1_8.kept k9 (Nat.ne_of_gt y2_BF)
    have B2_9 : Arr (w.heap.size + 1 + 1) (row 36 c) w9 := B2_8.kept k9 (Nat.ne_of_gt y3_BF)
    have B3_9 : Arr (w.heap.size + 1 + 1 + 1) (row 6 y) w9 := B3_8.kept k9 (Nat.ne_of_gt y4_BF)
    have B4_9 : Arr (w.heap.size + 1 + 1 + 1 + 1) (row 43 (fun _ => 0)) w9 := B4_8.kept k9 (Nat.ne_of_gt y5_BF)
    have B5_9 : Arr (w.heap.size + 1 + 1 + 1 + 1 + 1) (row 36 r5.1) w9 := B5_8.kept k9 (Nat.ne_of_gt y6_BF)
    have B6_9 : Arr (w.heap.size + 1 + 1 + 1 + 1 + 1 + 1) (row 36 r5.2.1) w9 := B6_8.kept k9 (Nat.ne_of_gt y7_BF)
    have B7_9 : Arr w6.heap.size (row 6 r6.1) w9 := B7_8.kept k9 (Nat.ne_of_gt y8_BF)
    have z9 := B7_9.lies
    clear hHeld
    refine hK.out _ _ ⟨B0_9, B7_9, B6_9⟩ (fun hHeld => ?_)
    clear hK K K8 f8 B0_8 B1_8 B2_8 B3_8 B4_8 B5_8 B6_8 B7_8 k9
    refine call_at (i := 12) (by kernel_rfl) rfl (fun K hK => ?_)
    go_simp
    refine (hevened_any b r9.2 r5.2.1 _ f9).mono ?_
    rintro e w10 ⟨rfl, f10, k10⟩
    generalize e10 : hevenedS r9.2 r5.2.1 = r10 at f10 ⊢
    have E10 : Hid _ := e10
    clear e10
    have K10 : Kept b w w10 := Kept.trans K9 k10
    have B0_10 : Arr w.heap.size (row 43 g) w10 := B0_9.kept k10 (Nat.ne_of_gt y1_BF)
    have B1_10 : Arr (w.heap.size + 1) (row 36 l) w10 := B1_9.kept k10 (Nat.ne_of_gt y2_BF)
    have B2_10 : Arr (w.heap.size + 1 + 1) (row 36 c) w10 := B2_9.kept k10 (Nat.ne_of_gt y3_BF)
    have B3_10 : Arr (w.heap.size + 1 + 1 + 1) (row 6 y) w10 := B3_9.kept k10 (Nat.ne_of_gt y4_BF)
    have B4_10 : Arr (w.heap.size + 1 + 1 + 1 + 1) (row 43 (fun _ => 0)) w10 := B4_9.kept k10 (Nat.ne_of_gt y5_BF)
    have B5_10 : Arr (w.heap.size + 1 + 1 + 1 + 1 + 1) (row 36 r5.1) w10 := B5_9.kept k10 (Nat.ne_of_gt y6_BF)
    have B6_10 : Arr (w.heap.size + 1 + 1 + 1 + 1 + 1 + 1) (row 36 r5.2.1) w10 := B6_9.kept k10 (Nat.ne_of_gt y7_BF)
    have B7_10 : Arr w6.heap.size (row 6 r6.1) w10 := B7_9.kept k10 (Nat.ne_of_gt y8_BF)
    have z10 := B7_10.lies
    clear hHeld
    refine hK.out _ _ ⟨B0_10, B7_10, B6_10⟩ (fun hHeld => ?_)
    clear hK K K9 f9 B0_9 B1_9 B2_9 B3_9 B4_9 B5_9 B6_9 B7_9 k10
    refine take_at (i := 13) (v := .agg (row 43 (guessF r8.1 r9.1 r10.1)).toArray) rfl (by kernel_rfl) (by kernel_rfl) (by kernel_rfl) (fun _ _ _ h => h) (Or.inl ⟨by rfl, ?y50⟩) hHeld ?t50
    case y50 => (intro wx hSw; exact build_exec (vs := #[(0, .agg #[.int .i64 r8.1.1, .int .i64 r8.1.2.1, .int .i64 r8.1.2.2.1, .int .i64 r8.1.2.2.2]), (1, .agg #[.int .i64 r9.1.1, .int .i64 r9.1.2.1, .int .i64 r9.1.2.2]), (2, .agg (row 36 r10.1).toArray)]) rfl (by kernel_rfl) (buildG_run r8.1.1 r8.1.2.1 r8.1.2.2.1 r8.1.2.2.2 r9.1.1 r9.1.2.1 r9.1.2.2 r10.1 wx))
    simp only [Act.put, List.setIfInBounds_toArray, List.set_cons_zero, List.set_cons_succ]
    refine call_at (i := 14) (by kernel_rfl) rfl (fun K hK => ?_)
    refine row_store_at (l' := row 43 (guessF r8.1 r9.1 r10.1)) (by rfl) rfl rfl rfl B4_10 (by simp only [row_len]) (by rw [row_len]; kernel_rfl) (row_one _ _) ?_
    intro w11 B4_11 o11
    have K11 : Kept b w w11 := Kept.off K10 o11 (by omega)
    have BF_11 : Fl b r10.2 w11 := f10.off o11 (Nat.ne_of_lt y5_BF)
    have B0_11 : Arr w.heap.size (row 43 g) w11 := B0_10.off o11 (Nat.ne_of_lt y5_B0)
    have B1_11 : Arr (w.heap.size + 1) (row 36 l) w11 := B1_10.off o11 (Nat.ne_of_lt y5_B1)
    have B2_11 : Arr (w.heap.size + 1 + 1) (row 36 c) w11 := B2_10.off o11 (Nat.ne_of_lt y5_B2)
    have B3_11 : Arr (w.heap.size + 1 + 1 + 1) (row 6 y) w11 := B3_10.off o11 (Nat.ne_of_lt y5_B3)
    have B5_11 : Arr (w.heap.size + 1 + 1 + 1 + 1 + 1) (row 36 r5.1) w11 := B5_10.off o11 (Nat.ne_of_gt y6_B4)
    have B6_11 : Arr (w.heap.size + 1 + 1 + 1 + 1 + 1 + 1) (row 36 r5.2.1) w11 := B6_10.off o11 (Nat.ne_of_gt y7_B4)
    have B7_11 : Arr w6.heap.size (row 6 r6.1) w11 := B7_10.off o11 (Nat.ne_of_gt y8_B4)
    have z11_B4 := B4_11.lies
    have z11_BF := BF_11.lies
    have z11_B0 := B0_11.lies
    have z11_B1 := B1_11.lies
    have z11_B2 := B2_11.lies
    have z11_B3 := B3_11.lies
    have z11_B5 := B5_11.lies
    have z11_B6 := B6_11.lies
    have z11_B7 := B7_11.lies
    simp only [Act.put]
    clear hHeld
    refine hK.out _ _ ⟨B0_11, B7_11, B6_11⟩ (fun hHeld => ?_)
    clear hK K K10 B4_10 f10 B0_10 B1_10 B2_10 B3_10 B5_10 B6_10 B7_10 o11
    refine wpAnyH_done (by kernel_rfl) ?_ _
    clear hHeld
    go_wp2_with (with_reducible refine post_stop ?_)
    refine Stop.mk ?_
    refine bodyPost_ret (v := .agg (row 43 (guessF r8.1 r9.1 r10.1)).toArray) (results_arr Try.results49 B4_11 rfl (by kernel_rfl) (by rw [row_len]; kernel_rfl)) rfl ?_
    have hs : hmetS bad g l c y = ((guessF r8.1 r9.1 r10.1), r10.2) := by unfold hmetS; simp only [E5.out, E6.out, E8.out, E9.out, E10.out]
    rw [hs]
    exact ⟨rfl, BF_11, K11⟩
end Go.Proofs.Ytpjobkbefgehjaa
