/-
  Walks of package mat, for the seat Ytcnbcdnjogopdaa. (Made by mkmat.py.)
-/
import Derived.Test.YtcnbcdnjogopdaaALeaf
import Derived.Test.YtcnbcdnjogopdaaALess
import Derived.Handy
import Derived.Deep.RegionHeld3
namespace Go.Proofs.Ytcnbcdnjogopdaa
open Go.RowKit

set_option maxRecDepth 100000 in
set_option maxHeartbeats 2000000 in
theorem mforward_any (b : Nat) (bad : Bool) (l : Nat → Int) (p : Nat → Int) (n : Nat) (w : World) (hw : Fl b bad w) (h6 : n ≤ 6) :
    Calls Try.prog 31 #[.pointer (some ⟨b, 0, none⟩), .agg (row 36 l).toArray, .agg (row 6 p).toArray, .int .i64 (n : Int)] w fun e w' => e = .returned (.agg (row 6 ((mforwardS bad l p n).1)).toArray) ∧ Fl b (mforwardS bad l p n).2 w' ∧ Kept b w w' := by
  have hl := hw.lies
  go_enter Try.func31, Try.ntmps31
  have y1_BF : b < w.heap.size := hw.lies
  have y2_BF : b < w.heap.size + 1 := (Nat.lt_succ_of_lt hw.lies)
  have y2_B0 : w.heap.size < w.heap.size + 1 := (Nat.lt_succ_self _)
  have y3_BF : b < w.heap.size + 1 + 1 := (Nat.lt_succ_of_lt (Nat.lt_succ_of_lt hw.lies))
  have y3_B0 : w.heap.size < w.heap.size + 1 + 1 := (Nat.lt_succ_of_lt (Nat.lt_succ_self _))
  have y3_B1 : w.heap.size + 1 < w.heap.size + 1 + 1 := (Nat.lt_succ_self _)
  have y4_BF : b < w.heap.size + 1 + 1 + 1 := (Nat.lt_succ_of_lt (Nat.lt_succ_of_lt (Nat.lt_succ_of_lt hw.lies)))
  have y4_B0 : w.heap.size < w.heap.size + 1 + 1 + 1 := (Nat.lt_succ_of_lt (Nat.lt_succ_of_lt (Nat.lt_succ_self _)))
  have y4_B1 : w.heap.size + 1 < w.heap.size + 1 + 1 + 1 := (Nat.lt_succ_of_lt (Nat.lt_succ_self _))
  have y4_B2 : w.heap.size + 1 + 1 < w.heap.size + 1 + 1 + 1 := (Nat.lt_succ_self _)
  go_wp2_with fail
  obtain ⟨J0, hJ0⟩ : ∃ J : Nat → Act → World → Prop, Hid (J = fun i a Wl0 => ∀ G_ : Prop, (∀ (s0 : (Nat → Int) × Bool) (t0_1 t0_2 t0_3 t0_4 t0_7 t0_10 t0_13 t0_14 t0_15 t0_16 t0_17 t0_18 t0_19 t0_20 t0_21 t0_22 t0_23 t0_24 t0_25 t0_26 t0_27 t0_28 t0_29 t0_30 t0_31 t0_32 t0_33 t0_34 t0_35 : Value), Hid (mforwardS_l0 l p ((fun _ => 0), bad) i = s0) → a = { tmps := #[.pointer (some ⟨b, 0, none⟩), t0_1, t0_2, t0_3, t0_4, .pointer (some ⟨w.heap.size, 0, none⟩), .pointer (some ⟨w.heap.size + 1, 0, none⟩), t0_7, .pointer (some ⟨w.heap.size + 1 + 1, 0, none⟩), .pointer (some ⟨w.heap.size + 1 + 1 + 1, 0, none⟩), t0_10, .int .i64 (n : Int), .int .i64 (i : Int), t0_13, t0_14, t0_15, t0_16, t0_17, t0_18, t0_19, t0_20, t0_21, t0_22, t0_23, t0_24, t0_25, t0_26, t0_27, t0_28, t0_29, t0_30, t0_31, t0_32, t0_33, t0_34, t0_35], defers := [] } → Kept b w Wl0 → Fl b s0.2 Wl0 → Arr w.heap.size (row 36 l) Wl0 → Arr (w.heap.size + 1) (row 6 p) Wl0 → Arr (w.heap.size + 1 + 1) (row 6 (fun _ => 0)) Wl0 → Arr (w.heap.size + 1 + 1 + 1) (row 6 s0.1) Wl0 → G_) → G_) := ⟨_, rfl⟩
  refine rounds_up J0 n ?_ ?_ ?_
  · rw [hJ0.out]
    intro G_ hG_
    exact hG_ ((fun _ => 0), bad) _ _ _ _ _ _ _ _ _ _ _ _ _ _ _ _ _ _ _ _ _ _ _ _ _ _ _ _ _ rfl rfl (((((Kept.refl b w).al _).al _).al _).al _) ((((hw.alloc _).alloc _).alloc _).alloc _) ((((Arr_at _ _ (row 36 l) _ (by simp)).alloc _).alloc _).alloc _) (((Arr_at _ _ (row 6 p) _ (by simp)).alloc _).alloc _) ((Arr_at _ _ (row 6 (fun _ => 0)) _ (by simp)).alloc _) (Arr_at _ _ (row 6 (fun _ => 0)) _ (by simp))
  · intro i a Wl0 hi hI R hR
    rw [hJ0.out] at hI
    refine hI _ ?_
    clear hI
    intro s0 t0_1 t0_2 t0_3 t0_4 t0_7 t0_10 t0_13 t0_14 t0_15 t0_16 t0_17 t0_18 t0_19 t0_20 t0_21 t0_22 t0_23 t0_24 t0_25 t0_26 t0_27 t0_28 t0_29 t0_30 t0_31 t0_32 t0_33 t0_34 t0_35 El0 ea Kl0 BF_l0 B0_l0 B1_l0 B2_l0 B3_l0
    subst ea
    have zl0_BF := BF_l0.lies
    have zl0_B0 := B0_l0.lies
    have zl0_B1 := B1_l0.lies
    have zl0_B2 := B2_l0.lies
    have zl0_B3 := B3_l0.lies
    go_wp2_with fail
    refine wp_region_held_drew (S := fun w' => Arr (w.heap.size + 1) (row 6 p) w' ∧ Arr w.heap.size (row 36 l) w' ∧ NearR (w.heap.size + 1 + 1 + 1) 6 s0.1 i w') (by kernel_rfl) ⟨B1_l0.drew, B0_l0.drew, (NearR.same B3_l0.drew)⟩ (fun hHeld => ?_)
    refine take_at (i := 0) (v := ?v31) rfl (by kernel_rfl) (by kernel_rfl) (by kernel_rfl) (fun _ _ _ h => h) (Or.inl ⟨by rfl, ?y31⟩) hHeld ?t31
    case y31 => (intro wx hSw; go_simp <;> with_reducible rfl)
    simp only [Act.put, List.setIfInBounds_toArray, List.set_cons_zero, List.set_cons_succ]
    refine take_at (i := 1) (v := ?v32) rfl (by kernel_rfl) (by kernel_rfl) (by kernel_rfl) (fun _ _ _ h => h) (Or.inl ⟨by rfl, ?y32⟩) hHeld ?t32
    case y32 => (intro wx hSw; go_simp <;> with_reducible rfl)
    simp only [Act.put, List.setIfInBounds_toArray, List.set_cons_zero, List.set_cons_succ]
    refine take_at (i := 2) (v := ?v33) rfl (by kernel_rfl) (by kernel_rfl) (by kernel_rfl) (fun _ _ _ h => h) (Or.inl ⟨by rfl, ?y33⟩) hHeld ?t33
    case y33 => (intro wx hSw; go_simp <;> with_reducible rfl)
    simp only [Act.put, List.setIfInBounds_toArray, List.set_cons_zero, List.set_cons_succ]
    refine take_at (i := 3) (v := ?v34) rfl (by kernel_rfl) (by kernel_rfl) (by kernel_rfl) (fun _ _ _ h => h) (Or.inl ⟨by rfl, ?y34⟩) hHeld ?t34
    case y34 => (intro wx hSw; go_simp <;> with_reducible rfl)
    simp only [Act.put, List.setIfInBounds_toArray, List.set_cons_zero, List.set_cons_succ]
    refine take_at (i := 4) (v := ?v35) rfl (by kernel_rfl) (by kernel_rfl) (by kernel_rfl) (fun _ _ _ h => h) (Or.inl ⟨by rfl, ?y35⟩) hHeld ?t35
    case y35 => (intro wx hSw; have hi0 : (i : Int) < 6 := (by omega); go_simp <;> with_reducible rfl)
    simp only [Act.put, List.setIfInBounds_toArray, List.set_cons_zero, List.set_cons_succ]
    refine take_at (i := 5) (v := ?v36) rfl (by kernel_rfl) (by kernel_rfl) (by kernel_rfl) (fun _ _ _ h => h) (Or.inl ⟨by rfl, ?y36⟩) hHeld ?t36
    case y36 => (intro wx hSw; have hc0 : wx.cell? ⟨w.heap.size + 1, i, none⟩ = some (.int .i64 (p i)) := row_c hSw.1 i (by omega); go_simp <;> with_reducible rfl)
    simp only [Act.put, List.setIfInBounds_toArray, List.set_cons_zero, List.set_cons_succ]
    refine take_at (i := 6) (v := ?v37) rfl (by kernel_rfl) (by kernel_rfl) (by kernel_rfl) (fun _ _ _ h => h) (Or.inl ⟨by rfl, ?y37⟩) hHeld ?t37
    case y37 => (intro wx hSw; go_simp <;> with_reducible rfl)
    simp only [Act.put, List.setIfInBounds_toArray, List.set_cons_zero, List.set_cons_succ]
    refine take_at (i := 7) (v := ?v38) rfl (by kernel_rfl) (by kernel_rfl) (by kernel_rfl) (fun _ _ _ h => h) (Or.inl ⟨by rfl, ?y38⟩) hHeld ?t38
    case y38 => (intro wx hSw; have hi0 : (i : Int) < 6 := (by omega); go_simp <;> with_reducible rfl)
    simp only [Act.put, List.setIfInBounds_toArray, List.set_cons_zero, List.set_cons_succ]
    refine take_at (i := 8) rfl (by kernel_rfl) (by kernel_rfl) (by kernel_rfl) (fun _ _ _ h => h) (part_yield (M := 6) (by rfl) rfl rfl (fun _ hSw => hSw.2.1) (by omega) (by kernel_rfl) (by rw [row_len]; kernel_rfl)) hHeld ?_
    simp only [Act.put, List.setIfInBounds_toArray, List.set_cons_zero, List.set_cons_succ]
    refine take_at (i := 10) (v := ?v39) rfl (by kernel_rfl) (by kernel_rfl) (by kernel_rfl) (fun _ _ _ h => h) (Or.inl ⟨by rfl, ?y39⟩) hHeld ?t39
    case y39 => (intro wx hSw; go_simp <;> with_reducible rfl)
    simp only [Act.put, List.setIfInBounds_toArray, List.set_cons_zero, List.set_cons_succ]
    refine take_at (i := 12) (v := ?v40) rfl (by kernel_rfl) (by kernel_rfl) (by kernel_rfl) (fun _ _ _ h => h) (Or.inl ⟨by rfl, ?y40⟩) hHeld ?t40
    case y40 => (intro wx hSw; go_simp <;> with_reducible rfl)
    simp only [Act.put, List.setIfInBounds_toArray, List.set_cons_zero, List.set_cons_succ]
    refine take_at (i := 13) (v := ?v41) rfl (by kernel_rfl) (by kernel_rfl) (by kernel_rfl) (fun _ _ _ h => h) (Or.inl ⟨by rfl, ?y41⟩) hHeld ?t41
    case y41 => (intro wx hSw; go_simp <;> with_reducible rfl)
    simp only [Act.put, List.setIfInBounds_toArray, List.set_cons_zero, List.set_cons_succ]
    refine take_at (i := 14) (v := ?v42) rfl (by kernel_rfl) (by kernel_rfl) (by kernel_rfl) (fun _ _ _ h => h) (Or.inl ⟨by rfl, ?y42⟩) hHeld ?t42
    case y42 => (intro wx hSw; have hi0 : (i : Int) < 6 := (by omega); go_simp <;> with_reducible rfl)
    simp only [Act.put, List.setIfInBounds_toArray, List.set_cons_zero, List.set_cons_succ]
    refine take_at (i := 15) (v := ?v43) rfl (by kernel_rfl) (by kernel_rfl) (by kernel_rfl) (fun _ _ _ h => h) (Or.inl ⟨by rfl, ?y43⟩) hHeld ?t43
    case y43 => (intro wx hSw; have hi0 : (i : Int) < 6 := (by omega); go_simp <;> with_reducible rfl)
    simp only [Act.put, List.setIfInBounds_toArray, List.set_cons_zero, List.set_cons_succ]
    refine take_at (i := 16) (v := ?v44) rfl (by kernel_rfl) (by kernel_rfl) (by kernel_rfl) (fun _ _ _ h => h) (Or.inl ⟨by rfl, ?y44⟩) hHeld ?t44
    case y44 => (intro wx hSw; have hc0 : wx.cell? ⟨w.heap.size, i * 6 + i, none⟩ = some (.int .i64 (l (i * 6 + i))) := row_c hSw.2.1 (i * 6 + i) (by omega); go_simp <;> with_reducible rfl)
    simp only [Act.put, List.setIfInBounds_toArray, List.set_cons_zero, List.set_cons_succ]
    refine call_at (i := 9) (by kernel_rfl) rfl (fun K hK => ?_)
    refine late_row (by rfl) rfl rfl B3_l0.drew (by kernel_rfl) (by rw [row_len]; kernel_rfl) ?_
    simp only [Act.put, List.setIfInBounds_toArray, List.set_cons_zero, List.set_cons_succ]
    clear hHeld
    refine hK.out _ _ ⟨B1_l0.drew, B0_l0.drew, (NearR.same B3_l0.drew)⟩ (fun hHeld => ?_)
    clear hK K
    refine call_at (i := 11) (by kernel_rfl) rfl (fun K hK => ?_)
    go_simp
    refine (mless_any b s0.2 (p i) (fun x_ => l (i * 6 + x_)) s0.1 i _ BF_l0.drew (by omega)).mono ?_
    rintro e w1 ⟨rfl, f1, k1⟩
    generalize e1 : mlessS s0.2 (p i) (fun x_ => l (i * 6 + x_)) s0.1 i = r1 at f1 ⊢
    have E1 : Hid _ := e1
    clear e1
    have K1 : Kept b w w1 := Kept.trans Kl0.drew k1
    have B0_1 : Arr w.heap.size (row 36 l) w1 := B0_l0.drew.kept k1 (Nat.ne_of_gt y1_BF)
    have B1_1 : Arr (w.heap.size + 1) (row 6 p) w1 := B1_l0.drew.kept k1 (Nat.ne_of_gt y2_BF)
    have B2_1 : Arr (w.heap.size + 1 + 1) (row 6 (fun _ => 0)) w1 := B2_l0.drew.kept k1 (Nat.ne_of_gt y3_BF)
    have B3_1 : Arr (w.heap.size + 1 + 1 + 1) (row 6 s0.1) w1 := B3_l0.drew.kept k1 (Nat.ne_of_gt y4_BF)
    have z1 := B3_1.lies
    clear hHeld
    refine hK.out _ _ ⟨B1_1, B0_1, (NearR.same B3_1)⟩ (fun hHeld => ?_)
    clear hK K BF_l0 B0_l0 B1_l0 B2_l0 B3_l0 k1
    refine call_at (i := 17) (by kernel_rfl) rfl (fun K hK => ?_)
    go_simp
    refine (Div_any b r1.2 r1.1 (l (i * 6 + i)) _ f1).mono ?_
    rintro e w2 ⟨rfl, f2, k2⟩
    generalize e2 : divS r1.2 r1.1 (l (i * 6 + i)) = r2 at f2 ⊢
    have E2 : Hid _ := e2
    clear e2
    have K2 : Kept b w w2 := Kept.trans K1 k2
    have B0_2 : Arr w.heap.size (row 36 l) w2 := B0_1.kept k2 (Nat.ne_of_gt y1_BF)
    have B1_2 : Arr (w.heap.size + 1) (row 6 p) w2 := B1_1.kept k2 (Nat.ne_of_gt y2_BF)
    have B2_2 : Arr (w.heap.size + 1 + 1) (row 6 (fun _ => 0)) w2 := B2_1.kept k2 (Nat.ne_of_gt y3_BF)
    have B3_2 : Arr (w.heap.size + 1 + 1 + 1) (row 6 s0.1) w2 := B3_1.kept k2 (Nat.ne_of_gt y4_BF)
    have z2 := B3_2.lies
    clear hHeld
    refine hK.out _ _ ⟨B1_2, B0_2, (NearR.same B3_2)⟩ (fun hHeld => ?_)
    clear hK K K1 f1 B0_1 B1_1 B2_1 B3_1 k2
    refine take_at (i := 18) (v := ?v45) rfl (by kernel_rfl) (by kernel_rfl) (by kernel_rfl) (fun _ _ _ h => h) (Or.inl ⟨by rfl, ?y45⟩) hHeld ?t45
    case y45 => (intro wx hSw; have hi0 : (i : Int) < 6 := (by omega); go_simp <;> with_reducible rfl)
    simp only [Act.put, List.setIfInBounds_toArray, List.set_cons_zero, List.set_cons_succ]
    refine call_at (i := 19) (by kernel_rfl) rfl (fun K hK => ?_)
    have c3_B3_0 : w2.cell? ⟨w.heap.size + 1 + 1 + 1, i, none⟩ = some (.int .i64 (s0.1 i)) := row_c B3_2 i (by omega)
    have g3_B3_1 := row_f B3_2 i (by omega)
    go_simp
    clear hHeld
    refine hK.out _ _ ⟨(B1_2.new (w.heap.size + 1 + 1 + 1) i (Nat.ne_of_lt y4_B1) (.int .i64 r2.1)), (B0_2.new (w.heap.size + 1 + 1 + 1) i (Nat.ne_of_lt y4_B0) (.int .i64 r2.1)), (NearR.upd (row_put B3_2 i (by omega) r2.1))⟩ (fun hHeld => ?_)
    clear hK K c3_B3_0 g3_B3_1
    refine wpAnyH_done (by kernel_rfl) ?_ _
    clear hHeld
    go_wp2_with fail
    have hs0 : Hid (mforwardS_l0 l p ((fun _ => 0), bad) (i + 1) = ((updF s0.1 i r2.1), r2.2)) := by show _ = _; unfold mforwardS_l0; simp only [El0.out, E1.out, E2.out]
    rw [hJ0.out]
    intro G_ hG_
    exact hG_ ((updF s0.1 i r2.1), r2.2) _ _ _ _ _ _ _ _ _ _ _ _ _ _ _ _ _ _ _ _ _ _ _ _ _ _ _ _ _ hs0 rfl (K2.new _ _ (by omega) _) (f2.new (w.heap.size + 1 + 1 + 1) i (Nat.ne_of_lt y4_BF) (.int .i64 r2.1)) (B0_2.new (w.heap.size + 1 + 1 + 1) i (Nat.ne_of_lt y4_B0) (.int .i64 r2.1)) (B1_2.new (w.heap.size + 1 + 1 + 1) i (Nat.ne_of_lt y4_B1) (.int .i64 r2.1)) (B2_2.new (w.heap.size + 1 + 1 + 1) i (Nat.ne_of_lt y4_B2) (.int .i64 r2.1)) (row_put B3_2 i (by omega) r2.1)
  · intro a Wl0 hI R
    rw [hJ0.out] at hI
    refine hI _ ?_
    clear hI hJ0
    intro r3 t0_1 t0_2 t0_3 t0_4 t0_7 t0_10 t0_13 t0_14 t0_15 t0_16 t0_17 t0_18 t0_19 t0_20 t0_21 t0_22 t0_23 t0_24 t0_25 t0_26 t0_27 t0_28 t0_29 t0_30 t0_31 t0_32 t0_33 t0_34 t0_35 E3 ea Kl0 BF_l0 B0_l0 B1_l0 B2_l0 B3_l0
    subst ea
    have zl0_BF := BF_l0.lies
    have zl0_B0 := B0_l0.lies
    have zl0_B1 := B1_l0.lies
    have zl0_B2 := B2_l0.lies
    have zl0_B3 := B3_l0.lies
    go_wp2_with (first | (refine row_load rfl rfl rfl B3_l0 (by kernel_rfl) (by rw [row_len]; kernel_rfl) ?_) | (refine store_stop rfl (by kernel_rfl) ?_))
    refine Stop.mk (store_row (l' := row 6 r3.1) rfl rfl rfl rfl B2_l0 (by simp only [row_len]) (by rw [row_len]; kernel_rfl) (row_one _ _) ?_)
    intro w4 B2_4 o4
    have K4 : Kept b w w4 := Kept.off Kl0 o4 (by omega)
    have BF_4 : Fl b r3.2 w4 := BF_l0.off o4 (Nat.ne_of_lt y3_BF)
    have B0_4 : Arr w.heap.size (row 36 l) w4 := B0_l0.off o4 (Nat.ne_of_lt y3_B0)
    have B1_4 : Arr (w.heap.size + 1) (row 6 p) w4 := B1_l0.off o4 (Nat.ne_of_lt y3_B1)
    have B3_4 : Arr (w.heap.size + 1 + 1 + 1) (row 6 r3.1) w4 := B3_l0.off o4 (Nat.ne_of_gt y4_B2)
    have z4_B2 := B2_4.lies
    have z4_BF := BF_4.lies
    have z4_B0 := B0_4.lies
    have z4_B1 := B1_4.lies
    have z4_B3 := B3_4.lies
    clear B2_l0 BF_l0 B0_l0 B1_l0 B3_l0 o4
    go_wp2_with (with_reducible refine post_stop ?_)
    refine Stop.mk ?_
    refine bodyPost_ret (v := .agg (row 6 r3.1).toArray) (results_arr Try.results31 B2_4 rfl (by kernel_rfl) (by rw [row_len]; kernel_rfl)) rfl ?_
    have hs : mforwardS bad l p n = (r3.1, r3.2) := by unfold mforwardS; simp only [E3.out]
    rw [hs]
    exact ⟨rfl, BF_4, K4⟩
end Go.Proofs.Ytcnbcdnjogopdaa
