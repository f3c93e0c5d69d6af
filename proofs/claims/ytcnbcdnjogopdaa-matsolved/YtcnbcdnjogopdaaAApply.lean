/-
  Walks of package mat, for the seat Ytcnbcdnjogopdaa. (Made by mkmat.py.)
-/
import Derived.Test.YtcnbcdnjogopdaaALeaf
import Derived.Test.YtcnbcdnjogopdaaASum
import Derived.Handy
import Derived.Deep.RegionHeld3
namespace Go.Proofs.Ytcnbcdnjogopdaa
open Go.RowKit

set_option maxRecDepth 100000 in
set_option maxHeartbeats 2000000 in
theorem mApply_any (b : Nat) (bad : Bool) (m : Nat → Int) (p : Nat → Int) (n : Nat) (w : World) (hw : Fl b bad w) (h1 : 1 ≤ n) (h6 : n ≤ 6) :
    Calls Try.prog 16 #[.pointer (some ⟨b, 0, none⟩), .agg (row 36 m).toArray, .agg (row 6 p).toArray, .int .i64 (n : Int)] w fun e w' => e = .returned (.agg (row 6 ((mApplyS bad m p n).1)).toArray) ∧ Fl b (mApplyS bad m p n).2 w' ∧ Kept b w w' := by
  have hl := hw.lies
  go_enter Try.func16, Try.ntmps16
  have y1_BF : b < w.heap.size := hw.lies
  have y2_BF : b < w.heap.size + 1 := (Nat.lt_succ_of_lt hw.lies)
  have y2_B0 : w.heap.size < w.heap.size + 1 := (Nat.lt_succ_self _)
  have y3_BF : b < w.heap.size + 1 + 1 := (Nat.lt_succ_of_lt (Nat.lt_succ_of_lt hw.lies))
  have y3_B0 : w.heap.size < w.heap.size + 1 + 1 := (Nat.lt_succ_of_lt (Nat.lt_succ_self _))
  have y3_B1 : w.heap.size + 1 < w.heap.size + 1 + 1 := (Nat.lt_succ_self _)
  have y4_BF : b < w.heap.size + 1 + 1 + 1 := (Nat.lt_succ_of_lt (Nat.lt_succ_of_lt (Nat.lt_succ_of_lt hw.lies)))
  have y4_B0 : w.heap.size < w.heap.size + 1 + 1 + 1 := (Nat.lt_succ_of_lt (Nat.lt_succ_of_lt (Nat.lt_succ_self _)))
  have y4_B1 : w.heap.size + 1 < w.heap.size + 1 + 1 + 1 := (Nat.lt_succ_of_lt (Nat.lt_succ_self _))
  have y4_B2 : w.heap.size + 1 + 1 < w.heap.size + 1 + 1 + 1 := (Nat.lt_succ_self _)
  go_wp2_with fail
  refine (mfits_any b bad (n : Int) _ ((((hw.alloc _).alloc _).alloc _).alloc _)).mono ?_
  rintro e w1 ⟨rfl, f1, k1⟩
  rw [(fits_in bad h1 h6)] at f1 ⊢
  dsimp only at f1 ⊢
  have K1 : Kept b w w1 := Kept.trans (((((Kept.refl b w).al _).al _).al _).al _) k1
  have B0_1 : Arr w.heap.size (row 36 m) w1 := ((((Arr_at _ _ (row 36 m) _ (by simp)).alloc _).alloc _).alloc _).kept k1 (Nat.ne_of_gt y1_BF)
  have B1_1 : Arr (w.heap.size + 1) (row 6 p) w1 := (((Arr_at _ _ (row 6 p) _ (by simp)).alloc _).alloc _).kept k1 (Nat.ne_of_gt y2_BF)
  have B2_1 : Arr (w.heap.size + 1 + 1) [.int .i64 0, .int .i64 0, .int .i64 0, .int .i64 0, .int .i64 0, .int .i64 0] w1 := ((Arr_at _ _ [.int .i64 0, .int .i64 0, .int .i64 0, .int .i64 0, .int .i64 0, .int .i64 0] _ (by simp)).alloc _).kept k1 (Nat.ne_of_gt y3_BF)
  have B3_1 : Arr (w.heap.size + 1 + 1 + 1) [.int .i64 0, .int .i64 0, .int .i64 0, .int .i64 0, .int .i64 0, .int .i64 0] w1 := (Arr_at _ _ [.int .i64 0, .int .i64 0, .int .i64 0, .int .i64 0, .int .i64 0, .int .i64 0] _ (by simp)).kept k1 (Nat.ne_of_gt y4_BF)
  have z1 := B3_1.lies
  clear k1
  go_wp2_with fail
  obtain ⟨J0, hJ0⟩ : ∃ J : Nat → Act → World → Prop, Hid (J = fun i a Wl0 => ∀ G_ : Prop, (∀ (s0 : (Nat → Int) × Bool) (t0_1 t0_2 t0_4 t0_7 t0_10 t0_11 t0_12 t0_13 t0_14 t0_15 t0_18 t0_19 t0_20 t0_21 t0_22 t0_23 t0_24 t0_25 t0_26 t0_27 t0_28 t0_29 t0_30 t0_31 t0_32 : Value), Hid (mApplyS_l0 m p n ((fun _ => 0), bad) i = s0) → a = { tmps := #[.pointer (some ⟨b, 0, none⟩), t0_1, t0_2, .int .i64 (n : Int), t0_4, .pointer (some ⟨w.heap.size, 0, none⟩), .pointer (some ⟨w.heap.size + 1, 0, none⟩), t0_7, .pointer (some ⟨w.heap.size + 1 + 1, 0, none⟩), .pointer (some ⟨w.heap.size + 1 + 1 + 1, 0, none⟩), t0_10, t0_11, t0_12, t0_13, t0_14, t0_15, .int .i64 (n : Int), .int .i64 (i : Int), t0_18, t0_19, t0_20, t0_21, t0_22, t0_23, t0_24, t0_25, t0_26, t0_27, t0_28, t0_29, t0_30, t0_31, t0_32], defers := [] } → Kept b w Wl0 → Fl b s0.2 Wl0 → Arr w.heap.size (row 36 m) Wl0 → Arr (w.heap.size + 1) (row 6 p) Wl0 → Arr (w.heap.size + 1 + 1) (row 6 (fun _ => 0)) Wl0 → Arr (w.heap.size + 1 + 1 + 1) (row 6 s0.1) Wl0 → G_) → G_) := ⟨_, rfl⟩
  refine rounds_up J0 n ?_ ?_ ?_
  · rw [hJ0.out]
    intro G_ hG_
    exact hG_ ((fun _ => 0), bad) _ _ _ _ _ _ _ _ _ _ _ _ _ _ _ _ _ _ _ _ _ _ _ _ _ rfl rfl K1 f1 B0_1 B1_1 B2_1 B3_1
  · intro i a Wl0 hi hI R hR
    rw [hJ0.out] at hI
    refine hI _ ?_
    clear hI
    intro s0 t0_1 t0_2 t0_4 t0_7 t0_10 t0_11 t0_12 t0_13 t0_14 t0_15 t0_18 t0_19 t0_20 t0_21 t0_22 t0_23 t0_24 t0_25 t0_26 t0_27 t0_28 t0_29 t0_30 t0_31 t0_32 El0 ea Kl0 BF_l0 B0_l0 B1_l0 B2_l0 B3_l0
    subst ea
    have zl0_BF := BF_l0.lies
    have zl0_B0 := B0_l0.lies
    have zl0_B1 := B1_l0.lies
    have zl0_B2 := B2_l0.lies
    have zl0_B3 := B3_l0.lies
    go_wp2_with fail
    refine wp_region_held_drew (S := fun w' => Arr w.heap.size (row 36 m) w' ∧ Arr (w.heap.size + 1) (row 6 p) w') (by kernel_rfl) ⟨B0_l0.drew, B1_l0.drew⟩ (fun hHeld => ?_)
    refine take_at (i := 0) (v := ?v13) rfl (by kernel_rfl) (by kernel_rfl) (by kernel_rfl) (fun _ _ _ h => h) (Or.inl ⟨by rfl, ?y13⟩) hHeld ?t13
    case y13 => (intro wx hSw; go_simp <;> with_reducible rfl)
    simp only [Act.put, List.setIfInBounds_toArray, List.set_cons_zero, List.set_cons_succ]
    refine take_at (i := 1) (v := ?v14) rfl (by kernel_rfl) (by kernel_rfl) (by kernel_rfl) (fun _ _ _ h => h) (Or.inl ⟨by rfl, ?y14⟩) hHeld ?t14
    case y14 => (intro wx hSw; go_simp <;> with_reducible rfl)
    simp only [Act.put, List.setIfInBounds_toArray, List.set_cons_zero, List.set_cons_succ]
    refine take_at (i := 2) (v := ?v15) rfl (by kernel_rfl) (by kernel_rfl) (by kernel_rfl) (fun _ _ _ h => h) (Or.inl ⟨by rfl, ?y15⟩) hHeld ?t15
    case y15 => (intro wx hSw; go_simp <;> with_reducible rfl)
    simp only [Act.put, List.setIfInBounds_toArray, List.set_cons_zero, List.set_cons_succ]
    refine take_at (i := 3) (v := ?v16) rfl (by kernel_rfl) (by kernel_rfl) (by kernel_rfl) (fun _ _ _ h => h) (Or.inl ⟨by rfl, ?y16⟩) hHeld ?t16
    case y16 => (intro wx hSw; have hi0 : (i : Int) < 6 := (by omega); go_simp <;> with_reducible rfl)
    simp only [Act.put, List.setIfInBounds_toArray, List.set_cons_zero, List.set_cons_succ]
    refine take_at (i := 4) rfl (by kernel_rfl) (by kernel_rfl) (by kernel_rfl) (fun _ _ _ h => h) (part_yield (M := 6) (by rfl) rfl rfl (fun _ hSw => hSw.1) (by omega) (by kernel_rfl) (by rw [row_len]; kernel_rfl)) hHeld ?_
    simp only [Act.put, List.setIfInBounds_toArray, List.set_cons_zero, List.set_cons_succ]
    refine take_at (i := 5) rfl (by kernel_rfl) (by kernel_rfl) (by kernel_rfl) (fun _ _ _ h => h) (row_yield (by rfl) rfl rfl (fun _ hSw => hSw.2) (by kernel_rfl) (by rw [row_len]; kernel_rfl)) hHeld ?_
    simp only [Act.put, List.setIfInBounds_toArray, List.set_cons_zero, List.set_cons_succ]
    refine take_at (i := 6) (v := ?v17) rfl (by kernel_rfl) (by kernel_rfl) (by kernel_rfl) (fun _ _ _ h => h) (Or.inl ⟨by rfl, ?y17⟩) hHeld ?t17
    case y17 => (intro wx hSw; go_simp <;> with_reducible rfl)
    simp only [Act.put, List.setIfInBounds_toArray, List.set_cons_zero, List.set_cons_succ]
    refine call_at (i := 7) (by kernel_rfl) rfl (fun K hK => ?_)
    go_simp
    refine (msum_any b s0.2 (fun x_ => m (i * 6 + x_)) p n _ BF_l0.drew (by omega)).mono ?_
    rintro e w2 ⟨rfl, f2, k2⟩
    generalize e2 : msumS s0.2 (fun x_ => m (i * 6 + x_)) p n = r2 at f2 ⊢
    have E2 : Hid _ := e2
    clear e2
    have K2 : Kept b w w2 := Kept.trans Kl0.drew k2
    have B0_2 : Arr w.heap.size (row 36 m) w2 := B0_l0.drew.kept k2 (Nat.ne_of_gt y1_BF)
    have B1_2 : Arr (w.heap.size + 1) (row 6 p) w2 := B1_l0.drew.kept k2 (Nat.ne_of_gt y2_BF)
    have B2_2 : Arr (w.heap.size + 1 + 1) (row 6 (fun _ => 0)) w2 := B2_l0.drew.kept k2 (Nat.ne_of_gt y3_BF)
    have B3_2 : Arr (w.heap.size + 1 + 1 + 1) (row 6 s0.1) w2 := B3_l0.drew.kept k2 (Nat.ne_of_gt y4_BF)
    have z2 := B3_2.lies
    clear hHeld
    refine hK.out _ _ ⟨B0_2, B1_2⟩ (fun hHeld => ?_)
    clear hK K BF_l0 B0_l0 B1_l0 B2_l0 B3_l0 k2
    refine take_at (i := 8) (v := ?v18) rfl (by kernel_rfl) (by kernel_rfl) (by kernel_rfl) (fun _ _ _ h => h) (Or.inl ⟨by rfl, ?y18⟩) hHeld ?t18
    case y18 => (intro wx hSw; have hi0 : (i : Int) < 6 := (by omega); go_simp <;> with_reducible rfl)
    simp only [Act.put, List.setIfInBounds_toArray, List.set_cons_zero, List.set_cons_succ]
    refine call_at (i := 9) (by kernel_rfl) rfl (fun K hK => ?_)
    have c4_B3_0 : w2.cell? ⟨w.heap.size + 1 + 1 + 1, i, none⟩ = some (.int .i64 (s0.1 i)) := row_c B3_2 i (by omega)
    have g4_B3_1 := row_f B3_2 i (by omega)
    go_simp
    clear hHeld
    refine hK.out _ _ ⟨(B0_2.new (w.heap.size + 1 + 1 + 1) i (Nat.ne_of_lt y4_B0) (.int .i64 r2.1)), (B1_2.new (w.heap.size + 1 + 1 + 1) i (Nat.ne_of_lt y4_B1) (.int .i64 r2.1))⟩ (fun hHeld => ?_)
    clear hK K c4_B3_0 g4_B3_1
    refine wpAnyH_done (by kernel_rfl) ?_ _
    clear hHeld
    go_wp2_with fail
    have hs0 : Hid (mApplyS_l0 m p n ((fun _ => 0), bad) (i + 1) = ((updF s0.1 i r2.1), r2.2)) := by show _ = _; unfold mApplyS_l0; simp only [El0.out, E2.out]
    rw [hJ0.out]
    intro G_ hG_
    exact hG_ ((updF s0.1 i r2.1), r2.2) _ _ _ _ _ _ _ _ _ _ _ _ _ _ _ _ _ _ _ _ _ _ _ _ _ hs0 rfl (K2.new _ _ (by omega) _) (f2.new (w.heap.size + 1 + 1 + 1) i (Nat.ne_of_lt y4_BF) (.int .i64 r2.1)) (B0_2.new (w.heap.size + 1 + 1 + 1) i (Nat.ne_of_lt y4_B0) (.int .i64 r2.1)) (B1_2.new (w.heap.size + 1 + 1 + 1) i (Nat.ne_of_lt y4_B1) (.int .i64 r2.1)) (B2_2.new (w.heap.size + 1 + 1 + 1) i (Nat.ne_of_lt y4_B2) (.int .i64 r2.1)) (row_put B3_2 i (by omega) r2.1)
  · intro a Wl0 hI R
    rw [hJ0.out] at hI
    refine hI _ ?_
    clear hI hJ0
    intro r3 t0_1 t0_2 t0_4 t0_7 t0_10 t0_11 t0_12 t0_13 t0_14 t0_15 t0_18 t0_19 t0_20 t0_21 t0_22 t0_23 t0_24 t0_25 t0_26 t0_27 t0_28 t0_29 t0_30 t0_31 t0_32 E3 ea Kl0 BF_l0 B0_l0 B1_l0 B2_l0 B3_l0
    subst ea
    have zl0_BF := BF_l0.lies
    have zl0_B0 := B0_l0.lies
    have zl0_B1 := B1_l0.lies
    have zl0_B2 := B2_l0.lies
    have zl0_B3 := B3_l0.lies
    go_wp2_with (refine row_load rfl rfl rfl B3_l0 (by kernel_rfl) (by rw [row_len]; kernel_rfl) ?_)
    refine (msoundR_any b r3.2 r3.1 _ BF_l0).mono ?_
    rintro e w4 ⟨rfl, f4, k4⟩
    generalize e4 : msoundRS r3.2 r3.1 = r4 at f4 ⊢
    have E4 : Hid _ := e4
    clear e4
    have K4 : Kept b w w4 := Kept.trans Kl0 k4
    have B0_4 : Arr w.heap.size (row 36 m) w4 := B0_l0.kept k4 (Nat.ne_of_gt y1_BF)
    have B1_4 : Arr (w.heap.size + 1) (row 6 p) w4 := B1_l0.kept k4 (Nat.ne_of_gt y2_BF)
    have B2_4 : Arr (w.heap.size + 1 + 1) (row 6 (fun _ => 0)) w4 := B2_l0.kept k4 (Nat.ne_of_gt y3_BF)
    have B3_4 : Arr (w.heap.size + 1 + 1 + 1) (row 6 r3.1) w4 := B3_l0.kept k4 (Nat.ne_of_gt y4_BF)
    have z4 := B3_4.lies
    clear BF_l0 B0_l0 B1_l0 B2_l0 B3_l0 k4
    go_wp2_with (refine store_stop rfl (by kernel_rfl) ?_)
    refine Stop.mk (store_row (l' := row 6 r4.1) rfl rfl rfl rfl B2_4 (by simp only [row_len]) (by rw [row_len]; kernel_rfl) (row_one _ _) ?_)
    intro w5 B2_5 o5
    have K5 : Kept b w w5 := Kept.off K4 o5 (by omega)
    have BF_5 : Fl b r4.2 w5 := f4.off o5 (Nat.ne_of_lt y3_BF)
    have B0_5 : Arr w.heap.size (row 36 m) w5 := B0_4.off o5 (Nat.ne_of_lt y3_B0)
    have B1_5 : Arr (w.heap.size + 1) (row 6 p) w5 := B1_4.off o5 (Nat.ne_of_lt y3_B1)
    have B3_5 : Arr (w.heap.size + 1 + 1 + 1) (row 6 r3.1) w5 := B3_4.off o5 (Nat.ne_of_gt y4_B2)
    have z5_B2 := B2_5.lies
    have z5_BF := BF_5.lies
    have z5_B0 := B0_5.lies
    have z5_B1 := B1_5.lies
    have z5_B3 := B3_5.lies
    clear K4 B2_4 f4 B0_4 B1_4 B3_4 o5
    go_wp2_with (with_reducible refine post_stop ?_)
    refine Stop.mk ?_
    refine bodyPost_ret (v := .agg (row 6 r4.1).toArray) (results_arr Try.results16 B2_5 rfl (by kernel_rfl) (by rw [row_len]; kernel_rfl)) rfl ?_
    have hs : mApplyS bad m p n = (r4.1, r4.2) := by unfold mApplyS; simp only [E3.out, E4.out]
    rw [hs]
    exact ⟨rfl, BF_5, K5⟩
end Go.Proofs.Ytcnbcdnjogopdaa
