/-
  Walks of package mat, for the seat Ytcnbcdnjogopdaa. (Made by mkmat.py.)
-/
import Derived.Test.YtcnbcdnjogopdaaAFwd
import Derived.Handy
import Derived.Deep.RegionHeld3
namespace Go.Proofs.Ytcnbcdnjogopdaa
open Go.RowKit

set_option maxRecDepth 100000 in
set_option maxHeartbeats 2000000 in
theorem mSolve_any (b : Nat) (bad : Bool) (l : Nat → Int) (p : Nat → Int) (n : Nat) (w : World) (hw : Fl b bad w) (h1 : 1 ≤ n) (h6 : n ≤ 6) :
    Calls Try.prog 12 #[.pointer (some ⟨b, 0, none⟩), .agg (row 36 l).toArray, .agg (row 6 p).toArray, .int .i64 (n : Int)] w fun e w' => e = .returned (.agg (row 6 ((mSolveS bad l p n).1)).toArray) ∧ Fl b (mSolveS bad l p n).2 w' ∧ Kept b w w' := by
  have hl := hw.lies
  go_enter Try.func12, Try.ntmps12
  have y1_BF : b < w.heap.size := hw.lies
  have y2_BF : b < w.heap.size + 1 := (Nat.lt_succ_of_lt hw.lies)
  have y2_B0 : w.heap.size < w.heap.size + 1 := (Nat.lt_succ_self _)
  have y3_BF : b < w.heap.size + 1 + 1 := (Nat.lt_succ_of_lt (Nat.lt_succ_of_lt hw.lies))
  have y3_B0 : w.heap.size < w.heap.size + 1 + 1 := (Nat.lt_succ_of_lt (Nat.lt_succ_self _))
  have y3_B1 : w.heap.size + 1 < w.heap.size + 1 + 1 := (Nat.lt_succ_self _)
  have y4_BF : b < w.heap.size + 1 + 1 + 1 := (Nat.lt_succ_of_lt (Nat.lt_succ_of_lt (Nat.lt_succ_of_lt hw.lies)))
  have y4_B0 : w.heap.size < w.heap.size + 1 + 1 + 1 := (Nat.lt_succ_of_lt (Nat.lt_succ_of_lt (Nat.lt_succ_self _)))
  have y4_B1 : w.heap.size + 1 < w.heap.size + 1 + 1 + 1 := (Nat.lt_succ_of_lt (Nat.lt_succ_self _))
  have y4_B2 : w.heap.size + 1 + 1 < w.heap.size + 1 + 1 + 1 := (Nat.lt_succ_self _)
  go_wp2_with fail
  refine (mfits_any b bad (n : Int) _ ((((hw.alloc _).alloc _).alloc _).alloc _)).mono ?_
  rintro e w1 ⟨rfl, f1, k1⟩
  rw [(fits_in bad h1 h6)] at f1 ⊢
  dsimp only at f1 ⊢
  have K1 : Kept b w w1 := Kept.trans (((((Kept.refl b w).al _).al _).al _).al _) k1
  have B0_1 : Arr w.heap.size (row 36 l) w1 := ((((Arr_at _ _ (row 36 l) _ (by simp)).alloc _).alloc _).alloc _).kept k1 (Nat.ne_of_gt y1_BF)
  have B1_1 : Arr (w.heap.size + 1) (row 6 p) w1 := (((Arr_at _ _ (row 6 p) _ (by simp)).alloc _).alloc _).kept k1 (Nat.ne_of_gt y2_BF)
  have B2_1 : Arr (w.heap.size + 1 + 1) [.int .i64 0, .int .i64 0, .int .i64 0, .int .i64 0, .int .i64 0, .int .i64 0] w1 := ((Arr_at _ _ [.int .i64 0, .int .i64 0, .int .i64 0, .int .i64 0, .int .i64 0, .int .i64 0] _ (by simp)).alloc _).kept k1 (Nat.ne_of_gt y3_BF)
  have B3_1 : Arr (w.heap.size + 1 + 1 + 1) [.int .i64 0, .int .i64 0, .int .i64 0, .int .i64 0, .int .i64 0, .int .i64 0] w1 := (Arr_at _ _ [.int .i64 0, .int .i64 0, .int .i64 0, .int .i64 0, .int .i64 0, .int .i64 0] _ (by simp)).kept k1 (Nat.ne_of_gt y4_BF)
  have z1 := B3_1.lies
  clear k1
  go_wp2_with (first | (refine row_load rfl rfl rfl B0_1 (by kernel_rfl) (by rw [row_len]; kernel_rfl) ?_) | (refine row_load rfl rfl rfl B1_1 (by kernel_rfl) (by rw [row_len]; kernel_rfl) ?_))
  refine (mforward_any b bad l p n _ f1 (by omega)).mono ?_
  rintro e w2 ⟨rfl, f2, k2⟩
  generalize e2 : mforwardS bad l p n = r2 at f2 ⊢
  have E2 : Hid _ := e2
  clear e2
  have K2 : Kept b w w2 := Kept.trans K1 k2
  have B0_2 : Arr w.heap.size (row 36 l) w2 := B0_1.kept k2 (Nat.ne_of_gt y1_BF)
  have B1_2 : Arr (w.heap.size + 1) (row 6 p) w2 := B1_1.kept k2 (Nat.ne_of_gt y2_BF)
  have B2_2 : Arr (w.heap.size + 1 + 1) [.int .i64 0, .int .i64 0, .int .i64 0, .int .i64 0, .int .i64 0, .int .i64 0] w2 := B2_1.kept k2 (Nat.ne_of_gt y3_BF)
  have B3_2 : Arr (w.heap.size + 1 + 1 + 1) [.int .i64 0, .int .i64 0, .int .i64 0, .int .i64 0, .int .i64 0, .int .i64 0] w2 := B3_1.kept k2 (Nat.ne_of_gt y4_BF)
  have z2 := B3_2.lies
  clear K1 f1 B0_1 B1_1 B2_1 B3_1 k2
  have y5_BF : b < w2.heap.size := f2.lies
  have y5_B0 : w.heap.size < w2.heap.size := B0_2.lies
  have y5_B1 : w.heap.size + 1 < w2.heap.size := B1_2.lies
  have y5_B2 : w.heap.size + 1 + 1 < w2.heap.size := B2_2.lies
  have y5_B3 : w.heap.size + 1 + 1 + 1 < w2.heap.size := B3_2.lies
  go_wp2_with (refine store_stop rfl (by kernel_rfl) ?_)
  refine Stop.mk (store_row (l' := row 6 r2.1) rfl rfl rfl rfl (Arr_at _ _ [.int .i64 0, .int .i64 0, .int .i64 0, .int .i64 0, .int .i64 0, .int .i64 0] _ (by simp)) (by rw [row_len]; rfl) (by rw [row_len]; kernel_rfl) (row_one _ _) ?_)
  intro w3 B4_3 o3
  have K3 : Kept b w w3 := Kept.off (K2.al _) o3 (by omega)
  have BF_3 : Fl b r2.2 w3 := (f2.alloc _).off o3 (Nat.ne_of_lt y5_BF)
  have B0_3 : Arr w.heap.size (row 36 l) w3 := (B0_2.alloc _).off o3 (Nat.ne_of_lt y5_B0)
  have B1_3 : Arr (w.heap.size + 1) (row 6 p) w3 := (B1_2.alloc _).off o3 (Nat.ne_of_lt y5_B1)
  have B2_3 : Arr (w.heap.size + 1 + 1) [.int .i64 0, .int .i64 0, .int .i64 0, .int .i64 0, .int .i64 0, .int .i64 0] w3 := (B2_2.alloc _).off o3 (Nat.ne_of_lt y5_B2)
  have B3_3 : Arr (w.heap.size + 1 + 1 + 1) [.int .i64 0, .int .i64 0, .int .i64 0, .int .i64 0, .int .i64 0, .int .i64 0] w3 := (B3_2.alloc _).off o3 (Nat.ne_of_lt y5_B3)
  have z3_B4 := B4_3.lies
  have z3_BF := BF_3.lies
  have z3_B0 := B0_3.lies
  have z3_B1 := B1_3.lies
  have z3_B2 := B2_3.lies
  have z3_B3 := B3_3.lies
  clear K2 f2 B0_2 B1_2 B2_2 B3_2 o3
  go_wp2_with fail
  obtain ⟨J0, hJ0⟩ : ∃ J : Nat → Act → World → Prop, Hid (J = fun d a Wl0 => ∀ G_ : Prop, (∀ (s0 : (Nat → Int) × Bool) (t0_1 t0_2 t0_4 t0_6 t0_7 t0_12 t0_13 t0_14 t0_15 t0_16 t0_17 t0_18 t0_19 t0_20 t0_21 t0_22 t0_23 t0_24 t0_25 t0_26 t0_27 t0_28 t0_29 t0_30 t0_31 t0_32 t0_33 t0_34 t0_35 t0_36 t0_37 t0_38 t0_39 t0_40 t0_41 t0_42 t0_43 t0_44 t0_45 t0_46 t0_47 t0_48 t0_49 t0_50 t0_51 t0_52 t0_53 t0_54 t0_55 t0_56 t0_57 t0_58 t0_59 t0_60 t0_61 t0_62 t0_63 t0_64 t0_65 : Value) (v0 : Int), Hid (mSolveS_l0 l n r2 ((fun _ => 0), r2.2) d = s0) → Hid (v0 = (n : Int) - 1 - (d : Int)) → a = { tmps := #[.pointer (some ⟨b, 0, none⟩), t0_1, t0_2, .int .i64 (n : Int), t0_4, .pointer (some ⟨w.heap.size, 0, none⟩), t0_6, t0_7, .pointer (some ⟨w.heap.size + 1 + 1, 0, none⟩), .pointer (some ⟨w.heap.size + 1 + 1 + 1, 0, none⟩), .pointer (some ⟨w2.heap.size, 0, none⟩), .int .i64 v0, t0_12, t0_13, t0_14, t0_15, t0_16, t0_17, t0_18, t0_19, t0_20, t0_21, t0_22, t0_23, t0_24, t0_25, t0_26, t0_27, t0_28, t0_29, t0_30, t0_31, t0_32, t0_33, t0_34, t0_35, t0_36, t0_37, t0_38, t0_39, t0_40, t0_41, t0_42, t0_43, t0_44, t0_45, t0_46, t0_47, t0_48, t0_49, t0_50, t0_51, t0_52, t0_53, t0_54, t0_55, t0_56, t0_57, t0_58, t0_59, t0_60, t0_61, t0_62, t0_63, t0_64, t0_65], defers := [] } → Kept b w Wl0 → Fl b s0.2 Wl0 → Arr w.heap.size (row 36 l) Wl0 → Arr (w.heap.size + 1) (row 6 p) Wl0 → Arr (w.heap.size + 1 + 1) (row 6 (fun _ => 0)) Wl0 → Arr (w.heap.size + 1 + 1 + 1) (row 6 s0.1) Wl0 → Arr w2.heap.size (row 6 r2.1) Wl0 → G_) → G_) := ⟨_, rfl⟩
  refine rounds_up J0 n ?_ ?_ ?_
  · rw [hJ0.out]
    intro G_ hG_
    exact hG_ ((fun _ => 0), r2.2) _ _ _ _ _ _ _ _ _ _ _ _ _ _ _ _ _ _ _ _ _ _ _ _ _ _ _ _ _ _ _ _ _ _ _ _ _ _ _ _ _ _ _ _ _ _ _ _ _ _ _ _ _ _ _ _ _ _ _ _ rfl (show _ = _ by omega) rfl K3 BF_3 B0_3 B1_3 B2_3 B3_3 B4_3
  · intro d a Wl0 hd hI R hR
    rw [hJ0.out] at hI
    refine hI _ ?_
    clear hI
    intro s0 t0_1 t0_2 t0_4 t0_6 t0_7 t0_12 t0_13 t0_14 t0_15 t0_16 t0_17 t0_18 t0_19 t0_20 t0_21 t0_22 t0_23 t0_24 t0_25 t0_26 t0_27 t0_28 t0_29 t0_30 t0_31 t0_32 t0_33 t0_34 t0_35 t0_36 t0_37 t0_38 t0_39 t0_40 t0_41 t0_42 t0_43 t0_44 t0_45 t0_46 t0_47 t0_48 t0_49 t0_50 t0_51 t0_52 t0_53 t0_54 t0_55 t0_56 t0_57 t0_58 t0_59 t0_60 t0_61 t0_62 t0_63 t0_64 t0_65 v0 El0 V0 ea Kl0 BF_l0 B0_l0 B1_l0 B2_l0 B3_l0 B4_l0
    subst ea
    have zl0_BF := BF_l0.lies
    have zl0_B0 := B0_l0.lies
    have zl0_B1 := B1_l0.lies
    have zl0_B2 := B2_l0.lies
    have zl0_B3 := B3_l0.lies
    have zl0_B4 := B4_l0.lies
    obtain ⟨i, hi⟩ : ∃ i, n - 1 - d = i := ⟨_, rfl⟩
    obtain rfl : v0 = (i : Int) := by have := V0.out; omega
    have Hi : i + d + 1 = n := by omega
    have Xi : Hid (n - 1 - d = i) := hi
    clear hi V0
    have c5_B4_0 : Wl0.cell? ⟨w2.heap.size, i, none⟩ = some (.int .i64 (r2.1 i)) := row_c B4_l0 i (by omega)
    have i5_1 : (i : Int) < 6 := by omega
    go_wp2_with fail
    clear c5_B4_0 i5_1
    obtain ⟨J1, hJ1⟩ : ∃ J : Nat → Act → World → Prop, Hid (J = fun k a Wl1 => ∀ G_ : Prop, (∀ (s1 : Int × Bool) (t1_1 t1_2 t1_4 t1_6 t1_7 t1_14 t1_15 t1_16 t1_17 t1_18 t1_19 t1_20 t1_21 t1_22 t1_23 t1_24 t1_25 t1_26 t1_27 t1_28 t1_29 t1_30 t1_31 t1_32 t1_33 t1_34 t1_35 t1_36 t1_37 t1_38 t1_39 t1_40 t1_41 t1_42 t1_43 t1_44 t1_45 t1_46 t1_47 t1_48 t1_49 t1_50 t1_51 t1_52 t1_53 t1_54 t1_55 t1_56 t1_57 t1_58 t1_59 t1_60 t1_61 t1_62 t1_63 t1_64 t1_65 : Value) (v1 : Int), Hid (mSolveS_l1 l s0 i ((r2.1 i), s0.2) k = s1) → Hid (v1 = (i : Int) + 1 + (k : Int)) → a = { tmps := #[.pointer (some ⟨b, 0, none⟩), t1_1, t1_2, .int .i64 (n : Int), t1_4, .pointer (some ⟨w.heap.size, 0, none⟩), t1_6, t1_7, .pointer (some ⟨w.heap.size + 1 + 1, 0, none⟩), .pointer (some ⟨w.heap.size + 1 + 1 + 1, 0, none⟩), .pointer (some ⟨w2.heap.size, 0, none⟩), .int .i64 (i : Int), .int .i64 s1.1, .int .i64 v1, t1_14, t1_15, t1_16, t1_17, t1_18, t1_19, t1_20, t1_21, t1_22, t1_23, t1_24, t1_25, t1_26, t1_27, t1_28, t1_29, t1_30, t1_31, t1_32, t1_33, t1_34, t1_35, t1_36, t1_37, t1_38, t1_39, t1_40, t1_41, t1_42, t1_43, t1_44, t1_45, t1_46, t1_47, t1_48, t1_49, t1_50, t1_51, t1_52, t1_53, t1_54, t1_55, t1_56, t1_57, t1_58, t1_59, t1_60, t1_61, t1_62, t1_63, t1_64, t1_65], defers := [] } → Kept b w Wl1 → Fl b s1.2 Wl1 → Arr w.heap.size (row 36 l) Wl1 → Arr (w.heap.size + 1) (row 6 p) Wl1 → Arr (w.heap.size + 1 + 1) (row 6 (fun _ => 0)) Wl1 → Arr (w.heap.size + 1 + 1 + 1) (row 6 s0.1) Wl1 → Arr w2.heap.size (row 6 r2.1) Wl1 → G_) → G_) := ⟨_, rfl⟩
    refine rounds_up J1 d ?_ ?_ ?_
    · rw [hJ1.out]
      intro G_ hG_
      exact hG_ ((r2.1 i), s0.2) _ _ _ _ _ _ _ _ _ _ _ _ _ _ _ _ _ _ _ _ _ _ _ _ _ _ _ _ _ _ _ _ _ _ _ _ _ _ _ _ _ _ _ _ _ _ _ _ _ _ _ _ _ _ _ _ _ _ rfl (show _ = _ by omega) rfl Kl0 BF_l0 B0_l0 B1_l0 B2_l0 B3_l0 B4_l0
    · intro k a Wl1 hk hI R hR
      rw [hJ1.out] at hI
      refine hI _ ?_
      clear hI
      intro s1 t1_1 t1_2 t1_4 t1_6 t1_7 t1_14 t1_15 t1_16 t1_17 t1_18 t1_19 t1_20 t1_21 t1_22 t1_23 t1_24 t1_25 t1_26 t1_27 t1_28 t1_29 t1_30 t1_31 t1_32 t1_33 t1_34 t1_35 t1_36 t1_37 t1_38 t1_39 t1_40 t1_41 t1_42 t1_43 t1_44 t1_45 t1_46 t1_47 t1_48 t1_49 t1_50 t1_51 t1_52 t1_53 t1_54 t1_55 t1_56 t1_57 t1_58 t1_59 t1_60 t1_61 t1_62 t1_63 t1_64 t1_65 v1 El1 V1 ea Kl1 BF_l1 B0_l1 B1_l1 B2_l1 B3_l1 B4_l1
      subst ea
      have zl1_BF := BF_l1.lies
      have zl1_B0 := B0_l1.lies
      have zl1_B1 := B1_l1.lies
      have zl1_B2 := B2_l1.lies
      have zl1_B3 := B3_l1.lies
      have zl1_B4 := B4_l1.lies
      obtain ⟨u, hu⟩ : ∃ u, i + 1 + k = u := ⟨_, rfl⟩
      obtain rfl : v1 = (u : Int) := by have := V1.out; omega
      have Hu : i + 1 + k ≤ u ∧ u ≤ i + 1 + k ∧ u < n := by omega
      have Xu : Hid (i + 1 + k = u) := hu
      clear hu V1
      go_wp2_with fail
      refine wp_region_held_drew (S := fun w' => Arr w.heap.size (row 36 l) w' ∧ Arr (w.heap.size + 1 + 1 + 1) (row 6 s0.1) w') (by kernel_rfl) ⟨B0_l1.drew, B3_l1.drew⟩ (fun hHeld => ?_)
      refine take_at (i := 0) (v := ?v97) rfl (by kernel_rfl) (by kernel_rfl) (by kernel_rfl) (fun _ _ _ h => h) (Or.inl ⟨by rfl, ?y97⟩) hHeld ?t97
      case y97 => (intro wx hSw; go_simp <;> with_reducible rfl)
      simp only [Act.put, List.setIfInBounds_toArray, List.set_cons_zero, List.set_cons_succ]
      refine take_at (i := 1) (v := ?v98) rfl (by kernel_rfl) (by kernel_rfl) (by kernel_rfl) (fun _ _ _ h => h) (Or.inl ⟨by rfl, ?y98⟩) hHeld ?t98
      case y98 => (intro wx hSw; go_simp <;> with_reducible rfl)
      simp only [Act.put, List.setIfInBounds_toArray, List.set_cons_zero, List.set_cons_succ]
      refine take_at (i := 2) (v := ?v99) rfl (by kernel_rfl) (by kernel_rfl) (by kernel_rfl) (fun _ _ _ h => h) (Or.inl ⟨by rfl, ?y99⟩) hHeld ?t99
      case y99 => (intro wx hSw; go_simp <;> with_reducible rfl)
      simp only [Act.put, List.setIfInBounds_toArray, List.set_cons_zero, List.set_cons_succ]
      refine take_at (i := 3) (v := ?v100) rfl (by kernel_rfl) (by kernel_rfl) (by kernel_rfl) (fun _ _ _ h => h) (Or.inl ⟨by rfl, ?y100⟩) hHeld ?t100
      case y100 => (intro wx hSw; go_simp <;> with_reducible rfl)
      simp only [Act.put, List.setIfInBounds_toArray, List.set_cons_zero, List.set_cons_succ]
      refine take_at (i := 4) (v := ?v101) rfl (by kernel_rfl) (by kernel_rfl) (by kernel_rfl) (fun _ _ _ h => h) (Or.inl ⟨by rfl, ?y101⟩) hHeld ?t101
      case y101 => (intro wx hSw; go_simp <;> with_reducible rfl)
      simp only [Act.put, List.setIfInBounds_toArray, List.set_cons_zero, List.set_cons_succ]
      refine take_at (i := 5) (v := ?v102) rfl (by kernel_rfl) (by kernel_rfl) (by kernel_rfl) (fun _ _ _ h => h) (Or.inl ⟨by rfl, ?y102⟩) hHeld ?t102
      case y102 => (intro wx hSw; have hi0 : (u : Int) < 6 := (by omega); go_simp <;> with_reducible rfl)
      simp only [Act.put, List.setIfInBounds_toArray, List.set_cons_zero, List.set_cons_succ]
      refine take_at (i := 6) (v := ?v103) rfl (by kernel_rfl) (by kernel_rfl) (by kernel_rfl) (fun _ _ _ h => h) (Or.inl ⟨by rfl, ?y103⟩) hHeld ?t103
      case y103 => (intro wx hSw; have hi0 : (i : Int) < 6 := (by omega); go_simp <;> with_reducible rfl)
      simp only [Act.put, List.setIfInBounds_toArray, List.set_cons_zero, List.set_cons_succ]
      refine take_at (i := 7) (v := ?v104) rfl (by kernel_rfl) (by kernel_rfl) (by kernel_rfl) (fun _ _ _ h => h) (Or.inl ⟨by rfl, ?y104⟩) hHeld ?t104
      case y104 => (intro wx hSw; have hc0 : wx.cell? ⟨w.heap.size, u * 6 + i, none⟩ = some (.int .i64 (l (u * 6 + i))) := row_c hSw.1 (u * 6 + i) (by omega); go_simp <;> with_reducible rfl)
      simp only [Act.put, List.setIfInBounds_toArray, List.set_cons_zero, List.set_cons_succ]
      refine take_at (i := 8) (v := ?v105) rfl (by kernel_rfl) (by kernel_rfl) (by kernel_rfl) (fun _ _ _ h => h) (Or.inl ⟨by rfl, ?y105⟩) hHeld ?t105
      case y105 => (intro wx hSw; go_simp <;> with_reducible rfl)
      simp only [Act.put, List.setIfInBounds_toArray, List.set_cons_zero, List.set_cons_succ]
      refine take_at (i := 9) (v := ?v106) rfl (by kernel_rfl) (by kernel_rfl) (by kernel_rfl) (fun _ _ _ h => h) (Or.inl ⟨by rfl, ?y106⟩) hHeld ?t106
      case y106 => (intro wx hSw; have hi0 : (u : Int) < 6 := (by omega); go_simp <;> with_reducible rfl)
      simp only [Act.put, List.setIfInBounds_toArray, List.set_cons_zero, List.set_cons_succ]
      refine take_at (i := 10) (v := ?v107) rfl (by kernel_rfl) (by kernel_rfl) (by kernel_rfl) (fun _ _ _ h => h) (Or.inl ⟨by rfl, ?y107⟩) hHeld ?t107
      case y107 => (intro wx hSw; have hc0 : wx.cell? ⟨w.heap.size + 1 + 1 + 1, u, none⟩ = some (.int .i64 (s0.1 u)) := row_c hSw.2 u (by omega); go_simp <;> with_reducible rfl)
      simp only [Act.put, List.setIfInBounds_toArray, List.set_cons_zero, List.set_cons_succ]
      refine call_at (i := 11) (by kernel_rfl) rfl (fun K hK => ?_)
      go_simp
      refine (Mul_any b s1.2 (l (u * 6 + i)) (s0.1 u) _ BF_l1.drew).mono ?_
      rintro e w4 ⟨rfl, f4, k4⟩
      generalize e4 : mulS s1.2 (l (u * 6 + i)) (s0.1 u) = r4 at f4 ⊢
      have E4 : Hid _ := e4
      clear e4
      have K4 : Kept b w w4 := Kept.trans Kl1.drew k4
      have B0_4 : Arr w.heap.size (row 36 l) w4 := B0_l1.drew.kept k4 (Nat.ne_of_gt y1_BF)
      have B1_4 : Arr (w.heap.size + 1) (row 6 p) w4 := B1_l1.drew.kept k4 (Nat.ne_of_gt y2_BF)
      have B2_4 : Arr (w.heap.size + 1 + 1) (row 6 (fun _ => 0)) w4 := B2_l1.drew.kept k4 (Nat.ne_of_gt y3_BF)
      have B3_4 : Arr (w.heap.size + 1 + 1 + 1) (row 6 s0.1) w4 := B3_l1.drew.kept k4 (Nat.ne_of_gt y4_BF)
      have B4_4 : Arr w2.heap.size (row 6 r2.1) w4 := B4_l1.drew.kept k4 (Nat.ne_of_gt y5_BF)
      have z4 := B4_4.lies
      clear hHeld
      refine hK.out _ _ ⟨B0_4, B3_4⟩ (fun hHeld => ?_)
      clear hK K BF_l1 B0_l1 B1_l1 B2_l1 B3_l1 B4_l1 k4
      refine call_at (i := 12) (by kernel_rfl) rfl (fun K hK => ?_)
      go_simp
      refine (Sub_any b r4.2 s1.1 r4.1 _ f4).mono ?_
      rintro e w5 ⟨rfl, f5, k5⟩
      generalize e5 : subS r4.2 s1.1 r4.1 = r5 at f5 ⊢
      have E5 : Hid _ := e5
      clear e5
      have K5 : Kept b w w5 := Kept.trans K4 k5
      have B0_5 : Arr w.heap.size (row 36 l) w5 := B0_4.kept k5 (Nat.ne_of_gt y1_BF)
      have B1_5 : Arr (w.heap.size + 1) (row 6 p) w5 := B1_4.kept k5 (Nat.ne_of_gt y2_BF)
      have B2_5 : Arr (w.heap.size + 1 + 1) (row 6 (fun _ => 0)) w5 := B2_4.kept k5 (Nat.ne_of_gt y3_BF)
      have B3_5 : Arr (w.heap.size + 1 + 1 + 1) (row 6 s0.1) w5 := B3_4.kept k5 (Nat.ne_of_gt y4_BF)
      have B4_5 : Arr w2.heap.size (row 6 r2.1) w5 := B4_4.kept k5 (Nat.ne_of_gt y5_BF)
      have z5 := B4_5.lies
      clear hHeld
      refine hK.out _ _ ⟨B0_5, B3_5⟩ (fun hHeld => ?_)
      clear hK K K4 f4 B0_4 B1_4 B2_4 B3_4 B4_4 k5
      refine take_at (i := 13) (v := ?v108) rfl (by kernel_rfl) (by kernel_rfl) (by kernel_rfl) (fun _ _ _ h => h) (Or.inl ⟨by rfl, ?y108⟩) hHeld ?t108
      case y108 => (intro wx hSw; go_simp <;> with_reducible rfl)
      simp only [Act.put, List.setIfInBounds_toArray, List.set_cons_zero, List.set_cons_succ]
      refine wpAnyH_done (by kernel_rfl) ?_ _
      clear hHeld
      go_wp2_with fail
      have hs1 : Hid (mSolveS_l1 l s0 i ((r2.1 i), s0.2) (k + 1) = (r5.1, r5.2)) := by show _ = _; unfold mSolveS_l1; simp only [Xu.out, El1.out, E4.out, E5.out]
      rw [hJ1.out]
      intro G_ hG_
      exact hG_ (r5.1, r5.2) _ _ _ _ _ _ _ _ _ _ _ _ _ _ _ _ _ _ _ _ _ _ _ _ _ _ _ _ _ _ _ _ _ _ _ _ _ _ _ _ _ _ _ _ _ _ _ _ _ _ _ _ _ _ _ _ _ _ hs1 (show _ = _ by omega) rfl K5 f5 B0_5 B1_5 B2_5 B3_5 B4_5
    · intro a Wl1 hI R
      rw [hJ1.out] at hI
      refine hI _ ?_
      clear hI hJ1
      intro r6 t1_1 t1_2 t1_4 t1_6 t1_7 t1_14 t1_15 t1_16 t1_17 t1_18 t1_19 t1_20 t1_21 t1_22 t1_23 t1_24 t1_25 t1_26 t1_27 t1_28 t1_29 t1_30 t1_31 t1_32 t1_33 t1_34 t1_35 t1_36 t1_37 t1_38 t1_39 t1_40 t1_41 t1_42 t1_43 t1_44 t1_45 t1_46 t1_47 t1_48 t1_49 t1_50 t1_51 t1_52 t1_53 t1_54 t1_55 t1_56 t1_57 t1_58 t1_59 t1_60 t1_61 t1_62 t1_63 t1_64 t1_65 v1 E6 V1 ea Kl1 BF_l1 B0_l1 B1_l1 B2_l1 B3_l1 B4_l1
      subst ea
      have zl1_BF := BF_l1.lies
      have zl1_B0 := B0_l1.lies
      have zl1_B1 := B1_l1.lies
      have zl1_B2 := B2_l1.lies
      have zl1_B3 := B3_l1.lies
      have zl1_B4 := B4_l1.lies
      obtain rfl : v1 = (n : Int) := by have := V1.out; omega
      clear V1
      have c8_B0_0 : Wl1.cell? ⟨w.heap.size, i * 6 + i, none⟩ = some (.int .i64 (l (i * 6 + i))) := row_c B0_l1 (i * 6 + i) (by omega)
      have i8_1 : (i : Int) < 6 := by omega
      go_wp2_with fail
      refine (Div_any b r6.2 r6.1 (l (i * 6 + i)) _ BF_l1).mono ?_
      rintro e w7 ⟨rfl, f7, k7⟩
      generalize e7 : divS r6.2 r6.1 (l (i * 6 + i)) = r7 at f7 ⊢
      have E7 : Hid _ := e7
      clear e7
      have K7 : Kept b w w7 := Kept.trans Kl1 k7
      have B0_7 : Arr w.heap.size (row 36 l) w7 := B0_l1.kept k7 (Nat.ne_of_gt y1_BF)
      have B1_7 : Arr (w.heap.size + 1) (row 6 p) w7 := B1_l1.kept k7 (Nat.ne_of_gt y2_BF)
      have B2_7 : Arr (w.heap.size + 1 + 1) (row 6 (fun _ => 0)) w7 := B2_l1.kept k7 (Nat.ne_of_gt y3_BF)
      have B3_7 : Arr (w.heap.size + 1 + 1 + 1) (row 6 s0.1) w7 := B3_l1.kept k7 (Nat.ne_of_gt y4_BF)
      have B4_7 : Arr w2.heap.size (row 6 r2.1) w7 := B4_l1.kept k7 (Nat.ne_of_gt y5_BF)
      have z7 := B4_7.lies
      clear c8_B0_0 i8_1 BF_l1 B0_l1 B1_l1 B2_l1 B3_l1 B4_l1 k7
      have c9_B3_0 : w7.cell? ⟨w.heap.size + 1 + 1 + 1, i, none⟩ = some (.int .i64 (s0.1 i)) := row_c B3_7 i (by omega)
      have g9_B3_1 := row_f B3_7 i (by omega)
      have i9_2 : (i : Int) < 6 := by omega
      go_wp2_with fail
      clear c9_B3_0 g9_B3_1 i9_2
      have hs0 : Hid (mSolveS_l0 l n r2 ((fun _ => 0), r2.2) (d + 1) = ((updF s0.1 i r7.1), r7.2)) := by show _ = _; unfold mSolveS_l0; simp only [Xi.out, El0.out, E6.out, E7.out]
      rw [hJ0.out]
      intro G_ hG_
      exact hG_ ((updF s0.1 i r7.1), r7.2) _ _ _ _ _ _ _ _ _ _ _ _ _ _ _ _ _ _ _ _ _ _ _ _ _ _ _ _ _ _ _ _ _ _ _ _ _ _ _ _ _ _ _ _ _ _ _ _ _ _ _ _ _ _ _ _ _ _ _ _ hs0 (show _ = _ by omega) rfl (K7.new _ _ (by omega) _) (f7.new (w.heap.size + 1 + 1 + 1) i (Nat.ne_of_lt y4_BF) (.int .i64 r7.1)) (B0_7.new (w.heap.size + 1 + 1 + 1) i (Nat.ne_of_lt y4_B0) (.int .i64 r7.1)) (B1_7.new (w.heap.size + 1 + 1 + 1) i (Nat.ne_of_lt y4_B1) (.int .i64 r7.1)) (B2_7.new (w.heap.size + 1 + 1 + 1) i (Nat.ne_of_lt y4_B2) (.int .i64 r7.1)) (row_put B3_7 i (by omega) r7.1) (B4_7.new (w.heap.size + 1 + 1 + 1) i (Nat.ne_of_gt y5_B3) (.int .i64 r7.1))
  · intro a Wl0 hI R
    rw [hJ0.out] at hI
    refine hI _ ?_
    clear hI hJ0
    intro r4 t0_1 t0_2 t0_4 t0_6 t0_7 t0_12 t0_13 t0_14 t0_15 t0_16 t0_17 t0_18 t0_19 t0_20 t0_21 t0_22 t0_23 t0_24 t0_25 t0_26 t0_27 t0_28 t0_29 t0_30 t0_31 t0_32 t0_33 t0_34 t0_35 t0_36 t0_37 t0_38 t0_39 t0_40 t0_41 t0_42 t0_43 t0_44 t0_45 t0_46 t0_47 t0_48 t0_49 t0_50 t0_51 t0_52 t0_53 t0_54 t0_55 t0_56 t0_57 t0_58 t0_59 t0_60 t0_61 t0_62 t0_63 t0_64 t0_65 v0 E4 V0 ea Kl0 BF_l0 B0_l0 B1_l0 B2_l0 B3_l0 B4_l0
    subst ea
    have zl0_BF := BF_l0.lies
    have zl0_B0 := B0_l0.lies
    have zl0_B1 := B1_l0.lies
    have zl0_B2 := B2_l0.lies
    have zl0_B3 := B3_l0.lies
    have zl0_B4 := B4_l0.lies
    obtain rfl : v0 = -1 := by have := V0.out; omega
    clear V0
    go_wp2_with (refine row_load rfl rfl rfl B3_l0 (by kernel_rfl) (by rw [row_len]; kernel_rfl) ?_)
    refine (msoundR_any b r4.2 r4.1 _ BF_l0).mono ?_
    rintro e w5 ⟨rfl, f5, k5⟩
    generalize e5 : msoundRS r4.2 r4.1 = r5 at f5 ⊢
    have E5 : Hid _ := e5
    clear e5
    have K5 : Kept b w w5 := Kept.trans Kl0 k5
    have B0_5 : Arr w.heap.size (row 36 l) w5 := B0_l0.kept k5 (Nat.ne_of_gt y1_BF)
    have B1_5 : Arr (w.heap.size + 1) (row 6 p) w5 := B1_l0.kept k5 (Nat.ne_of_gt y2_BF)
    have B2_5 : Arr (w.heap.size + 1 + 1) (row 6 (fun _ => 0)) w5 := B2_l0.kept k5 (Nat.ne_of_gt y3_BF)
    have B3_5 : Arr (w.heap.size + 1 + 1 + 1) (row 6 r4.1) w5 := B3_l0.kept k5 (Nat.ne_of_gt y4_BF)
    have B4_5 : Arr w2.heap.size (row 6 r2.1) w5 := B4_l0.kept k5 (Nat.ne_of_gt y5_BF)
    have z5 := B4_5.lies
    clear BF_l0 B0_l0 B1_l0 B2_l0 B3_l0 B4_l0 k5
    go_wp2_with (refine store_stop rfl (by kernel_rfl) ?_)
    refine Stop.mk (store_row (l' := row 6 r5.1) rfl rfl rfl rfl B2_5 (by simp only [row_len]) (by rw [row_len]; kernel_rfl) (row_one _ _) ?_)
    intro w6 B2_6 o6
    have K6 : Kept b w w6 := Kept.off K5 o6 (by omega)
    have BF_6 : Fl b r5.2 w6 := f5.off o6 (Nat.ne_of_lt y3_BF)
    have B0_6 : Arr w.heap.size (row 36 l) w6 := B0_5.off o6 (Nat.ne_of_lt y3_B0)
    have B1_6 : Arr (w.heap.size + 1) (row 6 p) w6 := B1_5.off o6 (Nat.ne_of_lt y3_B1)
    have B3_6 : Arr (w.heap.size + 1 + 1 + 1) (row 6 r4.1) w6 := B3_5.off o6 (Nat.ne_of_gt y4_B2)
    have B4_6 : Arr w2.heap.size (row 6 r2.1) w6 := B4_5.off o6 (Nat.ne_of_gt y5_B2)
    have z6_B2 := B2_6.lies
    have z6_BF := BF_6.lies
    have z6_B0 := B0_6.lies
    have z6_B1 := B1_6.lies
    have z6_B3 := B3_6.lies
    have z6_B4 := B4_6.lies
    clear K5 B2_5 f5 B0_5 B1_5 B3_5 B4_5 o6
    go_wp2_with (with_reducible refine post_stop ?_)
    refine Stop.mk ?_
    refine bodyPost_ret (v := .agg (row 6 r5.1).toArray) (results_arr Try.results12 B2_6 rfl (by kernel_rfl) (by rw [row_len]; kernel_rfl)) rfl ?_
    have hs : mSolveS bad l p n = (r5.1, r5.2) := by unfold mSolveS; simp only [E2.out, E4.out, E5.out]
    rw [hs]
    exact ⟨rfl, BF_6, K6⟩
end Go.Proofs.Ytcnbcdnjogopdaa
